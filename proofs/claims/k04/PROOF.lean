import PyProof.Rows.All
import Wide.All
import OpenK.AllK
import Wide.FinOn
import PyProof.EqAt
import PyProof.EqKinds
import PyProof.TupleCall
import HandS.ForMost
import HandS.IsInst
import HandS.TupAny
import HandS.Strs
import HandS.Replace
import HandS.SetKeys
import HandS.Style
import HandS.Deep
import HandS.TupLen
import HandS.More
import HandS.Walk
import HandS.Defaults
import HandS.Star
import HandS.DictComp
import HandS.TryOnly
import HandS.ExcOwn
import HandS.ExcIs
import HandS.WordsExc
import PySem.Challenge.RW_turnshelves_k04_bytes_of_data
set_option Elab.async false
set_option linter.all false
set_option maxRecDepth 100000
set_option maxHeartbeats 4000000
namespace Ow
open PySem PySem.Spec PyProof.Rows L2

/-- the def that the module's name x holds keeps sp, by k levels -/
structure Kn (P : Program) (w : World) (K : PySem.W.Frag) (mg : Str → Option Value) (base : Heap)
    (k : Nat) (x : Str) (ps : List Str) (sp : Sp) : Prop where
  ex : ∃ f fd, FnOk P w K mg base CX0 k f fd ps sp ∧ mg x = some (.ref f) ∧
    PySem.W.keepIn K (.ref f) = true ∧ Binds K fd ps []

theorem pe_kn {X : Cx} {k j : Nat} {x : Str} {ps : List Str} {sp : Sp} {p pos : Pos} {e : Expr}
    {es : List Expr} {t : TA} (c : Kn X.prog X.w X.K X.mg X.base k x ps sp) (hr : Room j X.A)
    (ha : PA X (e :: es) t) (hk : k ≤ j := by decide) (hg : Gl X x := by rfl)
    (hdb : (x == ("__debug__" : Str)) = false := by decide)
    (he : starEach (e :: es) X.env = (false, eval e X.env) :: starEach es X.env := by rfl)
    (hpl : (backTo pos (starEach es X.env)).any (·.1) = false := by rfl) :
    PE X (.Call (.Name x p) (e :: es) [] pos) (tCall sp [] E0 t) := by
  obtain ⟨f, fd, F, gm, kp, b⟩ := c.ex
  exact pe_call F (hr.mono hk) hg gm kp b .nil pass0 ha hdb he hpl

theorem hu64 {k : Nat} {A : Around} (hr : Room k A) : A.units + 64 < cLine := hr.units

/-- the heap but for what stands at p -/
def Gw (p : Addr) (H H' : Hp) : Prop := ∀ b o, b ≠ p → H b = some o → H' b = some o
theorem Gw.refl (p : Addr) (H : Hp) : Gw p H H := fun _ _ _ e => e
theorem Gw.trans {p : Addr} {H H1 H2 : Hp} (a : Gw p H H1) (b : Gw p H1 H2) : Gw p H H2 :=
  fun c o n e => b c o n (a c o n e)
theorem Gw.new {p q : Addr} {H : Hp} {o : HO} (n : H q = none) : Gw p H (upd H q o) :=
  fun b u _ e => by rw [upd_ne (ne_of_none e n)]; exact e
theorem Gw.put {p : Addr} {H : Hp} {o : HO} : Gw p H (upd H p o) :=
  fun b u nb e => by rw [upd_ne nb]; exact e
theorem Gw.same {p : Addr} {H H' : Hp} (s : Same H H') : Gw p H H' := fun b o _ e => s b o e
theorem Same.new {q : Addr} {H : Hp} {o : HO} (n : H q = none) : Same H (upd H q o) :=
  fun b u e => by rw [upd_ne (ne_of_none e n)]; exact e

/-- what a drawer keeps at p: its numbers (at d) and its place -/
def Rng (d : Addr) (H : Hp) (p : Addr) : Prop := ∃ (ds : List Int) (k : Int),
  H p = some (.lst [.ref d, .int k]) ∧ 0 ≤ k ∧ H d = some (.lst (ds.map V.int))
theorem Rng.ne {H : Hp} {p d : Addr} {k : Int} {ds : List Int} (h : H p = some (.lst [.ref d, .int k]))
    (g : H d = some (.lst (ds.map V.int))) : d ≠ p := by
  intro e
  subst e
  rw [h] at g
  injection g with g
  injection g with g
  cases ds with
  | nil => cases g
  | cons a r =>
    rw [List.map_cons] at g
    injection g with g1 _
    cases g1
theorem Rng.same {H H' : Hp} {p d : Addr} (r : Rng d H p) (s : Same H H') : Rng d H' p := by
  obtain ⟨ds, k, h, z, g⟩ := r
  exact ⟨ds, k, s _ _ h, z, s _ _ g⟩
theorem Rng.free {H : Hp} {p d q : Addr} (r : Rng d H p) (n : H q = none) : q ≠ p ∧ q ≠ d := by
  obtain ⟨ds, k, h, _, g⟩ := r
  exact ⟨(ne_of_none h n).symm, (ne_of_none g n).symm⟩
theorem Rng.upd {H : Hp} {p d q : Addr} {o : HO} (r : Rng d H p) (n : q ≠ p ∧ q ≠ d) : Rng d (L2.upd H q o) p := by
  obtain ⟨ds, k, h, z, g⟩ := r
  exact ⟨ds, k, by rw [upd_ne n.1.symm]; exact h, z, by rw [upd_ne n.2.symm]; exact g⟩

/-- a call that draws from p: whatever x it hands back, of which R tells -/
def Drw (p d : Addr) (H : Hp) (Q : VK) (R : V → Hp → Prop) : Prop :=
  ∀ x H', R x H' → Gw p H H' → Rng d H' p → Q x H'
theorem Gw.over {p o : Addr} {H H' : Hp} {u : HO} (g : Gw p H H') (n : H o = none) : Gw p H (upd H' o u) :=
  fun b x nb e => by rw [upd_ne (ne_of_none e n)]; exact g b x nb e
theorem Same.over {o : Addr} {H H' : Hp} {u : HO} (g : Same H H') (n : H o = none) : Same H (upd H' o u) :=
  fun b x e => by rw [upd_ne (ne_of_none e n)]; exact g b x e
theorem Gw.keep {p q : Addr} {H H' : Hp} {o : HO} (g : Gw p H H') (h : H q = some o) (n : q ≠ p) : H' q = some o := g q o n h
/-- what is free behind was free before -/
theorem Gw.free {p q : Addr} {H H' : Hp} (g : Gw p H H') (n : H' q = none) (ne : q ≠ p) : H q = none := by
  cases z : H q with
  | none => rfl
  | some o =>
    rw [g q o ne z] at n
    cases n
theorem small {n m : Nat} (h : n ≤ m) (hm : m ≤ 10000) : n < sizeLine :=
  Nat.lt_of_le_of_lt (Nat.le_trans h hm) (by decide)
end Ow
namespace Ow
open PySem PySem.Spec PyProof.Rows L2
theorem pget_list {X : Cx} : PGet X (rIxL X.K) := by
  intro pins s σ H o i ov iv Q I ro ri h
  obtain ⟨p, xs, n, v, rfl, rfl, hs, ha, q⟩ := h
  cases ro
  obtain ⟨t, rfl⟩ := ri
  obtain ⟨its, r, pl, hz⟩ := I.list hs
  obtain ⟨j, h1, h2, h3, h4, h5⟩ := atI_get ha
  obtain ⟨u, eu, ru⟩ := r.get h2
  have ln := line63
  have hl := r.length
  by_cases h0 : 0 ≤ n
  · have ej : n.toNat = j := by
      rw [seqIndex_of h0 h5] at h1
      exact Option.some.inj h1
    exact wpAny_getItem_list pl.isList h0 (by omega) (by rw [ej]; simpa using eu) ⟨v, H, I, ru, q⟩
  · have ej : (n + (its.toArray.size : Int)).toNat = j := by
      rw [seqIndex_neg (by omega) h4] at h1
      rw [List.size_toArray, ← hl]
      exact Option.some.inj h1
    exact wpAny_getItem_list_neg pl.isList (by omega) (by rw [List.size_toArray]; omega) (by omega)
      (by rw [ej]; simpa using eu) ⟨v, H, I, ru, q⟩
theorem at_in {α : Type} {xs : List α} {v : Int} (h0 : 0 ≤ v) (h1 : v < xs.length) : ∃ y, atI xs v = some y ∧ y ∈ xs := by
  have h : v.toNat < xs.length := by omega
  have e : v = ((v.toNat : Nat) : Int) := by omega
  refine ⟨xs[v.toNat], ?_, List.getElem_mem h⟩
  have z := atI_nat (xs := xs) (j := v.toNat) (List.getElem?_eq_getElem h)
  rw [← e] at z
  exact z
end Ow
namespace Ow
open PySem PySem.Spec PyProof.Rows L2
/-- a built-in class by its name -/
theorem pe_ty {X : Cx} (n : String) {x : Str} {pos : Pos} (hg : Gl X x) (hm : X.mg x = none) (hv : bootBuiltins x = some (.type n))
    (hn : x ≠ "__name__" := by decide) (hd : (x == ("__debug__" : Str)) = false := by decide) : PE X (.Name x pos) (tC (.ty n)) :=
  pe_bltn hg hm hv rfl hn hd
theorem sz (n : Nat) (h : n ≤ 1000 := by decide) : n ≤ sizeLine := Nat.le_trans h (by decide)
/-- a statement and the rest, with a word between -/
theorem pss_mid {X : Cx} {st : Stmt} {rest : List Stmt} {t u : TS} (a : PS X st t) (b : PSs X rest u) :
    PSs X (st :: rest) fun D σ H => ∃ Mid : L2.St → Hp → Prop, t { D with nx := Mid } σ H ∧ ∀ σ' H', Mid σ' H' → u D σ' H' := by
  refine ⟨fun pins s σ H D I ⟨Mid, hm, hu⟩ => ?_⟩
  refine wpAny_execs_cons (thn (a.run pins s σ H { D with nx := Mid } I hm) fun f s1 q => ?_)
  cases f with
  | next =>
    obtain ⟨σ', H', I', q⟩ := q
    exact b.run pins s1 σ' H' D I' (hu σ' H' q)
  | ret v => exact q
  | brk => exact q
  | cont => exact q
end Ow
namespace Tlz
open PySem PySem.SeqAt PySem.MeetsSeq PySem.MeetsSeq2 PySem.MeetsSeq3
open PySem.AutoSeq1 (wpAny_loadPart')

/-- x op y gives the answer k and leaves the state -/
def Rc (op : CmpOp) (A : Around) (s : Shared) (x y : Value) (k : Bool) : Prop :=
  ∀ (P : Program) (w : World) (E Q : Value → Shared → Prop), Q (.bool k) s →
    wpAny (model P w) A (richCompare op x y) Q E s

/-- the first of the next k places, from i on, that differs tells; fin if none does -/
def scan (eq ans : Nat → Bool) (fin : Bool) (i : Nat) : Nat → Bool
  | 0 => fin
  | k + 1 => cond (eq i) (scan eq ans fin (i + 1) k) (ans i)

theorem scan_eq {eq ans : Nat → Bool} {fin : Bool} {i k : Nat} (h : eq i = true) :
    scan eq ans fin i (k + 1) = scan eq ans fin (i + 1) k := by
  show cond (eq i) _ _ = _
  rw [h]; rfl
theorem scan_ne {eq ans : Nat → Bool} {fin : Bool} {i k : Nat} (h : eq i = false) :
    scan eq ans fin i (k + 1) = ans i := by
  show cond (eq i) _ _ = _
  rw [h]; rfl

theorem ltBody (a b : Addr) (us vs : Array Value) (n m : Nat) (da db : Option Addr)
    (sa sb : Array (Option Value)) (eq ans : Nat → Bool) :
    Meets (Builtin.«tuple.__lt__» ⟨[.ref a, .ref b], []⟩) (fun A R s =>
      s.heap.get? a = some ⟨.type "tuple", da, .seq us n, sa⟩ ∧
      s.heap.get? b = some ⟨.type "tuple", db, .seq vs m, sb⟩ ∧
      (∀ j (p : j < us.size) (q : j < vs.size), EqAt A.in1 s us[j] vs[j] (eq j)) ∧
      (∀ j (p : j < us.size) (q : j < vs.size), (∀ i, i < j → eq i = true) → eq j = false →
        Rc .Lt A.in1 s us[j] vs[j] (ans j)) ∧
      R (.ok (.ret (.bool (scan eq ans (decide (us.size < vs.size)) 0 (min us.size vs.size))))) s) :=
  .of_wp fun P w A R s ⟨ha, hb, he, hr, h⟩ => by
    obtain ⟨hp, g, d, tk, os⟩ := s
    have sub := AutoSeq1.sub_tuple_tuple
    have len : (us.toList.zip vs.toList).length = min us.size vs.size := by simp
    wp_walk using wpAny_loadPart' ha, wpAny_loadPart' hb, wpAny_forIn_list _ (fun rest c s' => c.1 = none ∧
      s' = ⟨hp, g, d, tk, os⟩ ∧ ∃ i, rest = (us.toList.zip vs.toList).drop i ∧ (∀ z, z < i → eq z = true) ∧
      R (.ok (.ret (.bool (scan eq ans (decide (us.size < vs.size)) i (min us.size vs.size - i))))) s') _
    case turn =>
      rintro ⟨y, x⟩ rest c s' ⟨hc, rfl, i, hz, pre, hR⟩
      have hi : i < min us.size vs.size := by
        rw [← len]
        apply Nat.lt_of_not_le
        intro z
        rw [List.drop_of_length_le z] at hz
        cases hz
      have p : i < us.size := by omega
      have q : i < vs.size := by omega
      rw [List.drop_eq_getElem_cons (by rw [len]; exact hi)] at hz
      injection hz with e1 e2
      have ey : y = us[i] := by simpa using congrArg Prod.fst e1
      have ex : x = vs[i] := by simpa using congrArg Prod.snd e1
      subst ey ex
      have cut : min us.size vs.size - i = min us.size vs.size - (i + 1) + 1 := by omega
      rw [cut] at hR
      refine wpAny_bind (he i p q P w _ _ ?_)
      by_cases k : eq i = true
      · rw [scan_eq k] at hR
        rw [k]
        wp_walk
        refine ⟨rfl, rfl, i + 1, e2, fun z hz => ?_, hR⟩
        by_cases t : z = i
        · rw [t]; exact k
        · exact pre z (by omega)
      · have k' : eq i = false := by simpa using k
        rw [scan_ne k'] at hR
        have r := hr i p q pre k' P w
        rw [k']
        wp_walk using r
        exact ⟨_, rfl, by simpa using hR⟩
    case fin =>
      rintro ⟨c1, c2⟩ s' ⟨hc, rfl, i, hz, pre, hR⟩
      have hc' : c1 = none := hc
      subst hc'
      have hi : min us.size vs.size ≤ i := by
        apply Nat.le_of_not_lt
        intro z
        rw [List.drop_eq_getElem_cons (by rw [len]; exact z)] at hz
        cases hz
      rw [Nat.sub_eq_zero_of_le hi] at hR
      wp_walk
      exact ⟨_, rfl, by simpa [Builtin.Tuple.tupleCompareSizes, scan] using hR⟩
    case h => exact ⟨rfl, rfl, 0, rfl, fun _ z => absurd z (Nat.not_lt_zero _), by simpa using h⟩

theorem gtBody (a b : Addr) (us vs : Array Value) (n m : Nat) (da db : Option Addr)
    (sa sb : Array (Option Value)) (eq ans : Nat → Bool) :
    Meets (Builtin.«tuple.__gt__» ⟨[.ref a, .ref b], []⟩) (fun A R s =>
      s.heap.get? a = some ⟨.type "tuple", da, .seq us n, sa⟩ ∧
      s.heap.get? b = some ⟨.type "tuple", db, .seq vs m, sb⟩ ∧
      (∀ j (p : j < us.size) (q : j < vs.size), EqAt A.in1 s us[j] vs[j] (eq j)) ∧
      (∀ j (p : j < us.size) (q : j < vs.size), (∀ i, i < j → eq i = true) → eq j = false →
        Rc .Gt A.in1 s us[j] vs[j] (ans j)) ∧
      R (.ok (.ret (.bool (scan eq ans (decide (us.size > vs.size)) 0 (min us.size vs.size))))) s) :=
  .of_wp fun P w A R s ⟨ha, hb, he, hr, h⟩ => by
    obtain ⟨hp, g, d, tk, os⟩ := s
    have sub := AutoSeq1.sub_tuple_tuple
    have len : (us.toList.zip vs.toList).length = min us.size vs.size := by simp
    wp_walk using wpAny_loadPart' ha, wpAny_loadPart' hb, wpAny_forIn_list _ (fun rest c s' => c.1 = none ∧
      s' = ⟨hp, g, d, tk, os⟩ ∧ ∃ i, rest = (us.toList.zip vs.toList).drop i ∧ (∀ z, z < i → eq z = true) ∧
      R (.ok (.ret (.bool (scan eq ans (decide (us.size > vs.size)) i (min us.size vs.size - i))))) s') _
    case turn =>
      rintro ⟨y, x⟩ rest c s' ⟨hc, rfl, i, hz, pre, hR⟩
      have hi : i < min us.size vs.size := by
        rw [← len]
        apply Nat.lt_of_not_le
        intro z
        rw [List.drop_of_length_le z] at hz
        cases hz
      have p : i < us.size := by omega
      have q : i < vs.size := by omega
      rw [List.drop_eq_getElem_cons (by rw [len]; exact hi)] at hz
      injection hz with e1 e2
      have ey : y = us[i] := by simpa using congrArg Prod.fst e1
      have ex : x = vs[i] := by simpa using congrArg Prod.snd e1
      subst ey ex
      have cut : min us.size vs.size - i = min us.size vs.size - (i + 1) + 1 := by omega
      rw [cut] at hR
      refine wpAny_bind (he i p q P w _ _ ?_)
      by_cases k : eq i = true
      · rw [scan_eq k] at hR
        rw [k]
        wp_walk
        refine ⟨rfl, rfl, i + 1, e2, fun z hz => ?_, hR⟩
        by_cases t : z = i
        · rw [t]; exact k
        · exact pre z (by omega)
      · have k' : eq i = false := by simpa using k
        rw [scan_ne k'] at hR
        have r := hr i p q pre k' P w
        rw [k']
        wp_walk using r
        exact ⟨_, rfl, by simpa using hR⟩
    case fin =>
      rintro ⟨c1, c2⟩ s' ⟨hc, rfl, i, hz, pre, hR⟩
      have hc' : c1 = none := hc
      subst hc'
      have hi : min us.size vs.size ≤ i := by
        apply Nat.le_of_not_lt
        intro z
        rw [List.drop_eq_getElem_cons (by rw [len]; exact z)] at hz
        cases hz
      rw [Nat.sub_eq_zero_of_le hi] at hR
      wp_walk
      exact ⟨_, rfl, by simpa [Builtin.Tuple.tupleCompareSizes, scan] using hR⟩
    case h => exact ⟨rfl, rfl, 0, rfl, fun _ z => absurd z (Nat.not_lt_zero _), by simpa using h⟩

theorem Rc.tupLt {A : Around} {s : Shared} {a b : Addr} {us vs : Array Value} {eq ans : Nat → Bool}
    (ta : s.heap.IsTuple a us) (tb : s.heap.IsTuple b vs) (hu : A.units < cLine)
    (he : ∀ j (p : j < us.size) (q : j < vs.size), EqAt A.in1 s us[j] vs[j] (eq j))
    (hr : ∀ j (p : j < us.size) (q : j < vs.size), (∀ i, i < j → eq i = true) → eq j = false →
      Rc .Lt A.in1 s us[j] vs[j] (ans j)) :
    Rc .Lt A s (.ref a) (.ref b) (scan eq ans (decide (us.size < vs.size)) 0 (min us.size vs.size)) := by
  intro P w E Q h
  obtain ⟨⟨c1, da, t1, sa⟩, ga, ca, n, ea⟩ := id ta
  obtain ⟨⟨c2, db, t2, sb⟩, gb, cb, m, eb⟩ := id tb
  have ca1 : c1 = Value.type "tuple" := ca
  have cb1 : c2 = Value.type "tuple" := cb
  have ea1 : t1 = .seq us n := ea
  have eb1 : t2 = .seq vs m := eb
  subst ca1 cb1 ea1 eb1
  exact richCompare_meets_room (op := .Lt) ⟨_, ga, rfl⟩ ⟨_, gb, rfl⟩ F.slot_tuple_lt F.entry_tuple_lt
    (F.args_tuple_lt_2 _ _) (ltBody a b us vs n m da db sa sb eq ans)
    ⟨ga, gb, he, hr, fun z => (nomatch z), h⟩ hu

theorem Rc.tupGt {A : Around} {s : Shared} {a b : Addr} {us vs : Array Value} {eq ans : Nat → Bool}
    (ta : s.heap.IsTuple a us) (tb : s.heap.IsTuple b vs) (hu : A.units < cLine)
    (he : ∀ j (p : j < us.size) (q : j < vs.size), EqAt A.in1 s us[j] vs[j] (eq j))
    (hr : ∀ j (p : j < us.size) (q : j < vs.size), (∀ i, i < j → eq i = true) → eq j = false →
      Rc .Gt A.in1 s us[j] vs[j] (ans j)) :
    Rc .Gt A s (.ref a) (.ref b) (scan eq ans (decide (us.size > vs.size)) 0 (min us.size vs.size)) := by
  intro P w E Q h
  obtain ⟨⟨c1, da, t1, sa⟩, ga, ca, n, ea⟩ := id ta
  obtain ⟨⟨c2, db, t2, sb⟩, gb, cb, m, eb⟩ := id tb
  have ca1 : c1 = Value.type "tuple" := ca
  have cb1 : c2 = Value.type "tuple" := cb
  have ea1 : t1 = .seq us n := ea
  have eb1 : t2 = .seq vs m := eb
  subst ca1 cb1 ea1 eb1
  exact richCompare_meets_room (op := .Gt) ⟨_, ga, rfl⟩ ⟨_, gb, rfl⟩ F.slot_tuple_gt F.entry_tuple_gt
    (F.args_tuple_gt_2 _ _) (gtBody a b us vs n m da db sa sb eq ans)
    ⟨ga, gb, he, hr, fun z => (nomatch z), h⟩ hu
end Tlz
namespace Tlz
open PySem PySem.SeqAt PyProof.Rows
def ltL (f : PyData → PyData → Bool) : List PyData → List PyData → Bool
  | [], [] => false
  | [], _ :: _ => true
  | _ :: _, [] => false
  | x :: xs, y :: ys => if PyData.eqv x y = true then ltL f xs ys else f x y
def gtL (f : PyData → PyData → Bool) : List PyData → List PyData → Bool
  | [], [] => false
  | [], _ :: _ => false
  | _ :: _, [] => true
  | x :: xs, y :: ys => if PyData.eqv x y = true then gtL f xs ys else f x y
/-- comparable as far as it is asked -/
def okL (f : PyData → PyData → Bool) : List PyData → List PyData → Bool
  | x :: xs, y :: ys => if PyData.eqv x y = true then okL f xs ys else f x y
  | [], _ => true
  | _ :: _, [] => true
def ltD : Nat → PyData → PyData → Bool
  | _, .int i, .int j => decide (i < j)
  | _, .str x, .str y => decide (x.cps.toList < y.cps.toList)
  | n + 1, .tuple xs, .tuple ys => ltL (ltD n) xs ys
  | _, _, _ => false
def gtD : Nat → PyData → PyData → Bool
  | _, .int i, .int j => decide (j < i)
  | _, .str x, .str y => decide (y.cps.toList < x.cps.toList)
  | n + 1, .tuple xs, .tuple ys => gtL (gtD n) xs ys
  | _, _, _ => false
def okD : Nat → PyData → PyData → Bool
  | _, .int _, .int _ => true
  | _, .str _, .str _ => true
  | n + 1, .tuple xs, .tuple ys => okL (okD n) xs ys
  | _, _, _ => false
abbrev at_ (xs : List PyData) (j : Nat) : PyData := xs.getD j .none
theorem scan_shift (eq ans : Nat → Bool) (fin : Bool) : ∀ k i : Nat,
    scan eq ans fin (i + 1) k = scan (fun j => eq (j + 1)) (fun j => ans (j + 1)) fin i k
  | 0, _ => rfl
  | k + 1, i => by
    show cond (eq (i + 1)) (scan eq ans fin (i + 1 + 1) k) (ans (i + 1)) = cond (eq (i + 1)) (scan _ _ fin (i + 1) k) (ans (i + 1))
    rw [scan_shift eq ans fin k (i + 1)]
theorem scan_lt (f : PyData → PyData → Bool) : ∀ xs ys : List PyData,
    scan (fun j => PyData.eqv (at_ xs j) (at_ ys j)) (fun j => f (at_ xs j) (at_ ys j)) (decide (xs.length < ys.length)) 0 (min xs.length ys.length) = ltL f xs ys
  | [], [] => rfl
  | [], _ :: ys => by simp [scan, ltL]
  | _ :: xs, [] => by simp [scan, ltL]
  | x :: xs, y :: ys => by
    have e : min (x :: xs).length (y :: ys).length = min xs.length ys.length + 1 := by
      rw [List.length_cons, List.length_cons]; omega
    have d : decide ((x :: xs).length < (y :: ys).length) = decide (xs.length < ys.length) := by
      rw [List.length_cons, List.length_cons]
      exact decide_eq_decide.mpr (by omega)
    rw [e, d]
    show cond (PyData.eqv x y) (scan _ _ _ (0 + 1) (min xs.length ys.length)) (f x y) = _
    rw [scan_shift]
    have ih := scan_lt f xs ys
    unfold ltL
    cases h : PyData.eqv x y with
    | true => exact ih
    | false => rfl
theorem scan_gt (f : PyData → PyData → Bool) : ∀ xs ys : List PyData,
    scan (fun j => PyData.eqv (at_ xs j) (at_ ys j)) (fun j => f (at_ xs j) (at_ ys j)) (decide (xs.length > ys.length)) 0 (min xs.length ys.length) = gtL f xs ys
  | [], [] => rfl
  | [], _ :: ys => by simp [scan, gtL]
  | _ :: xs, [] => by simp [scan, gtL]
  | x :: xs, y :: ys => by
    have e : min (x :: xs).length (y :: ys).length = min xs.length ys.length + 1 := by
      rw [List.length_cons, List.length_cons]; omega
    have d : decide ((x :: xs).length > (y :: ys).length) = decide (xs.length > ys.length) := by
      rw [List.length_cons, List.length_cons]
      exact decide_eq_decide.mpr (by omega)
    rw [e, d]
    show cond (PyData.eqv x y) (scan _ _ _ (0 + 1) (min xs.length ys.length)) (f x y) = _
    rw [scan_shift]
    have ih := scan_gt f xs ys
    unfold gtL
    cases h : PyData.eqv x y with
    | true => exact ih
    | false => rfl
theorem okL_at (f : PyData → PyData → Bool) : ∀ (xs ys : List PyData), okL f xs ys = true → ∀ j, j < xs.length → j < ys.length →
    (∀ i, i < j → PyData.eqv (at_ xs i) (at_ ys i) = true) → PyData.eqv (at_ xs j) (at_ ys j) = false → f (at_ xs j) (at_ ys j) = true
  | [], _, _, j, h, _, _, _ => absurd h (Nat.not_lt_zero _)
  | _ :: _, [], _, j, _, h, _, _ => absurd h (Nat.not_lt_zero _)
  | x :: xs, y :: ys, h, j, h1, h2, pre, ne => by
    unfold okL at h
    cases j with
    | zero =>
      have n : PyData.eqv x y = false := ne
      rw [n] at h
      exact h
    | succ j =>
      have p : PyData.eqv x y = true := pre 0 (Nat.succ_pos _)
      rw [p] at h
      exact okL_at f xs ys h j (by simpa using h1) (by simpa using h2) (fun i hi => pre (i + 1) (by omega)) ne
theorem reads_at {h : Heap} : ∀ {vs : List Value} {ds : List PyData} {as : List Addr}, ReadsAll h vs ds as → ∀ j (p : j < vs.length), ∃ bs, Reads h vs[j] (at_ ds j) bs
  | _, _, _, .nil, j, p => absurd p (Nat.not_lt_zero _)
  | _, _, _, .cons r _, 0, _ => ⟨_, r⟩
  | _, _, _, .cons _ t, j + 1, p => reads_at t j (by simpa using p)
theorem lay_at : ∀ (ds : List PyData), PyData.canLayAll0 ds = true → ∀ j, j < ds.length → (at_ ds j).canLay0 = true
  | [], _, j, p => absurd p (Nat.not_lt_zero _)
  | d :: ds, h, j, p => by
    unfold PyData.canLayAll0 at h
    rw [Bool.and_eq_true] at h
    cases j with
    | zero => exact h.1
    | succ j => exact lay_at ds h.2 j (by simpa using p)
theorem deep_at : ∀ (ds : List PyData) (n : Nat), PyData.depthAll ds ≤ n → ∀ j, (at_ ds j).depth ≤ n
  | [], n, _, j => by
    show (PyData.none).depth ≤ n
    exact Nat.zero_le _
  | d :: ds, n, h, j => by
    unfold PyData.depthAll at h
    cases j with
    | zero => exact Nat.le_trans (Nat.le_max_left _ _) h
    | succ j => exact deep_at ds n (Nat.le_trans (Nat.le_max_right _ _) h) j
theorem rcLt : ∀ (n : Nat) (d e : PyData) (A : Around) (s : Shared) (v u : Value) (as bs : List Addr), Reads s.heap v d as → Reads s.heap u e bs →
    d.canLay0 = true → e.canLay0 = true → d.depth ≤ n → okD n d e = true → A.units + n < cLine → Rc .Lt A s v u (ltD n d e) := by
  intro n
  induction n with
  | zero =>
    intro d e A s v u as bs rv ru cd ce dd ok hu
    cases rv with
    | int i t =>
      cases ru with
      | int j t' => exact fun _ _ _ _ h => PyProof.Rows.lt_int h
      | _ => exact absurd ok (by simp [okD])
    | str x t =>
      cases ru with
      | str y t' => exact fun _ _ _ _ h => PyProof.Rows.lt_str h
      | _ => exact absurd ok (by simp [okD])
    | _ => exact absurd ok (by simp [okD])
  | succ n ih =>
    intro d e A s v u as bs rv ru cd ce dd ok hu
    cases rv with
    | int i t =>
      cases ru with
      | int j t' => exact fun _ _ _ _ h => PyProof.Rows.lt_int h
      | _ => exact absurd ok (by simp [okD])
    | str x t =>
      cases ru with
      | str y t' => exact fun _ _ _ _ h => PyProof.Rows.lt_str h
      | _ => exact absurd ok (by simp [okD])
    | @tuple a o vs k xs as h1 h2 h3 h4 =>
      cases ru with
      | @tuple b o' ws k' ys bs g1 g2 g3 g4 =>
        have lx : vs.size = xs.length := by simpa using ReadsAll.lenAny h4
        have ly : ws.size = ys.length := by simpa using ReadsAll.lenAny g4
        have dx : PyData.depthAll xs ≤ n := by
          have z : PyData.depthAll xs + 1 ≤ n + 1 := dd
          omega
        have ok' : okL (okD n) xs ys = true := ok
        have R := Rc.tupLt (A := A) (eq := fun j => PyData.eqv (at_ xs j) (at_ ys j)) (ans := fun j => ltD n (at_ xs j) (at_ ys j)) (a := a) (b := b) (us := vs) (vs := ws) (s := s)
          ⟨_, h1, h2, _, h3⟩ ⟨_, g1, g2, _, g3⟩ (by omega) (fun j p q => by
            obtain ⟨_, r1⟩ := reads_at h4 j (by simpa using p)
            obtain ⟨_, r2⟩ := reads_at g4 j (by simpa using q)
            have := eqAt_reads _ _ A.in1 s _ _ _ _ r1 r2 (lay_at xs cd j (by omega)) (lay_at ys ce j (by omega)) (by
              have z := deep_at xs n dx j
              have zz : min (at_ xs j).depth (at_ ys j).depth ≤ (at_ xs j).depth := Nat.min_le_left _ _
              show A.units + 1 + _ < cLine
              omega)
            simpa using this) (fun j p q pre ne => by
            obtain ⟨_, r1⟩ := reads_at h4 j (by simpa using p)
            obtain ⟨_, r2⟩ := reads_at g4 j (by simpa using q)
            have := ih _ _ A.in1 s _ _ _ _ r1 r2 (lay_at xs cd j (by omega)) (lay_at ys ce j (by omega)) (deep_at xs n dx j)
              (okL_at (okD n) xs ys ok' j (by omega) (by omega) pre ne) (by
                show A.units + 1 + n < cLine
                omega)
            simpa using this)
        rw [lx, ly, scan_lt] at R
        exact R
      | _ => exact absurd ok (by simp [okD])
    | _ => exact absurd ok (by simp [okD])
theorem rcGt : ∀ (n : Nat) (d e : PyData) (A : Around) (s : Shared) (v u : Value) (as bs : List Addr), Reads s.heap v d as → Reads s.heap u e bs →
    d.canLay0 = true → e.canLay0 = true → d.depth ≤ n → okD n d e = true → A.units + n < cLine → Rc .Gt A s v u (gtD n d e) := by
  intro n
  induction n with
  | zero =>
    intro d e A s v u as bs rv ru cd ce dd ok hu
    cases rv with
    | int i t =>
      cases ru with
      | int j t' => exact fun _ _ _ _ h => PyProof.Rows.gt_int h
      | _ => exact absurd ok (by simp [okD])
    | str x t =>
      cases ru with
      | str y t' => exact fun _ _ _ _ h => PySem.P.gt_str h
      | _ => exact absurd ok (by simp [okD])
    | _ => exact absurd ok (by simp [okD])
  | succ n ih =>
    intro d e A s v u as bs rv ru cd ce dd ok hu
    cases rv with
    | int i t =>
      cases ru with
      | int j t' => exact fun _ _ _ _ h => PyProof.Rows.gt_int h
      | _ => exact absurd ok (by simp [okD])
    | str x t =>
      cases ru with
      | str y t' => exact fun _ _ _ _ h => PySem.P.gt_str h
      | _ => exact absurd ok (by simp [okD])
    | @tuple a o vs k xs as h1 h2 h3 h4 =>
      cases ru with
      | @tuple b o' ws k' ys bs g1 g2 g3 g4 =>
        have lx : vs.size = xs.length := by simpa using ReadsAll.lenAny h4
        have ly : ws.size = ys.length := by simpa using ReadsAll.lenAny g4
        have dx : PyData.depthAll xs ≤ n := by
          have z : PyData.depthAll xs + 1 ≤ n + 1 := dd
          omega
        have ok' : okL (okD n) xs ys = true := ok
        have R := Rc.tupGt (A := A) (eq := fun j => PyData.eqv (at_ xs j) (at_ ys j)) (ans := fun j => gtD n (at_ xs j) (at_ ys j)) (a := a) (b := b) (us := vs) (vs := ws) (s := s)
          ⟨_, h1, h2, _, h3⟩ ⟨_, g1, g2, _, g3⟩ (by omega) (fun j p q => by
            obtain ⟨_, r1⟩ := reads_at h4 j (by simpa using p)
            obtain ⟨_, r2⟩ := reads_at g4 j (by simpa using q)
            have := eqAt_reads _ _ A.in1 s _ _ _ _ r1 r2 (lay_at xs cd j (by omega)) (lay_at ys ce j (by omega)) (by
              have z := deep_at xs n dx j
              have zz : min (at_ xs j).depth (at_ ys j).depth ≤ (at_ xs j).depth := Nat.min_le_left _ _
              show A.units + 1 + _ < cLine
              omega)
            simpa using this) (fun j p q pre ne => by
            obtain ⟨_, r1⟩ := reads_at h4 j (by simpa using p)
            obtain ⟨_, r2⟩ := reads_at g4 j (by simpa using q)
            have := ih _ _ A.in1 s _ _ _ _ r1 r2 (lay_at xs cd j (by omega)) (lay_at ys ce j (by omega)) (deep_at xs n dx j)
              (okL_at (okD n) xs ys ok' j (by omega) (by omega) pre ne) (by
                show A.units + 1 + n < cLine
                omega)
            simpa using this)
        rw [lx, ly, scan_gt] at R
        exact R
      | _ => exact absurd ok (by simp [okD])
    | _ => exact absurd ok (by simp [okD])
end Tlz
namespace K1
open PySem PySem.Spec PyProof.Rows L2 Ow
def topS (i : Nat) : Stmt := PySem.Challenge.pw_turnshelves_k04_bytes_of_data.main.body.getD i (.Pass ⟨0, 0, 0, 0⟩)
/-- the names that the top leaves alone -/
structure Bl (mg : Str → Option Value) : Prop where
  range : mg "range" = none
  len : mg "len" = none
  int : mg "int" = none
  str : mg "str" = none
  bool : mg "bool" = none
  list : mg "list" = none
  tuple : mg "tuple" = none
  dict : mg "dict" = none
  isinstance : mg "isinstance" = none
  min : mg "min" = none
  sum : mg "sum" = none
  sorted : mg "sorted" = none
  abs : mg "abs" = none
  ord : mg "ord" = none
end K1
namespace K1
open PySem PySem.Spec PyProof.Rows L2 Ow
/-- the signs of a text are those of values -/
def Pr (z : Str) : Prop := ∀ c ∈ z.cps.toList, 32 ≤ c ∧ c < 127 ∧ c ≠ 37
instance (z : Str) : Decidable (Pr z) := inferInstanceAs (Decidable (∀ c ∈ z.cps.toList, 32 ≤ c ∧ c < 127 ∧ c ≠ 37))
theorem joinL_mem : ∀ (ps : List (List Nat)) (c : Nat), c ∈ TL.joinL [] ps → ∃ p ∈ ps, c ∈ p
  | [], _, h => nomatch h
  | [p], c, h => ⟨p, List.mem_singleton.mpr rfl, h⟩
  | p :: q :: r, c, h => by
    have h' : c ∈ p ++ ([] ++ TL.joinL [] (q :: r)) := h
    rw [List.nil_append] at h'
    rcases List.mem_append.mp h' with z | z
    · exact ⟨p, List.mem_cons_self, z⟩
    · obtain ⟨x, m, i⟩ := joinL_mem (q :: r) c z
      exact ⟨x, List.mem_cons_of_mem _ m, i⟩
theorem joinL_len : ∀ (ps : List (List Nat)), (TL.joinL [] ps).length = (ps.map (·.length)).sum
  | [] => rfl
  | [p] => by simp [TL.joinL]
  | p :: q :: r => by
    have e : TL.joinL [] (p :: q :: r) = p ++ ([] ++ TL.joinL [] (q :: r)) := rfl
    rw [e, List.nil_append, List.length_append, joinL_len (q :: r)]
    rfl
theorem Pr.join {ys : List Str} (h : ∀ y ∈ ys, Pr y) : Pr (Txt.join (PySem.Str.ofString "") ys) := by
  intro c hc
  rw [TL.join_eq] at hc
  have h1 : c ∈ TL.joinL [] (ys.map fun z => z.cps.toList) := by
    have hc' : c ∈ TL.tl (Str.join (PySem.Str.ofString "") ys) := hc
    rw [TL.tl_join] at hc'
    exact hc'
  obtain ⟨p, m, i⟩ := joinL_mem _ _ h1
  obtain ⟨y, my, rfl⟩ := List.mem_map.mp m
  exact h y my c i
theorem join_size {ys : List Str} : (Txt.join (PySem.Str.ofString "") ys).length = (ys.map (·.length)).sum := by
  rw [TL.join_eq]
  have e : (TL.tl (Str.join (PySem.Str.ofString "") ys)).length = (Str.join (PySem.Str.ofString "") ys).length := by
    show (Str.join (PySem.Str.ofString "") ys).cps.toList.length = _
    rw [Array.length_toList]
    rfl
  rw [← e, TL.tl_join]
  show (TL.joinL [] (ys.map fun z => z.cps.toList)).length = _
  rw [joinL_len, List.map_map]
  congr 1
/-- a value of a row -/
def Scal (v : V) : Prop := (∃ i, v = .int i ∧ i.natAbs < 2 ^ 140) ∨ ∃ z, v = .str z ∧ Pr z ∧ z.length ≤ 200
def firstV : V → V → Bool
  | .int i, .int j => decide (i < j)
  | .int _, .str _ => true
  | .str _, .int _ => false
  | .str x, .str y => decide (x.cps.toList < y.cps.toList)
  | _, _ => false
def orderV : List V → List V → Int
  | [], [] => 0
  | [], _ :: _ => -1
  | _ :: _, [] => 1
  | x :: xs, y :: ys => if firstV x y = true then -1 else if firstV y x = true then 1 else orderV xs ys
def spMix : Sp := fun vs H Q _ => ∃ c k : Int, vs = [.int c, .int k] ∧
  ∀ v : Int, 0 ≤ v → v < 9973 → Q (.int v) H
def spDraws (K : PySem.W.Frag) : Sp := fun vs H Q _ => ∃ (a : Addr) (ns : List Int), vs = [.ref a] ∧
  SqL K H a (ns.map V.int) ∧ ns.length ≤ 63 ∧ ∀ (H' : Hp) (p : Addr) (ds : List Int), Same H H' → H p = none →
    H' p = some (.lst (ds.map V.int)) → Q (.ref p) H'
def spAt (K : PySem.W.Frag) : Sp := fun vs H Q _ => ∃ (d : Addr) (ds : List Int) (i : Int), vs = [.ref d, .int i] ∧
  SqL K H d (ds.map V.int) ∧ 0 ≤ i ∧ ∀ v : Int, Q (.int v) H
def spNext : Sp := fun vs H Q _ => ∃ (p d : Addr) (l : Int), vs = [.ref p, .int l] ∧ 0 < l ∧ Rng d H p ∧
  Drw p d H Q fun x _ => ∃ v : Int, x = .int v ∧ 0 ≤ v ∧ v < l
def spText : Sp := fun vs H Q _ => ∃ (p d : Addr) (m : Nat), vs = [.ref p, .int (m : Int)] ∧ m ≤ 1000 ∧ Rng d H p ∧
  Drw p d H Q fun x _ => ∃ z : Str, x = .str z ∧ Pr z ∧ z.length ≤ m
def spValue : Sp := fun vs H Q _ => ∃ p d : Addr, vs = [.ref p] ∧ Rng d H p ∧ Drw p d H Q fun x _ => Scal x
def spRow : Sp := fun vs H Q _ => ∃ (p d : Addr) (n : Nat), vs = [.ref p, .int (n : Int)] ∧ n ≤ 1000 ∧ Rng d H p ∧
  Drw p d H Q fun x H' => ∃ (q : Addr) (xs : List V), x = .ref q ∧ H' q = some (.tup xs) ∧ xs.length = n ∧ ∀ y ∈ xs, Scal y
def spName : Sp := fun vs H Q _ => ∃ p d : Addr, vs = [.ref p] ∧ Rng d H p ∧ Drw p d H Q fun x _ => ∃ z, x = .str z ∧ Pr z
def spFirst : Sp := fun vs H Q _ => ∃ a b : V, vs = [a, b] ∧ Scal a ∧ Scal b ∧ Q (.bl (firstV a b)) H
def spOrder (K : PySem.W.Frag) : Sp := fun vs H Q _ => ∃ (a b : Addr) (xs ys : List V), vs = [.ref a, .ref b] ∧
  SqT K H a xs ∧ SqT K H b ys ∧ xs.length ≤ 1000 ∧ (∀ x ∈ xs, Scal x) ∧ (∀ y ∈ ys, Scal y) ∧ Q (.int (orderV xs ys)) H
/-- a tuple whose object is known -/
def FT (H : Hp) (a : Addr) (xs : List V) : Prop := ∃ o : Obj, H a = some (.frz o (.tup xs)) ∧ o.dict = none ∧ o.cls = .type "tuple"
theorem FT.sq {K : PySem.W.Frag} {H : Hp} {a : Addr} {xs : List V} (h : FT H a xs) : SqT K H a xs := by
  obtain ⟨o, h, _⟩ := h
  exact .inl (.inr ⟨o, h⟩)
structure Tk (K : PySem.W.Frag) (H H' : Hp) : Prop where
  f : ∀ (a : Addr) (xs : List V), SqT K H a xs → SqT K H' a xs
  x : ∀ (a : Addr) (xs : List V), FT H a xs → FT H' a xs
instance {K : PySem.W.Frag} {H H' : Hp} : CoeFun (Tk K H H') (fun _ => ∀ (a : Addr) (xs : List V), SqT K H a xs → SqT K H' a xs) := ⟨Tk.f⟩
theorem Tk.same {K : PySem.W.Frag} {H H' : Hp} (s : Same H H') : Tk K H H' := by
  refine ⟨fun a xs h => ?_, fun a xs ⟨o, h, d⟩ => ⟨o, s _ _ h, d⟩⟩
  rcases h with (h | ⟨o, h⟩) | h
  · exact .inl (.inl (s _ _ h))
  · exact .inl (.inr ⟨o, s _ _ h⟩)
  · exact .inr h
theorem Tk.trans {K : PySem.W.Frag} {H H1 H2 : Hp} (a : Tk K H H1) (b : Tk K H1 H2) : Tk K H H2 := ⟨fun c xs h => b.f c xs (a.f c xs h), fun c xs h => b.x c xs (a.x c xs h)⟩
theorem Tk.gw {K : PySem.W.Frag} {H H' : Hp} {p : Addr} {us : List V} (e : H p = some (.lst us)) (g : Gw p H H') : Tk K H H' := by
  refine ⟨fun a xs h => ?_, fun a xs ⟨o, h, d⟩ => ⟨o, g _ _ (fun z => by rw [z, e] at h; cases h) h, d⟩⟩
  rcases h with (h | ⟨o, h⟩) | h
  · exact .inl (.inl (g _ _ (fun z => by rw [z, e] at h; cases h) h))
  · exact .inl (.inr ⟨o, g _ _ (fun z => by rw [z, e] at h; cases h) h⟩)
  · exact .inr h
theorem Tk.put {K : PySem.W.Frag} {H : Hp} {p : Addr} {us : List V} {o : HO} (e : H p = some (.lst us)) : Tk K H (upd H p o) := Tk.gw e Gw.put
/-- a def that makes something and keeps all else -/
def Mak (H : Hp) (Q : VK) (R : V → Hp → Prop) : Prop := ∀ x H', R x H' → Same H H' → Q x H'
theorem SqL.same {K : PySem.W.Frag} {H H' : Hp} {a : Addr} {xs : List V} (s : Same H H') (h : SqL K H a xs) : SqL K H' a xs := s.seq h
end K1
namespace Ow
open PySem PySem.Spec PyProof.Rows L2
theorem for_str {x : Str} {g : TG} {tb : TS} {D : Ends} {σ : L2.St} {H : Hp} (Pv : Nat → L2.St → Hp → Prop) (h0 : Pv 0 σ H)
    (hs : ∀ i c σ H, x.cps[i]? = some c → Pv i σ H → g (.str ⟨#[c]⟩) σ H fun σ2 H2 => tb { D with nx := Pv (i + 1), ct := Pv (i + 1), bk := D.nx } σ2 H2) (hd : ∀ σ H, Pv x.cps.size σ H → D.nx σ H) :
    ∃ W : Nat → Nat → L2.St → Hp → Prop, (∃ m, W 0 m σ H) ∧ ∀ i m σ H, W i m σ H →
      ((Its x).stop i H ∧ D.nx σ H) ∨ ((Its x).go i H ∧ ∃ N : L2.St → Hp → Prop, (∀ σ' H', N σ' H' → ∃ m', m' < m ∧ W (i + 1) m' σ' H') ∧ ∀ v H', (Its x).yld i H v H' → g v σ H' fun σ2 H2 => tb { D with nx := N, ct := N, bk := D.nx } σ2 H2) := by
  refine ⟨fun i m σ H => m = x.cps.size - i ∧ i ≤ x.cps.size ∧ Pv i σ H, ⟨x.cps.size, by simp, Nat.zero_le _, h0⟩, ?_⟩
  rintro i m σ H ⟨rfl, hi, p⟩
  by_cases hlt : i < x.cps.size
  · refine .inr ⟨hlt, Pv (i + 1), fun σ' H' p' => ⟨x.cps.size - (i + 1), by omega, rfl, hlt, p'⟩, fun v H' y => ?_⟩
    obtain ⟨rfl, c, ec, rfl⟩ := y
    exact hs i c σ _ ec p
  · have e : i = x.cps.size := by omega
    subst e
    exact .inl ⟨Nat.le_refl _, hd σ H p⟩
theorem lc_str {x : Str} {g : TG} {tt : TT} {te : TE} {vs : List Nat} {σ : L2.St} {H1 : Hp} {D : Addr} {Qd : Hp → Prop} (Pv : Nat → Hp → Prop) (h0 : Pv 0 (upd H1 D (.lst [])))
    (hs : ∀ i c H, x.cps[i]? = some c → Pv i H → g (.str ⟨#[c]⟩) (wipe σ vs) H fun σ2 H2 => wipe σ2 vs = wipe σ vs ∧ tt σ2 H2 fun b H3 =>
      if b = true then te σ2 H3 fun y H4 => ∃ acc, H4 D = some (.lst acc) ∧ acc.length < sizeLine ∧ Pv (i + 1) (upd H4 D (.lst (acc ++ [y]))) else Pv (i + 1) H3) (hd : ∀ H, Pv x.cps.size H → Qd H) :
    ∃ W : Nat → Nat → Hp → Prop, (∃ m, W 0 m (upd H1 D (.lst []))) ∧ ∀ i m H, W i m H →
      ((Its x).stop i H ∧ Qd H) ∨ ((Its x).go i H ∧ ∃ Nx : Hp → Prop, (∀ H', Nx H' → ∃ m', m' < m ∧ W (i + 1) m' H') ∧ ∀ v H', (Its x).yld i H v H' → g v (wipe σ vs) H' fun σ2 H2 => wipe σ2 vs = wipe σ vs ∧ tt σ2 H2 fun b H3 =>
        if b = true then te σ2 H3 fun y H4 => ∃ acc, H4 D = some (.lst acc) ∧ acc.length < sizeLine ∧ Nx (upd H4 D (.lst (acc ++ [y]))) else Nx H3) := by
  refine ⟨fun i m H => m = x.cps.size - i ∧ i ≤ x.cps.size ∧ Pv i H, ⟨x.cps.size, by simp, Nat.zero_le _, h0⟩, ?_⟩
  rintro i m H ⟨rfl, hi, p⟩
  by_cases hlt : i < x.cps.size
  · refine .inr ⟨hlt, Pv (i + 1), fun H' p' => ⟨x.cps.size - (i + 1), by omega, rfl, hlt, p'⟩, fun v H' y => ?_⟩
    obtain ⟨rfl, c, ec, rfl⟩ := y
    exact hs i c _ ec p
  · have e : i = x.cps.size := by omega
    subst e
    exact .inl ⟨Nat.le_refl _, hd H p⟩
/-- a text times a number -/
theorem op_mul_str {X : Cx} : OpR X (binaryOp .Mult) (fun x y H Q => ∃ z n, x = .str z ∧ y = .int n ∧ 1 ≤ z.length ∧ 0 ≤ n ∧ (z.length : Int) * n ≤ 10000 ∧ Q (.str (Txt.mul z n)) H) := by
  intro pins s σ H x y v u Q I rx ry h
  obtain ⟨z, n, rfl, rfl, h1, h0, hz, q⟩ := h
  obtain ⟨t, rfl⟩ := rx
  obtain ⟨t', rfl⟩ := ry
  have hn : n ≤ 10000 := by
    have : (1 : Int) * n ≤ (z.length : Int) * n := Int.mul_le_mul_of_nonneg_right (by omega) h0
    omega
  have hl : (z.length : Int) ≤ 10000 ∨ n < 1 := by
    by_cases hn0 : n < 1
    · exact .inr hn0
    · left
      have : (z.length : Int) * 1 ≤ (z.length : Int) * n := Int.mul_le_mul_of_nonneg_left (by omega) (by omega)
      omega
  refine SB.mul ⟨?_, ?_, ?_⟩ (fun t' k => ⟨.str (Txt.mul z n), H, I.tok _, ⟨_, rfl⟩, q⟩)
  · rw [decide_eq_false (by omega), decide_eq_false (by omega)]
    rfl
  · intro a _ b
    have c : (2 ^ 63 - 1 : Int) / n ≥ (2 ^ 63 - 1 : Int) / 10000 := by
      have h3 : (2 ^ 63 - 1 : Int) / 10000 * n ≤ 2 ^ 63 - 1 := by
        have : (2 ^ 63 - 1 : Int) / 10000 * n ≤ (2 ^ 63 - 1 : Int) / 10000 * 10000 := Int.mul_le_mul_of_nonneg_left hn (by decide)
        have h4 : (2 ^ 63 - 1 : Int) / 10000 * 10000 ≤ 2 ^ 63 - 1 := by decide
        omega
      exact (Int.le_ediv_iff_mul_le (by omega)).mpr h3
    have d : (2 ^ 63 - 1 : Int) / 10000 ≥ 10001 := by decide
    omega
  · intro a _
    have e : ((z.length * n.toNat : Nat) : Int) = (z.length : Int) * n := by
      rw [Int.natCast_mul, Int.toNat_of_nonneg h0]
    have e2 : z.length * n.toNat ≤ 10000 := by omega
    show decide _ = false
    exact decide_eq_false (by
      have : sizeLine = 16777216 := rfl
      omega)
end Ow
namespace Ow
open PySem PySem.Spec PyProof.Rows L2 Tlz
/-- two data at x, y, comparable to depth n -/
structure Cp (K : PySem.W.Frag) (H : Hp) (n : Nat) (x y : V) (d e : PyData) : Prop where
  l : Dp K H x d
  r : Dp K H y e
  cl : d.canLay0 = true
  cr : e.canLay0 = true
  dl : d.depth ≤ n
  dr : e.depth ≤ n
  ok : okD n d e = true
  n60 : n ≤ 60
def rLtK (K : PySem.W.Frag) : R2 := fun x y H Q => ∃ n d e, Cp K H n x y d e ∧ Q (.bl (ltD n d e)) H
def rGtK (K : PySem.W.Frag) : R2 := fun x y H Q => ∃ n d e, Cp K H n x y d e ∧ Q (.bl (gtD n d e)) H
theorem op_ltK {X : Cx} {k : Nat} (hr : Room k X.A) : OpR X (compareOp .Lt) (rLtK X.K) := by
  intro pins s σ H x y v u Q I rx ry h
  obtain ⟨n, d, e, c, q⟩ := h
  obtain ⟨as, r1⟩ := Dp.reads I d x v c.l rx
  obtain ⟨bs, r2⟩ := Dp.reads I e y u c.r ry
  have hu := hr.units
  have c6 := c.n60
  exact rcLt n d e X.A s v u as bs r1 r2 c.cl c.cr c.dl c.ok (by omega) X.prog X.w X.xe (EP X pins σ Q) ⟨.bl _, H, I, rfl, q⟩
theorem op_gtK {X : Cx} {k : Nat} (hr : Room k X.A) : OpR X (compareOp .Gt) (rGtK X.K) := by
  intro pins s σ H x y v u Q I rx ry h
  obtain ⟨n, d, e, c, q⟩ := h
  obtain ⟨as, r1⟩ := Dp.reads I d x v c.l rx
  obtain ⟨bs, r2⟩ := Dp.reads I e y u c.r ry
  have hu := hr.units
  have c6 := c.n60
  exact rcGt n d e X.A s v u as bs r1 r2 c.cl c.cr c.dl c.ok (by omega) X.prog X.w X.xe (EP X pins σ Q) ⟨.bl _, H, I, rfl, q⟩
theorem shaped_of {d : PyData} {n : Nat} (c : d.canLay0 = true) (h : d.depth ≤ n) (hn : n ≤ 60) : SeqAt.shaped d = true := by
  unfold SeqAt.shaped
  rw [c, decide_eq_true (show d.depth ≤ 64 by omega)]
  rfl
end Ow
namespace K1
open PySem PySem.Spec PyProof.Rows L2 Ow Tlz
/-- the key of a value, as data -/
def vkD : V → PyData
  | .int i => .tuple [.int 0, .int i]
  | .str z => .tuple [.int 1, .str z]
  | _ => .none
def rkD (xs : List V) : PyData := .tuple (xs.map vkD)
def kD (s : Int) (n : Str) (row : List V) : PyData := .tuple [.int s, .str n, rkD row]
def kd2 (s : Int) (n : Str) : PyData := .tuple [.int s, .str n]
/-- the order o tells what <, == and > say of d and e -/
structure Agr (n : Nat) (d e : PyData) (o : Int) : Prop where
  lt : ltD n d e = decide (o < 0)
  eq : PyData.eqv d e = decide (o = 0)
  gt : gtD n d e = decide (0 < o)
theorem str_tri (x y : Str) : (x == y) = (!decide (x.cps.toList < y.cps.toList) && !decide (y.cps.toList < x.cps.toList)) := by
  by_cases h : x = y
  · subst h
    have n : ¬ x.cps.toList < x.cps.toList := List.lt_irrefl _
    simp [n]
  · have e : (x == y) = false := by simpa using h
    rw [e]
    symm
    rw [Bool.and_eq_false_iff]
    apply Classical.byContradiction
    intro z
    apply h
    have z1 : ¬ x.cps.toList < y.cps.toList := fun w => z (.inl (by rw [decide_eq_true w]; rfl))
    have z2 : ¬ y.cps.toList < x.cps.toList := fun w => z (.inr (by rw [decide_eq_true w]; rfl))
    have e2 : x.cps.toList = y.cps.toList := List.le_antisymm z2 z1
    cases x
    cases y
    simp only [Str.mk.injEq]
    exact Array.toList_inj.mp e2
theorem eqv_int (i j : Int) : PyData.eqv (.int i) (.int j) = (i == j) := by rw [PyData.eqv]
theorem eqv_str (x y : Str) : PyData.eqv (.str x) (.str y) = (x == y) := by rw [PyData.eqv]
theorem eqv_tup (xs ys : List PyData) : PyData.eqv (.tuple xs) (.tuple ys) = PyData.eqvAll xs ys := by rw [PyData.eqv]
theorem eqv_cons (x y : PyData) (xs ys : List PyData) : PyData.eqvAll (x :: xs) (y :: ys) = (PyData.eqv x y && PyData.eqvAll xs ys) := by rw [PyData.eqvAll]
theorem eqv_nil : PyData.eqvAll [] [] = true := by rw [PyData.eqvAll]
theorem eqv_nc (y : PyData) (ys : List PyData) : PyData.eqvAll [] (y :: ys) = false := by rw [PyData.eqvAll]
theorem eqv_cn (x : PyData) (xs : List PyData) : PyData.eqvAll (x :: xs) [] = false := by rw [PyData.eqvAll]
theorem int_tri (i j : Int) : (i == j) = (!decide (i < j) && !decide (j < i)) := by
  by_cases h : i = j
  · subst h; simp
  · have e : (i == j) = false := by simpa using h
    rw [e]
    rcases Int.lt_or_gt_of_ne h with z | z
    · simp [z]
    · simp [z]
/-- the keys of two values -/
theorem vk_all {x y : V} (sx : Scal x) (sy : Scal y) (n : Nat) : okD (n + 1) (vkD x) (vkD y) = true ∧ ltD (n + 1) (vkD x) (vkD y) = firstV x y ∧ gtD (n + 1) (vkD x) (vkD y) = firstV y x ∧
    PyData.eqv (vkD x) (vkD y) = (!firstV x y && !firstV y x) := by
  rcases sx with ⟨i, rfl, _⟩ | ⟨x, rfl, _⟩ <;> rcases sy with ⟨j, rfl, _⟩ | ⟨y, rfl, _⟩
  · simp only [vkD, okD, ltD, gtD, okL, ltL, gtL, eqv_int, eqv_tup, eqv_cons, eqv_nil, firstV, beq_self_eq_true, if_true, Bool.true_and, Bool.and_true, ← int_tri]
    cases h : (i == j) with
    | true =>
      have e : i = j := by simpa using h
      subst e
      simp
    | false => simp
  · have e : ((0 : Int) == 1) = false := by decide
    simp only [vkD, okD, ltD, gtD, okL, ltL, gtL, eqv_int, eqv_tup, eqv_cons, eqv_nil, firstV, e, if_false, Bool.false_and, Bool.false_eq_true]
    decide
  · have e : ((1 : Int) == 0) = false := by decide
    simp only [vkD, okD, ltD, gtD, okL, ltL, gtL, eqv_int, eqv_tup, eqv_cons, eqv_nil, firstV, e, if_false, Bool.false_and, Bool.false_eq_true]
    decide
  · simp only [vkD, okD, ltD, gtD, okL, ltL, gtL, eqv_int, eqv_str, eqv_tup, eqv_cons, eqv_nil, firstV, beq_self_eq_true, if_true, Bool.true_and, Bool.and_true, ← str_tri]
    cases h : (x == y) with
    | true =>
      have e : x = y := by simpa using h
      subst e
      have n : ¬ x.cps.toList < x.cps.toList := List.lt_irrefl _
      simp [n]
    | false => simp
theorem first_asym {x y : V} (sx : Scal x) (sy : Scal y) (h : firstV x y = true) : firstV y x = false := by
  rcases sx with ⟨i, rfl, _⟩ | ⟨x, rfl, _⟩ <;> rcases sy with ⟨j, rfl, _⟩ | ⟨y, rfl, _⟩
  · have h' : i < j := of_decide_eq_true h
    exact decide_eq_false (by omega)
  · rfl
  · exact absurd (show false = true from h) Bool.false_ne_true
  · have h' : x.cps.toList < y.cps.toList := of_decide_eq_true h
    exact decide_eq_false (List.lt_asymm h')
/-- the keys of two rows -/
theorem rk_all (n : Nat) : ∀ (xs ys : List V), (∀ x ∈ xs, Scal x) → (∀ y ∈ ys, Scal y) →
    okL (okD (n + 1)) (xs.map vkD) (ys.map vkD) = true ∧ ltL (ltD (n + 1)) (xs.map vkD) (ys.map vkD) = decide (orderV xs ys < 0) ∧
    gtL (gtD (n + 1)) (xs.map vkD) (ys.map vkD) = decide (0 < orderV xs ys) ∧ PyData.eqvAll (xs.map vkD) (ys.map vkD) = decide (orderV xs ys = 0)
  | [], [], _, _ => ⟨rfl, rfl, rfl, by rw [List.map_nil, eqv_nil]; rfl⟩
  | [], y :: ys, _, _ => ⟨rfl, rfl, rfl, by rw [List.map_nil, List.map_cons, eqv_nc]; rfl⟩
  | x :: xs, [], _, _ => ⟨rfl, rfl, rfl, by rw [List.map_nil, List.map_cons, eqv_cn]; rfl⟩
  | x :: xs, y :: ys, hx, hy => by
    have sx := hx x List.mem_cons_self
    have sy := hy y List.mem_cons_self
    obtain ⟨a1, a2, a3, a4⟩ := vk_all sx sy n
    obtain ⟨b1, b2, b3, b4⟩ := rk_all n xs ys (fun z m => hx z (List.mem_cons_of_mem _ m)) (fun z m => hy z (List.mem_cons_of_mem _ m))
    rw [List.map_cons, List.map_cons]
    unfold okL ltL gtL orderV
    rw [eqv_cons, a4, a2, a3, a1, b1, b2, b3, b4]
    cases h : firstV x y with
    | true =>
      have h2 := first_asym sx sy h
      rw [h2]
      simp
    | false =>
      cases h2 : firstV y x with
      | true => simp
      | false => simp
theorem Agr.row {xs ys : List V} (hx : ∀ x ∈ xs, Scal x) (hy : ∀ y ∈ ys, Scal y) : Agr 2 (rkD xs) (rkD ys) (orderV xs ys) ∧ okD 2 (rkD xs) (rkD ys) = true := by
  obtain ⟨b1, b2, b3, b4⟩ := rk_all 0 xs ys hx hy
  exact ⟨⟨b2, (eqv_tup _ _).trans b4, b3⟩, b1⟩
theorem Agr.one {x y : V} (sx : Scal x) (sy : Scal y) : Agr 1 (vkD x) (vkD y) (orderV [x] [y]) ∧ okD 1 (vkD x) (vkD y) = true := by
  obtain ⟨a1, a2, a3, a4⟩ := vk_all sx sy 0
  have e : orderV [x] [y] = if firstV x y = true then -1 else if firstV y x = true then 1 else 0 := by
    unfold orderV
    rfl
  rw [e]
  refine ⟨⟨?_, ?_, ?_⟩, a1⟩
  · rw [a2]
    cases h : firstV x y with
    | true => rfl
    | false => cases h2 : firstV y x with
      | true => rfl
      | false => rfl
  · rw [a4]
    cases h : firstV x y with
    | true => rw [first_asym sx sy h]; rfl
    | false => cases h2 : firstV y x with
      | true => rfl
      | false => rfl
  · rw [a3]
    cases h : firstV x y with
    | true => rw [first_asym sx sy h]; rfl
    | false => cases h2 : firstV y x with
      | true => rfl
      | false => rfl
/-- the order of two keys, as the law reckons it -/
def keyOrd (s : Int) (n : Str) (row : List V) (s' : Int) (n' : Str) (row' : List V) : Int :=
  if (!PyData.eqv (kd2 s n) (kd2 s' n')) = true then (if ltD 1 (kd2 s n) (kd2 s' n') = true then -1 else 1) else orderV row row'
theorem Agr.key {s s' : Int} {n n' : Str} {xs ys : List V} (hx : ∀ x ∈ xs, Scal x) (hy : ∀ y ∈ ys, Scal y) :
    Agr 3 (kD s n xs) (kD s' n' ys) (keyOrd s n xs s' n' ys) ∧ okD 3 (kD s n xs) (kD s' n' ys) = true := by
  obtain ⟨⟨r1, r2, r3⟩, r4⟩ := Agr.row hx hy
  have e2 : PyData.eqv (kd2 s n) (kd2 s' n') = ((s == s') && (n == n')) := by
    unfold kd2
    rw [eqv_tup, eqv_cons, eqv_cons, eqv_nil, eqv_int, eqv_str, Bool.and_true]
  have l2 : ltD 1 (kd2 s n) (kd2 s' n') = if (s == s') = true then (if (n == n') = true then false else decide (n.cps.toList < n'.cps.toList)) else decide (s < s') := by
    simp only [kd2, ltD, ltL, eqv_int, eqv_str]
  have e3 : PyData.eqv (kD s n xs) (kD s' n' ys) = ((s == s') && ((n == n') && PyData.eqv (rkD xs) (rkD ys))) := by
    unfold kD
    rw [eqv_tup, eqv_cons, eqv_cons, eqv_cons, eqv_nil, eqv_int, eqv_str, Bool.and_true]
  have l3 : ltD 3 (kD s n xs) (kD s' n' ys) = if (s == s') = true then (if (n == n') = true then (if PyData.eqv (rkD xs) (rkD ys) = true then false else ltD 2 (rkD xs) (rkD ys)) else decide (n.cps.toList < n'.cps.toList)) else decide (s < s') := by
    simp only [kD, ltD, ltL, eqv_int, eqv_str]
  have g3 : gtD 3 (kD s n xs) (kD s' n' ys) = if (s == s') = true then (if (n == n') = true then (if PyData.eqv (rkD xs) (rkD ys) = true then false else gtD 2 (rkD xs) (rkD ys)) else decide (n'.cps.toList < n.cps.toList)) else decide (s' < s) := by
    simp only [kD, gtD, gtL, eqv_int, eqv_str]
  have o3 : okD 3 (kD s n xs) (kD s' n' ys) = if (s == s') = true then (if (n == n') = true then (if PyData.eqv (rkD xs) (rkD ys) = true then true else okD 2 (rkD xs) (rkD ys)) else true) else true := by
    simp only [kD, okD, okL, eqv_int, eqv_str]
  have it := int_tri s s'
  have st := str_tri n n'
  unfold keyOrd
  rw [e2, l2]
  refine ⟨⟨?_, ?_, ?_⟩, ?_⟩
  · rw [l3]
    cases h1 : (s == s') with
    | false => cases h : decide (s < s') <;> simp
    | true =>
      cases h2 : (n == n') with
      | false => cases h : decide (n.cps.toList < n'.cps.toList) <;> simp
      | true =>
        rw [r1, r2]
        by_cases z : orderV xs ys = 0
        · simp [z]
        · simp [z]
  · rw [e3]
    cases h1 : (s == s') with
    | false => cases h : decide (s < s') <;> simp
    | true =>
      cases h2 : (n == n') with
      | false => cases h : decide (n.cps.toList < n'.cps.toList) <;> simp
      | true => rw [r2]; simp
  · rw [g3]
    cases h1 : (s == s') with
    | false =>
      rw [h1] at it
      cases h : decide (s < s') with
      | false =>
        rw [h] at it
        simp at it
        simp [it]
      | true =>
        have z : s < s' := of_decide_eq_true h
        simp
        omega
    | true =>
      cases h2 : (n == n') with
      | false =>
        rw [h2] at st
        cases h : decide (n.cps.toList < n'.cps.toList) with
        | false =>
          rw [h] at st
          simp at st
          simp [st]
        | true =>
          have z : n.cps.toList < n'.cps.toList := of_decide_eq_true h
          have z2 := List.lt_asymm z
          simp [z2]
      | true =>
        rw [r3, r2]
        by_cases z : orderV xs ys = 0
        · simp [z]
        · simp [z]
  · rw [o3, r4]
    split
    · split
      · split <;> rfl
      · rfl
    · rfl
end K1
namespace K1
open PySem PySem.Spec PyProof.Rows L2 Ow Tlz
/-! data without lists -/
mutual
def noL : PyData → Bool
  | .list _ => false
  | .tuple xs => noLs xs
  | _ => true
def noLs : List PyData → Bool
  | [] => true
  | x :: xs => noL x && noLs xs
end
mutual
theorem Dp.tk {K : PySem.W.Frag} {H H' : Hp} (t : Tk K H H') : ∀ (d : PyData) (v : V), noL d = true → Dp K H v d → Dp K H' v d
  | .none, _, _, .non => .non
  | .bool b, _, _, .bl _ => .bl b
  | .int i, _, _, .int _ => .int i
  | .str x, _, _, .str _ => .str x
  | .list _, _, h, _ => absurd h (by rw [noL]; exact Bool.false_ne_true)
  | .tuple xs, _, h, .tup s a => .tup (t _ _ s) (DpAll.tk t xs _ (by rw [noL] at h; exact h) a)
theorem DpAll.tk {K : PySem.W.Frag} {H H' : Hp} (t : Tk K H H') : ∀ (ds : List PyData) (vs : List V), noLs ds = true → DpAll K H vs ds → DpAll K H' vs ds
  | [], _, _, .nil => .nil
  | d :: ds, _, h, .cons a b => by
    rw [noLs, Bool.and_eq_true] at h
    exact .cons (Dp.tk t d _ h.1 a) (DpAll.tk t ds _ h.2 b)
end
theorem DpAll.snoc {K : PySem.W.Frag} {H : Hp} : ∀ {vs : List V} {ds : List PyData} {v : V} {d : PyData}, DpAll K H vs ds → Dp K H v d → DpAll K H (vs ++ [v]) (ds ++ [d])
  | _, _, _, _, .nil, h => .cons h .nil
  | _, _, _, _, .cons a b, h => .cons a (DpAll.snoc b h)
theorem noL_vk (v : V) : noL (vkD v) = true := by
  cases v <;> simp [vkD, noL, noLs]
theorem noLs_vk : ∀ xs : List V, noLs (xs.map vkD) = true
  | [] => by simp [noLs]
  | x :: xs => by rw [List.map_cons, noLs, noL_vk, noLs_vk xs]; rfl
/-- strings of values can be laid -/
theorem Pr.ok {z : Str} (h : Pr z) : PyData.canLay0 (.str z) = true := by
  rw [PyData.canLay0]
  show z.cps.all (fun c => decide (c < 0x110000)) = true
  rw [Array.all_eq_true]
  intro i hi
  have := h z.cps[i] (by simp)
  exact decide_eq_true (by omega)
theorem lay_vk {v : V} (h : Scal v) : (vkD v).canLay0 = true := by
  rcases h with ⟨i, rfl, _⟩ | ⟨z, rfl, p, _⟩
  · simp [vkD, PyData.canLay0, PyData.canLayAll0]
  · have := p.ok
    simp [vkD, PyData.canLay0, PyData.canLayAll0] at this ⊢
    exact this
theorem lays_vk : ∀ {xs : List V}, (∀ x ∈ xs, Scal x) → PyData.canLayAll0 (xs.map vkD) = true
  | [], _ => by simp [PyData.canLayAll0]
  | x :: xs, h => by
    rw [List.map_cons, PyData.canLayAll0, lay_vk (h x List.mem_cons_self), lays_vk fun z m => h z (List.mem_cons_of_mem _ m)]
    rfl
theorem deep_vk (v : V) : (vkD v).depth ≤ 1 := by
  cases v <;> simp [vkD, PyData.depth, PyData.depthAll]
theorem deeps_vk : ∀ xs : List V, PyData.depthAll (xs.map vkD) ≤ 1
  | [] => by simp [PyData.depthAll]
  | x :: xs => by
    rw [List.map_cons, PyData.depthAll]
    exact Nat.max_le.mpr ⟨deep_vk x, deeps_vk xs⟩
theorem lay_rk {xs : List V} (h : ∀ x ∈ xs, Scal x) : (rkD xs).canLay0 = true := by
  unfold rkD
  rw [PyData.canLay0]
  exact lays_vk h
theorem deep_rk (xs : List V) : (rkD xs).depth ≤ 2 := by
  unfold rkD
  rw [PyData.depth]
  have := deeps_vk xs
  omega
theorem lay_k {s : Int} {n : Str} {xs : List V} (p : Pr n) (h : ∀ x ∈ xs, Scal x) : (kD s n xs).canLay0 = true := by
  have a := p.ok
  have b := lay_rk h
  unfold kD
  rw [PyData.canLay0, PyData.canLayAll0, PyData.canLayAll0, PyData.canLayAll0, PyData.canLayAll0, a, b]
  simp [PyData.canLay0]
theorem deep_k (s : Int) (n : Str) (xs : List V) : (kD s n xs).depth ≤ 3 := by
  have := deep_rk xs
  unfold kD
  rw [PyData.depth, PyData.depthAll, PyData.depthAll, PyData.depthAll, PyData.depthAll, PyData.depth, PyData.depth]
  omega
theorem noL_rk (xs : List V) : noL (rkD xs) = true := by
  unfold rkD
  rw [noL]
  exact noLs_vk xs
theorem noL_k (s : Int) (n : Str) (xs : List V) : noL (kD s n xs) = true := by
  unfold kD
  rw [noL, noLs, noLs, noLs, noLs, noL_rk]
  simp [noL]

/-- x is an item with the key s, n, row -/
def ItemAt (K : PySem.W.Frag) (H : Hp) (x : V) (s : Int) (n : Str) (row : List V) : Prop := ∃ (a : Addr) (xs : List V), x = .ref a ∧ SqT K H a xs ∧
  Pr n ∧ (∀ y ∈ row, Scal y) ∧ row.length ≤ 1000 ∧
  ((∃ rest, xs = .str "relation" :: .str n :: rest ∧ s = 0 ∧ row = []) ∨ (∃ rest, xs = .str "structure" :: .str n :: rest ∧ s = 2 ∧ row = []) ∨
   (∃ rest, xs = .str "layout" :: .str n :: rest ∧ s = 3 ∧ row = []) ∨ ∃ r : Addr, xs = [.str "fact", .str n, .ref r] ∧ s = 1 ∧ SqT K H r row)
def KeyAt (K : PySem.W.Frag) (H : Hp) (x : V) (s : Int) (n : Str) (row : List V) : Prop := ∃ a r : Addr, x = .ref a ∧
  SqT K H a [.int s, .str n, .ref r] ∧ SqT K H r row ∧ Pr n ∧ (∀ y ∈ row, Scal y) ∧ row.length ≤ 1000
theorem ItemAt.tk {K : PySem.W.Frag} {H H' : Hp} {x : V} {s : Int} {n : Str} {row : List V} (t : Tk K H H') (h : ItemAt K H x s n row) : ItemAt K H' x s n row := by
  obtain ⟨a, xs, e, h1, h2, h3, h4, h5⟩ := h
  refine ⟨a, xs, e, t _ _ h1, h2, h3, h4, ?_⟩
  rcases h5 with h | h | h | ⟨r, e1, e2, e3⟩
  · exact .inl h
  · exact .inr (.inl h)
  · exact .inr (.inr (.inl h))
  · exact .inr (.inr (.inr ⟨r, e1, e2, t _ _ e3⟩))
theorem KeyAt.tk {K : PySem.W.Frag} {H H' : Hp} {x : V} {s : Int} {n : Str} {row : List V} (t : Tk K H H') (h : KeyAt K H x s n row) : KeyAt K H' x s n row := by
  obtain ⟨a, r, e, h1, h2, h3⟩ := h
  exact ⟨a, r, e, t _ _ h1, t _ _ h2, h3⟩
def spLKey (K : PySem.W.Frag) : Sp := fun vs H Q _ => ∃ (x : V) (s : Int) (n : Str) (row : List V), vs = [x] ∧ ItemAt K H x s n row ∧
  Mak H Q fun y H' => KeyAt K H' y s n row
def spVKey (K : PySem.W.Frag) : Sp := fun vs H Q _ => ∃ x : V, vs = [x] ∧ Scal x ∧ Mak H Q fun y H' => Dp K H' y (vkD x)
def spRKey (K : PySem.W.Frag) : Sp := fun vs H Q _ => ∃ (a : Addr) (xs : List V), vs = [.ref a] ∧ SqT K H a xs ∧ (∀ x ∈ xs, Scal x) ∧ xs.length ≤ 1000 ∧
  Mak H Q fun y H' => Dp K H' y (rkD xs)
def spKOrd (K : PySem.W.Frag) : Sp := fun vs H Q _ => ∃ (x : V) (s : Int) (n : Str) (row : List V), vs = [x] ∧ KeyAt K H x s n row ∧
  Mak H Q fun y H' => Dp K H' y (kD s n row)
def spLOrd (K : PySem.W.Frag) : Sp := fun vs H Q _ => ∃ (x y : V) (s s' : Int) (n n' : Str) (row row' : List V), vs = [x, y] ∧ KeyAt K H x s n row ∧ KeyAt K H y s' n' row' ∧
  Mak H Q fun z _ => z = .int (keyOrd s n row s' n' row')
def spItem (K : PySem.W.Frag) : Sp := fun vs H Q _ => ∃ p d : Addr, vs = [.ref p] ∧ Rng d H p ∧
  Drw p d H Q fun x H' => ∃ (s : Int) (n : Str) (row : List V), ItemAt K H' x s n row
def spAgrees (K : PySem.W.Frag) : Sp := fun vs H Q _ => ∃ (x y : V) (n : Nat) (ds es : List PyData) (o : Int), vs = [x, y, .int o] ∧
  Cp K H n x y (.tuple ds) (.tuple es) ∧ Agr n (.tuple ds) (.tuple es) o ∧ Mak H Q fun z _ => z = .bl true
/-- two equal data without lists, n deep at most -/
def spSame (K : PySem.W.Frag) (n : Nat) : Sp := fun vs H Q _ => ∃ (x y : V) (d : PyData), vs = [x, y] ∧ Dp K H x d ∧ Dp K H y d ∧ d.canLay0 = true ∧ noL d = true ∧
  d.depth ≤ n ∧ n ≤ 50 ∧ Mak H Q fun z _ => z = .bl true
end K1
namespace K1
open PySem PySem.Spec PyProof.Rows L2 Ow
/-! the bytes of data -/
def numB (n : Nat) : List Int := if n ≤ 127 then [(n : Int)] else (128 + (n : Int) % 128) :: numB (n / 128)
termination_by n
decreasing_by omega
theorem numB_small {n : Nat} (h : n ≤ 127) : numB n = [(n : Int)] := by rw [numB, if_pos h]
theorem numB_big {n : Nat} (h : ¬ n ≤ 127) : numB n = (128 + (n : Int) % 128) :: numB (n / 128) := by rw [numB, if_neg h]
theorem numB_len : ∀ (k n : Nat), n < 128 ^ k → (numB n).length ≤ k + 1
  | 0, n, h => by
    rw [numB_small (by simp at h; omega)]; simp
  | k + 1, n, h => by
    by_cases e : n ≤ 127
    · rw [numB_small e]; simp
    · rw [numB_big e, List.length_cons]
      have h2 : n / 128 < 128 ^ k := by
        rw [Nat.pow_succ] at h
        exact Nat.div_lt_of_lt_mul (by rw [Nat.mul_comm]; exact h)
      have := numB_len k (n / 128) h2
      omega
theorem numB_20 {n : Nat} (h : n < 2 ^ 140) : (numB n).length ≤ 21 := numB_len 20 n (by
  have : (128 : Nat) ^ 20 = 2 ^ 140 := by decide
  omega)
def cpB (z : Str) : List Int := z.cps.toList.map fun (c : Nat) => (c : Int)
theorem cpB_len (z : Str) : (cpB z).length = z.length := by
  unfold cpB
  rw [List.length_map, Array.length_toList]
  rfl
def strB (z : Str) : List Int := numB z.length ++ cpB z
def intB (i : Int) : List Int := (if i < 0 then 1 else 0) :: numB i.natAbs
def valB : V → List Int
  | .int i => 0 :: intB i
  | .str z => 1 :: strB z
  | _ => []
def listB (xs : List (List Int)) : List Int := numB xs.length ++ xs.flatten
def rowB (xs : List V) : List Int := listB (xs.map valB)
theorem strB_len {z : Str} (h : z.length ≤ 200) : (strB z).length ≤ 221 := by
  unfold strB
  rw [List.length_append, cpB_len]
  have := numB_20 (n := z.length) (Nat.lt_of_le_of_lt h (by decide))
  omega
theorem valB_len {v : V} (h : Scal v) : (valB v).length ≤ 222 := by
  rcases h with ⟨i, rfl, h⟩ | ⟨z, rfl, _, h⟩
  · unfold valB intB
    rw [List.length_cons, List.length_cons]
    have := numB_20 h
    omega
  · unfold valB
    rw [List.length_cons]
    have := strB_len h
    omega
theorem flat_len : ∀ {xs : List (List Int)} {b : Nat}, (∀ x ∈ xs, x.length ≤ b) → xs.flatten.length ≤ xs.length * b
  | [], _, _ => by simp
  | x :: xs, b, h => by
    have h1 := h x List.mem_cons_self
    have h2 := flat_len (xs := xs) (b := b) fun y m => h y (List.mem_cons_of_mem _ m)
    rw [List.flatten_cons, List.length_append, List.length_cons, Nat.succ_mul]
    omega
theorem listB_len {xs : List (List Int)} {b : Nat} (h : ∀ x ∈ xs, x.length ≤ b) (l : xs.length ≤ 1000) : (listB xs).length ≤ 21 + xs.length * b := by
  unfold listB
  rw [List.length_append]
  have := flat_len h
  have := numB_20 (n := xs.length) (Nat.lt_of_le_of_lt l (by decide))
  omega
theorem rowB_len {xs : List V} (h : ∀ x ∈ xs, Scal x) (l : xs.length ≤ 10) : (rowB xs).length ≤ 2300 := by
  have h1 := listB_len (xs := xs.map valB) (b := 222) (fun y m => by
    obtain ⟨x, mx, rfl⟩ := List.mem_map.mp m
    exact valB_len (h x mx)) (by rw [List.length_map]; omega)
  unfold rowB
  rw [List.length_map] at h1
  omega
/-! rows in sectors -/
structure Pk where
  S : List (List Int)
  cur : List Int
  cnt : Int
def pk0 : Pk := ⟨[], [], 0⟩
def pkS (p : Pk) (c : List Int) : Pk := if p.cur.length + c.length > 63 then ⟨p.S ++ [p.cnt :: p.cur], c, 1⟩ else ⟨p.S, p.cur ++ c, p.cnt + 1⟩
def pkAll (p : Pk) : List (List Int) := if p.cnt > 0 then p.S ++ [p.cnt :: p.cur] else p.S
def padS (s : List Int) : List Int := s ++ List.replicate (64 - s.length) 0
def pkF (cs : List (List Int)) : Pk := cs.foldl pkS pk0
def packO (cs : List (List Int)) : Option (List (List Int)) :=
  if cs.all (fun c => decide (c.length ≤ 63)) = true then some ((pkAll (pkF cs)).map padS) else none
structure PkOk (n : Nat) (p : Pk) : Prop where
  z : p.cnt = 0 → p.S = [] ∧ p.cur = []
  nn : 0 ≤ p.cnt
  l : p.S.length + (if p.cnt > 0 then 1 else 0) ≤ n
  c : p.cur.length ≤ 63
  s : ∀ x ∈ p.S, x.length ≤ 64 ∧ x ≠ []
theorem pk0_ok : PkOk 0 pk0 := ⟨fun _ => ⟨rfl, rfl⟩, Int.le_refl _, by simp [pk0], by simp [pk0], fun _ h => nomatch h⟩
theorem pkS_ok {n : Nat} {p : Pk} {c : List Int} (h : PkOk n p) (hc : c.length ≤ 63) : PkOk (n + 1) (pkS p c) := by
  have h1 := h.z; have h2 := h.nn; have h3 := h.l; have h4 := h.c; have h5 := h.s
  unfold pkS
  split
  · rename_i e
    have e0 : p.cnt ≠ 0 := fun z => by
      rw [(h1 z).2] at e
      simp at e
      omega
    have e1 : p.cnt > 0 := by omega
    rw [if_pos e1] at h3
    refine ⟨fun z => ?_, ?_, ?_, hc, fun x m => ?_⟩
    · have z' : (1 : Int) = 0 := z
      omega
    · show (0 : Int) ≤ 1
      decide
    · show (p.S ++ [p.cnt :: p.cur]).length + (if (1 : Int) > 0 then 1 else 0) ≤ n + 1
      rw [List.length_append, if_pos (by decide)]
      simp
      omega
    · rcases List.mem_append.mp m with m | m
      · exact h5 x m
      · rw [List.mem_singleton.mp m, List.length_cons]
        exact ⟨by omega, by simp⟩
  · rename_i e
    refine ⟨fun z => ?_, ?_, ?_, ?_, h5⟩
    · have z' : p.cnt + 1 = 0 := z
      omega
    · show 0 ≤ p.cnt + 1
      omega
    · show p.S.length + (if p.cnt + 1 > 0 then 1 else 0) ≤ n + 1
      rw [if_pos (by omega)]
      split at h3
      · omega
      · have z : p.cnt = 0 := by omega
        rw [(h1 z).1]
        simp
    · show (p.cur ++ c).length ≤ 63
      rw [List.length_append]
      omega
theorem pkF_ok : ∀ (cs : List (List Int)) (n : Nat) (p : Pk), PkOk n p → (∀ c ∈ cs, c.length ≤ 63) → PkOk (n + cs.length) (cs.foldl pkS p)
  | [], n, p, h, _ => h
  | c :: cs, n, p, h, hc => by
    have := pkF_ok cs (n + 1) (pkS p c) (pkS_ok h (hc c List.mem_cons_self)) fun x m => hc x (List.mem_cons_of_mem _ m)
    rw [List.foldl_cons, List.length_cons, Nat.add_comm cs.length 1, ← Nat.add_assoc]
    exact this
/-! the bucket -/
def buk (bs : List Int) : Int := bs.foldl (fun h b => 31 * h + b + 1) 0
theorem buk_mod (m : Int) : ∀ (bs : List Int) (h g : Int), g = h % m → bs.foldl (fun g b => (31 * g + b + 1) % m) g = (bs.foldl (fun h b => 31 * h + b + 1) h) % m
  | [], h, g, e => e
  | b :: bs, h, g, e => by
    rw [List.foldl_cons, List.foldl_cons]
    refine buk_mod m bs _ _ ?_
    rw [e]
    have h1 : 31 * (h % m) + b + 1 = 31 * (h % m) + (b + 1) := by omega
    have h2 : 31 * h + b + 1 = 31 * h + (b + 1) := by omega
    rw [h1, h2, Int.add_emod, Int.mul_emod, Int.emod_emod_of_dvd _ (Int.dvd_refl m), ← Int.mul_emod, ← Int.add_emod]
end K1
namespace K1
open PySem PySem.Spec PyProof.Rows L2 Ow
/-! tuples whose object is known: their making, slices and methods -/
def tTupF (t : TA) : TE := fun σ H Q => t σ H fun xs H1 => xs.length ≤ sizeLine ∧ ∀ p o, H1 p = none → o.dict = none → o.cls = .type "tuple" → Q (.ref p) (upd H1 p (.frz o (.tup xs)))
theorem pe_tupF {X : Cx} {es : List Expr} {t : TA} {pos : Pos} {x1} (h : PA X es t) : PE X (.Tuple es x1 pos) (tTupF t) := by
  refine ⟨fun pins s σ H Q I hq => ?_⟩
  refine wpAny_Tuple_spliced (thn (h.run pos pins s σ H _ I hq) fun us s1 ⟨xs, H1, I1, r, z, q⟩ => ⟨by rw [← r.length]; exact z, ?_⟩)
  have hf : H1 s1.heap.objs.size = none := I1.hok.fresh (Nat.le_refl _)
  refine ⟨.ref s1.heap.objs.size, upd H1 s1.heap.objs.size (.frz { cls := .type "tuple", data := .seq us.toArray } (.tup xs)), I1.laid (t' := s1.toks) (fun b u e => Heap.get?_push_of_some _ e) (Nat.le_refl _) ?_, rfl, q _ _ hf rfl rfl⟩
  exact ⟨Heap.get?_push_size _ rfl, z, us, r, ⟨_, Heap.get?_push_size _ rfl, rfl, _, rfl⟩⟩
def rSlF : V → Option Int → Option Int → Hp → VK → Prop := fun x lo hi H Q => ∃ a xs, x = .ref a ∧ FT H a xs ∧ ∀ c H', FT H' c (cutV xs lo hi) → Same H H' → Q (.ref c) H'
theorem sl_tupF {X : Cx} : SlR X rSlF := by
  intro pins s σ H x v vl vu lo hi sl Q I rx hs pl pu h
  obtain ⟨a, xs, rfl, hx, q⟩ := h
  cases rx
  obtain ⟨its, r, ht, hz⟩ := I.tuple (hx.sq (K := X.K))
  have hlen : its.toArray.size = xs.length := by rw [List.size_toArray]; exact r.length.symm
  refine ⟨"tuple", _, PyProof.Rows.slot_tuple_getitem.lookup, ht.typeIs, ?_⟩
  by_cases hw : HT.sIx xs.length 0 lo = 0 ∧ HT.sIx xs.length xs.length hi = xs.length
  · have e : cutV xs lo hi = xs := by
      unfold cutV
      rw [hw.1, hw.2, List.drop_zero, Nat.sub_zero, List.take_length]
    exact getItem_tuple_whole ht hs pl pu (by rw [hlen]; exact hw) ⟨.ref a, H, I, rfl, q a H (by rw [e]; exact hx) (Same.refl _)⟩
  · refine HT.getItem_tuple_cut ht hs pl pu (by rw [hlen]; exact hw) ?_ (by rw [hlen]; exact hz)
    rw [hlen]
    have hf := I.hok.fresh (Nat.le_refl s.heap.objs.size)
    refine ⟨.ref s.heap.objs.size, _, I.laid (t' := s.toks) (o := .frz { cls := .type "tuple", data := .seq ((its.toArray.toList.drop (HT.sIx xs.length 0 lo)).take (HT.sIx xs.length xs.length hi - HT.sIx xs.length 0 lo)).toArray } (.tup (cutV xs lo hi))) (fun b ob q => Heap.get?_push_of_some _ q) (Nat.le_refl _) ?_, rfl, q _ _ ⟨_, upd_same, ?_, ?_⟩ (Same.new hf)⟩
    · exact ⟨Heap.get?_push_size _ rfl, Nat.le_trans (cutV_length xs lo hi) hz, _, (r.drop (HT.sIx xs.length 0 lo)).take (HT.sIx xs.length xs.length hi - HT.sIx xs.length 0 lo), IsTup.new _ _⟩
    · rfl
    · rfl
def tBMT (r : V → List V → Hp → VK → Prop) (to : TE) (t : TA) : TE := fun σ H Q => to σ H fun x H1 => (∃ p ys, x = .ref p ∧ FT H1 p ys) ∧ t σ H1 fun xs H2 => r x xs H2 Q
theorem pe_bmT {X : Cx} {o e : Expr} {es : List Expr} {to : TE} {t : TA} {name : Str} {apos cpos : Pos} {id : String} {r : V → List V → Hp → VK → Prop}
    (pa : PlainAttrs "tuple") (slot : Slot "tuple" name id) (hty : typeOf (.builtin id) = pure (.type "method_descriptor")) (hm : MtR X id r) (ho : PE X o to) (ha : PA X (e :: es) t)
    (hbase : attributeBase o name X.env (eval o X.env) = eval o X.env := by rfl)
    (hfew : ((backTo cpos (starEach (e :: es) X.env)).all (fun x => !x.1) && (backToKw cpos (keywordEach [] X.env)).all (fun x => x.1.isSome)
      && decide ((e :: es).length + ([] : List Keyword).length + (if ([] : List Keyword).isEmpty then 0 else 1) < 30)) = true := by rfl)
    (hline : (apos.endLine == cpos.line) = true := by rfl) (hs : starEach (e :: es) X.env = (false, eval e X.env) :: starEach es X.env := by rfl) (hplain : (backTo cpos (starEach es X.env)).any (·.1) = false := by rfl) :
    PE X (.Call (.Attribute o name apos) (e :: es) [] cpos) (tBMT r to t) := by
  refine ⟨fun pins s σ H Q I h => ?_⟩
  refine wpAny_Call_method_late hbase hfew hline rfl (thn (ho.run pins s σ H _ I h) fun v s1 ⟨x, H1, I1, r1, ty, q1⟩ => ?_)
  obtain ⟨p, ys, ex, ob, hp, hd, hc⟩ := ty
  subst ex
  cases r1
  have hg := (I1.hok p _ hp).1
  refine ⟨"tuple", id, pa, slot, hty, ⟨ob, hg, hc⟩, (fun a e2 => ?_), ?_⟩
  · cases e2
    exact ⟨ob, hg, hd⟩
  have hA := ha.run cpos pins s1 σ H1 _ I1 q1
  rw [hs] at hA ⊢
  refine Calls.callWith_builtin (by show (false || (backTo cpos (starEach es X.env)).any (·.1)) = false; rw [hplain] <;> rfl) (Calls.evalArgs_plain ?_)
  exact thn hA fun us s2 ⟨vs, H2, I2, r2, q2⟩ => hm pins s2 σ H2 (.ref p) vs _ us Q I2 rfl r2 q2
def rTupIx (K : PySem.W.Frag) : V → List V → Hp → VK → Prop := fun x xs H Q => ∃ p, ∃ ys : List Str, ∃ z j, x = .ref p ∧ xs = [.str z] ∧ SqT K H p (ys.map V.str) ∧ ys[j]? = some z ∧ (∀ m, m < j → ys[m]? ≠ some z) ∧ Q (.int (j : Nat)) H
theorem mt_tup_ix_K {X : Cx} {K : PySem.W.Frag} (e : X.K = K) : MtR X "tuple.index" (rTupIx K) := by
  subst e
  exact mt_tup_index
end K1
namespace K1
open PySem PySem.Spec PyProof.Rows L2 Ow
abbrev s_law_first : Stmt := topS 49
abbrev N_law_first : List Str := ["one", "other"]
theorem sc_law_first : FnScope N_law_first ["one", "other"] (defScope s_law_first) := ⟨rfl, rfl, rfl, by decide +kernel, rfl, by decide +kernel, by decide +kernel⟩
section
variable {P : Program} {w : World} {K : PySem.W.Frag} {mg : Str → Option Value} {base : Heap}
theorem ok_first {f : Addr} {fd : FuncData} (F : Fun K "_law_first" "_law_first" s_law_first f fd) (T : Bl mg) :
    FnOk P w K mg base CX0 1 f fd ["one", "other"] spFirst := by
  refine F.ok sc_law_first (fun vs H Q E h => ?_) (fun cdv A outer s H vs Q E hr h => ?_)
  · obtain ⟨a, b, rfl, _⟩ := h
    rfl
  · obtain ⟨a, b, rfl, sa, sb, q⟩ := h
    refine ⟨_, (pss_cons (ps_if (pt_cmpR op_ne (pe_callB call_isi (by rfl) T.isinstance (by decide +kernel) (pa_cons (pv 0) (pa_cons (pe_ty "int" (by rfl) T.int (by decide +kernel)) pa_nil))) (pe_callB call_isi (by rfl) T.isinstance (by decide +kernel) (pa_cons (pv 1) (pa_cons (pe_ty "int" (by rfl) T.int (by decide +kernel)) pa_nil))) (nomark _)) (pss_one (ps_ret (pe_callB call_isi (by rfl) T.isinstance (by decide +kernel) (pa_cons (pv 0) (pa_cons (pe_ty "int" (by rfl) T.int (by decide +kernel)) pa_nil))))) pss_nil)
      (pss_one (ps_ret (pe_cmpR (op_lt.or op_lt_str) (pv 0) (pv 1) (nomark _))))), ?_⟩
    rcases sa with ⟨i, rfl, _⟩ | ⟨x, rfl, _⟩
    · rcases sb with ⟨j, rfl, _⟩ | ⟨y, rfl, _⟩
      · refine ⟨_, rfl, _, _, .type "int", .type "int", true, rfl, .ty _, .base (.int i), kit_ty (by decide +kernel), ?_⟩
        refine ⟨_, rfl, _, _, .type "int", .type "int", true, rfl, .ty _, .base (.int j), kit_ty (by decide +kernel), ?_⟩
        refine ⟨rfl, _, rfl, ite2 (fun e => absurd e (by decide)) (fun _ => ?_)⟩
        exact ⟨_, rfl, _, rfl, .inl ⟨i, j, rfl, rfl, q⟩⟩
      · refine ⟨_, rfl, _, _, .type "int", .type "int", true, rfl, .ty _, .base (.int i), kit_ty (by decide +kernel), ?_⟩
        refine ⟨_, rfl, _, _, .type "str", .type "int", false, rfl, .ty _, .base (.str y), kit_ty (by decide +kernel), ?_⟩
        refine ⟨rfl, _, rfl, ite2 (fun _ => ?_) (fun e => absurd (by decide) e)⟩
        refine ⟨_, rfl, _, _, .type "int", .type "int", true, rfl, .ty _, .base (.int i), kit_ty (by decide +kernel), ?_⟩
        exact q
    · rcases sb with ⟨j, rfl, _⟩ | ⟨y, rfl, _⟩
      · refine ⟨_, rfl, _, _, .type "str", .type "int", false, rfl, .ty _, .base (.str x), kit_ty (by decide +kernel), ?_⟩
        refine ⟨_, rfl, _, _, .type "int", .type "int", true, rfl, .ty _, .base (.int j), kit_ty (by decide +kernel), ?_⟩
        refine ⟨rfl, _, rfl, ite2 (fun _ => ?_) (fun e => absurd (by decide) e)⟩
        refine ⟨_, rfl, _, _, .type "str", .type "int", false, rfl, .ty _, .base (.str x), kit_ty (by decide +kernel), ?_⟩
        exact q
      · refine ⟨_, rfl, _, _, .type "str", .type "int", false, rfl, .ty _, .base (.str x), kit_ty (by decide +kernel), ?_⟩
        refine ⟨_, rfl, _, _, .type "str", .type "int", false, rfl, .ty _, .base (.str y), kit_ty (by decide +kernel), ?_⟩
        refine ⟨rfl, _, rfl, ite2 (fun e => absurd e (by decide)) (fun _ => ?_)⟩
        exact ⟨_, rfl, _, rfl, .inr ⟨x, y, rfl, rfl, q⟩⟩
end
end K1
namespace K1
open PySem PySem.Spec PyProof.Rows L2 Ow
abbrev s_law_order : Stmt := topS 50
abbrev N_law_order : List Str := ["first", "second", "k"]
theorem sc_law_order : FnScope N_law_order ["first", "second"] (defScope s_law_order) := ⟨rfl, rfl, rfl, by decide +kernel, rfl, by decide +kernel, by decide +kernel⟩
theorem order_end : ∀ xs ys : List V, (xs = [] ∨ ys = []) →
    orderV xs ys = (if decide (ys.length < xs.length) = true then 1 else 0) - (if decide (xs.length < ys.length) = true then 1 else 0)
  | [], [], _ => rfl
  | [], y :: ys, _ => by simp [orderV]
  | x :: xs, [], _ => by simp [orderV]
  | x :: xs, y :: ys, h => by simp at h
section
variable {P : Program} {w : World} {K : PySem.W.Frag} {mg : Str → Option Value} {base : Heap}
theorem ok_order {f : Addr} {fd : FuncData} (F : Fun K "_law_order" "_law_order" s_law_order f fd) (T : Bl mg)
    (D_law_first : Kn P w K mg base 1 "_law_first" ["one", "other"] spFirst) :
    FnOk P w K mg base CX0 2 f fd ["first", "second"] (spOrder K) := by
  refine F.ok sc_law_order (fun vs H Q E h => ?_) (fun cdv A outer s H vs Q E hr h => ?_)
  · obtain ⟨a, b, xs, ys, rfl, _⟩ := h
    rfl
  · obtain ⟨a, b, xs, ys, rfl, hx, hy, bx, sx, sy, q⟩ := h
    refine ⟨_, (pss_cons (ps_for PassesOwn.never rfl (pi_range1 (by rfl) T.range (pa_cons (pe_callB (call_min2 rfl) (by rfl) T.min (by decide +kernel) (pa_cons (pe_callB call_len_seq (by rfl) T.len PySem.boot_len (pa_cons (pv 0) pa_nil)) (pa_cons (pe_callB call_len_seq (by rfl) T.len PySem.boot_len (pa_cons (pv 1) pa_nil)) pa_nil))) pa_nil)) (pg_name (i := 2) sc_law_order.nd rfl (.inl rfl)) (pss_cons (ps_if (pt_val (pe_kn D_law_first hr (pa_cons (pe_ix ix_tup (pv 0) (pv 2) (fun _ _ => rfl)) (pa_cons (pe_ix ix_tup (pv 1) (pv 2) (fun _ _ => rfl)) pa_nil)))) (pss_one (ps_ret (pe_un un_neg pe_int))) pss_nil)
      (pss_one (ps_if (pt_val (pe_kn D_law_first hr (pa_cons (pe_ix ix_tup (pv 1) (pv 2) (fun _ _ => rfl)) (pa_cons (pe_ix ix_tup (pv 0) (pv 2) (fun _ _ => rfl)) pa_nil)))) (pss_one (ps_ret pe_int)) pss_nil))))
      (pss_one (ps_ret (pe_op op_sub (pe_callTy call_int1 (by rfl) T.int (by decide +kernel) (pa_cons (pe_cmpR op_gt (pe_callB call_len_seq (by rfl) T.len PySem.boot_len (pa_cons (pv 0) pa_nil)) (pe_callB call_len_seq (by rfl) T.len PySem.boot_len (pa_cons (pv 1) pa_nil)) (nomark _)) pa_nil)) (pe_callTy call_int1 (by rfl) T.int (by decide +kernel) (pa_cons (pe_cmpR op_lt (pe_callB call_len_seq (by rfl) T.len PySem.boot_len (pa_cons (pv 0) pa_nil)) (pe_callB call_len_seq (by rfl) T.len PySem.boot_len (pa_cons (pv 1) pa_nil)) (nomark _)) pa_nil)))))), ?_⟩
    have em : (if (ys.length : Int) < (xs.length : Int) then (ys.length : Int) else (xs.length : Int)) = ((min xs.length ys.length : Nat) : Int) := by
      split <;> omega
    have hmin : min xs.length ys.length ≤ xs.length := Nat.min_le_left _ _
    refine ⟨_, rfl, a, xs, rfl, .inr hx, _, rfl, b, ys, rfl, .inr hy, (xs.length : Int), (ys.length : Int), rfl, ((min xs.length ys.length : Nat) : Int), by rw [em], by omega, by omega,
      for_range (lo := 0) (n := ((min xs.length ys.length : Nat) : Int).toNat) (fun i σ H3 => ∃ y2 : Option V, σ = [some (.ref a), some (.ref b), y2] ∧ H3 = H ∧
        orderV xs ys = orderV (xs.drop i) (ys.drop i)) ⟨none, rfl, rfl, rfl⟩ (fun i σ H3 hi hP => ?_) (fun σ H3 hP => ?_)⟩
    · obtain ⟨y2, rfl, rfl, eo⟩ := hP
      have h1 : i < xs.length := by omega
      have h2 : i < ys.length := by omega
      rw [List.drop_eq_getElem_cons h1, List.drop_eq_getElem_cons h2] at eo
      have ex := at_of (xs := xs) (z := 0 + (i : Int)) (j := i) (by omega) (List.getElem?_eq_getElem h1)
      have ey := at_of (xs := ys) (z := 0 + (i : Int)) (j := i) (by omega) (List.getElem?_eq_getElem h2)
      have s1 := sx _ (List.getElem_mem h1)
      have s2 := sy _ (List.getElem_mem h2)
      refine ⟨_, rfl, _, rfl, a, xs, _, xs[i], rfl, rfl, hx, ex, _, rfl, _, rfl, b, ys, _, ys[i], rfl, rfl, hy, ey, xs[i], ys[i], rfl, s1, s2, _, rfl, ite2 (fun e => ?_) (fun e => ?_)⟩
      · refine ⟨1, rfl, ?_⟩
        have z : orderV xs ys = -1 := by
          rw [eo]
          unfold orderV
          rw [if_pos e]
        rw [z] at q
        exact q
      · refine ⟨_, rfl, _, rfl, b, ys, _, ys[i], rfl, rfl, hy, ey, _, rfl, _, rfl, a, xs, _, xs[i], rfl, rfl, hx, ex, ys[i], xs[i], rfl, s2, s1, _, rfl, ite2 (fun e2 => ?_) (fun e2 => ?_)⟩
        · have z : orderV xs ys = 1 := by
            rw [eo]
            unfold orderV
            rw [if_neg e, if_pos e2]
          rw [z] at q
          exact q
        · refine ⟨_, rfl, rfl, ?_⟩
          rw [eo]
          conv => lhs; unfold orderV
          rw [if_neg e, if_neg e2]
    · obtain ⟨y2, rfl, rfl, eo⟩ := hP
      have eo' : orderV xs ys = orderV (xs.drop (min xs.length ys.length)) (ys.drop (min xs.length ys.length)) := eo
      refine ⟨_, rfl, a, xs, rfl, .inr hx, _, rfl, b, ys, rfl, .inr hy, _, _, rfl, rfl, .inr ⟨_, rfl, _, rfl, a, xs, rfl, .inr hx, _, rfl, b, ys, rfl, .inr hy, _, _, rfl, rfl, .inr ⟨_, rfl, _, _, rfl, rfl, ?_⟩⟩⟩
      have eE := order_end (xs.drop (min xs.length ys.length)) (ys.drop (min xs.length ys.length)) (by
        by_cases h : xs.length ≤ ys.length
        · left; exact List.drop_of_length_le (by omega)
        · right; exact List.drop_of_length_le (by omega))
      have e1 : decide ((ys.drop (min xs.length ys.length)).length < (xs.drop (min xs.length ys.length)).length) = decide ((ys.length : Int) < (xs.length : Int)) := by
        rw [List.length_drop, List.length_drop]
        apply decide_eq_decide.mpr
        omega
      have e2 : decide ((xs.drop (min xs.length ys.length)).length < (ys.drop (min xs.length ys.length)).length) = decide ((xs.length : Int) < (ys.length : Int)) := by
        rw [List.length_drop, List.length_drop]
        apply decide_eq_decide.mpr
        omega
      rw [e1, e2] at eE
      rw [eo'.trans eE] at q
      exact q
end
end K1
namespace K1
open PySem PySem.Spec PyProof.Rows L2 Ow Tlz
abbrev svalue_key : Stmt := topS 6
abbrev Nvalue_key : List Str := ["value"]
theorem scvalue_key : FnScope Nvalue_key ["value"] (defScope svalue_key) := ⟨rfl, rfl, rfl, by decide +kernel, rfl, by decide +kernel, by decide +kernel⟩
abbrev srow_key : Stmt := topS 7
abbrev Nrow_key : List Str := ["row", "value"]
theorem scrow_key : FnScope Nrow_key ["row"] (defScope srow_key) := ⟨rfl, rfl, rfl, by decide +kernel, rfl, by decide +kernel, by decide +kernel⟩
section
variable {P : Program} {w : World} {K : PySem.W.Frag} {mg : Str → Option Value} {base : Heap}
theorem ok_vkey {f : Addr} {fd : FuncData} (F : Fun K "value_key" "value_key" svalue_key f fd) (T : Bl mg) :
    FnOk P w K mg base CX0 1 f fd ["value"] (spVKey K) := by
  refine F.ok scvalue_key (fun vs H Q E h => ?_) (fun cdv A outer s H vs Q E hr h => ?_)
  · obtain ⟨x, rfl, _⟩ := h
    rfl
  · obtain ⟨x, rfl, sx, q⟩ := h
    refine ⟨_, (pss_cons (ps_if (pt_val (pe_callB call_isi (by rfl) T.isinstance (by decide +kernel) (pa_cons (pv 0) (pa_cons (pe_ty "str" (by rfl) T.str (by decide +kernel)) pa_nil)))) (pss_one (ps_ret (pe_tup (pa_cons pe_int (pa_cons (pv 0) pa_nil))))) pss_nil)
      (pss_one (ps_ret (pe_tup (pa_cons pe_int (pa_cons (pv 0) pa_nil)))))), ?_⟩
    rcases sx with ⟨i, rfl, _⟩ | ⟨z, rfl, _⟩
    · refine ⟨_, rfl, _, _, .type "int", .type "str", false, rfl, .ty _, .base (.int i), kit_ty (by decide +kernel), ?_⟩
      refine ⟨_, rfl, iteF ?_⟩
      refine ⟨_, rfl, sz 2, fun t nt => q _ _ ?_ (Same.new nt)⟩
      exact .tup (SqT.of upd_same) (.cons (.int 0) (.cons (.int i) .nil))
    · refine ⟨_, rfl, _, _, .type "str", .type "str", true, rfl, .ty _, .base (.str z), kit_ty (by decide +kernel), ?_⟩
      refine ⟨_, rfl, iteT ?_⟩
      refine ⟨_, rfl, sz 2, fun t nt => q _ _ ?_ (Same.new nt)⟩
      exact .tup (SqT.of upd_same) (.cons (.int 1) (.cons (.str z) .nil))
theorem ok_rkey {f : Addr} {fd : FuncData} (F : Fun K "row_key" "row_key" srow_key f fd) (T : Bl mg)
    (Dvalue_key : Kn P w K mg base 1 "value_key" ["value"] (spVKey K)) :
    FnOk P w K mg base CX0 2 f fd ["row"] (spRKey K) := by
  refine F.ok scrow_key (fun vs H Q E h => ?_) (fun cdv A outer s H vs Q E hr h => ?_)
  · obtain ⟨a, xs, rfl, _⟩ := h
    rfl
  · obtain ⟨a, xs, rfl, hx, sx, lx, q⟩ := h
    refine ⟨_, (pss_one (ps_ret (pe_callTy call_tuple_of (by rfl) T.tuple (by decide +kernel) (pa_cons (pe_lc (own := [("value", 1)]) (g := gName 1) rfl scrow_key.nd (pi_tup (pv 0)) (blkOk_by (own := [("value", 1)]) (N := Nrow_key) (sc := defScope srow_key) (by decide +kernel)) (fun _ _ _ _ _ => pg_name (i := 1) scrow_key.nd rfl (Or.inl rfl)) (fun _ _ _ _ _ => pts_nil) (fun _ _ _ _ _ => (pe_kn Dvalue_key hr (pa_cons (pv 1) pa_nil)))) pa_nil)))), ?_⟩
    refine ⟨_, rfl, a, rfl, ⟨_, hx⟩, fun D nD => lc_tup (K := K) (a := a) (xs := xs) (fun i H4 => ∃ ks : List V, H4 D = some (.lst ks) ∧ ks.length = i ∧ Same H H4 ∧
      DpAll K H4 ks ((xs.take i).map vkD)) ⟨[], upd_same, rfl, Same.new nD, .nil⟩ (fun i H4 hi hP => ?_) (fun i x H4 hi hP => ?_) (fun H4 hP => ?_)⟩
    · obtain ⟨ks, _, _, sm, _⟩ := hP
      exact Tk.same sm _ _ hx
    · obtain ⟨ks, eD, lk, sm, da⟩ := hP
      refine ⟨rfl, ?_⟩
      refine ⟨_, rfl, x, rfl, sx x (List.mem_of_getElem? hi), ?_⟩
      intro y H5 dy s5
      have hl : i < xs.length := (List.getElem?_eq_some_iff.mp hi).1
      have t5 : Tk K H4 H5 := Tk.same s5
      have eD5 := s5 _ _ eD
      refine ⟨ks, eD5, small (m := 1000) (by omega) (by decide), ks ++ [y], upd_same, by rw [List.length_append, lk]; rfl, Same.over (sm.trans s5) nD, ?_⟩
      have t6 : Tk K H5 (upd H5 D (.lst (ks ++ [y]))) := Tk.put eD5
      rw [List.take_add_one, hi]
      rw [List.map_append]
      exact DpAll.snoc (DpAll.tk (t5.trans t6) _ _ (noLs_vk _) da) (Dp.tk t6 _ _ (noL_vk x) dy)
    · obtain ⟨ks, eD, lk, sm, da⟩ := hP
      rw [List.take_length] at da
      refine ⟨D, ks, rfl, .inl ⟨SqL.of eD, fun l nl => q _ _ ?_ (sm.trans (Same.new nl))⟩⟩
      exact .tup (SqT.of upd_same) (DpAll.tk (Tk.same (Same.new nl)) _ _ (noLs_vk _) da)
end
end K1
namespace K1
open PySem PySem.Spec PyProof.Rows L2 Ow
abbrev s_law_mix : Stmt := topS 36
abbrev N_law_mix : List Str := ["cell", "k", "value"]
theorem sc_law_mix : FnScope N_law_mix ["cell", "k"] (defScope s_law_mix) := ⟨rfl, rfl, rfl, by decide +kernel, rfl, by decide +kernel, by decide +kernel⟩
section
variable {P : Program} {w : World} {K : PySem.W.Frag} {mg : Str → Option Value} {base : Heap}
theorem ok_mix {f : Addr} {fd : FuncData} (F : Fun K "_law_mix" "_law_mix" s_law_mix f fd) (T : Bl mg) :
    FnOk P w K mg base CX0 1 f fd ["cell", "k"] spMix := by
  refine F.ok sc_law_mix (fun vs H Q E h => ?_) (fun cdv A outer s H vs Q E hr h => ?_)
  · obtain ⟨c, k, rfl, _⟩ := h
    rfl
  · obtain ⟨c, k, rfl, q⟩ := h
    refine ⟨_, (pss_cons (ps_set (i := 2) sc_law_mix.nd rfl (.inl rfl) (pe_op op_mod (pe_callTy call_int1 (by rfl) T.int (by decide +kernel) (pa_cons (pe_op op_add (pe_op op_add (pe_op op_mul (pe_callTy call_int1 (by rfl) T.int (by decide +kernel) (pa_cons (pv 0) pa_nil)) pe_int) (pe_op op_mul (pv 1) pe_int)) pe_int) pa_nil)) pe_int))
      (pss_cons (ps_set (i := 2) sc_law_mix.nd rfl (.inl rfl) (pe_op op_mod (pe_callTy call_int1 (by rfl) T.int (by decide +kernel) (pa_cons (pe_op op_add (pe_op op_add (pe_op op_mul (pv 2) (pv 2)) (pe_op op_mul (pv 1) pe_int)) pe_int) pa_nil)) pe_int))
      (pss_one (ps_ret (pe_op op_mod (pe_op op_fdiv (pv 2) pe_int) pe_int))))), ?_⟩
    refine ⟨_, rfl, .inl ⟨c, rfl, c, 48271, rfl, rfl, .inr ⟨by decide, by decide⟩, _, rfl, k, 69621, rfl, rfl,
      .inr ⟨by decide, by decide⟩, _, _, rfl, rfl, _, _, rfl, rfl, .inl ⟨_, rfl, _, 2147483647, rfl, rfl, (by show (0 : Int) < 2147483647; decide), ?_⟩⟩⟩
    refine ⟨_, rfl, _, rfl, _, _, rfl, rfl, .inl ⟨by omega, by omega⟩, _, rfl, k, 40692, rfl, rfl,
      .inr ⟨by decide, by decide⟩, _, _, rfl, rfl, _, _, rfl, rfl, .inl ⟨_, rfl, _, 2147483399, rfl, rfl, (by show (0 : Int) < 2147483399; decide), ?_⟩⟩
    refine ⟨_, rfl, _, 5, rfl, rfl, ⟨by decide, by decide⟩, _, 9973, rfl, rfl, (by show (0 : Int) < 9973; decide), ?_⟩
    exact q _ (Int.emod_nonneg _ (by decide)) (Int.emod_lt_of_pos _ (by decide))
end
end K1
namespace K1
open PySem PySem.Spec PyProof.Rows L2 Ow
abbrev s_law_at : Stmt := topS 38
abbrev N_law_at : List Str := ["draws", "index"]
theorem sc_law_at : FnScope N_law_at ["draws", "index"] (defScope s_law_at) := ⟨rfl, rfl, rfl, by decide +kernel, rfl, by decide +kernel, by decide +kernel⟩
section
variable {P : Program} {w : World} {K : PySem.W.Frag} {mg : Str → Option Value} {base : Heap}
theorem ok_at {f : Addr} {fd : FuncData} (F : Fun K "_law_at" "_law_at" s_law_at f fd) (T : Bl mg)
    (D_law_mix : Kn P w K mg base 1 "_law_mix" ["cell", "k"] spMix) :
    FnOk P w K mg base CX0 2 f fd ["draws", "index"] (spAt K) := by
  refine F.ok sc_law_at (fun vs H Q E h => ?_) (fun cdv A outer s H vs Q E hr h => ?_)
  · obtain ⟨d, ds, i, rfl, _⟩ := h
    rfl
  · obtain ⟨d, ds, i, rfl, hd, hi, q⟩ := h
    refine ⟨_, (pss_cons (ps_if (pt_cmpR op_lt (pv 1) (pe_callB call_len_seq (by rfl) T.len PySem.boot_len (pa_cons (pv 0) pa_nil)) (nomark _)) (pss_one (ps_ret (pe_ix ix_list (pv 0) (pv 1) (fun _ _ => rfl)))) pss_nil)
      (pss_cons (ps_if (pt_cmpR op_eq (pe_callB call_len_seq (by rfl) T.len PySem.boot_len (pa_cons (pv 0) pa_nil)) pe_int (nomark _)) (pss_one (ps_ret (pe_kn D_law_mix hr (pa_cons (pv 1) (pa_cons pe_int pa_nil))))) pss_nil)
      (pss_one (ps_ret (pe_kn D_law_mix hr (pa_cons (pe_op op_add (pe_ix ix_list (pv 0) (pe_op op_mod (pe_callTy call_int1 (by rfl) T.int (by decide +kernel) (pa_cons (pv 1) pa_nil)) (pe_callB call_len_seq (by rfl) T.len PySem.boot_len (pa_cons (pv 0) pa_nil))) (fun _ _ => rfl)) (pe_op op_mul (pv 1) pe_int)) (pa_cons (pv 1) pa_nil))))))), ?_⟩
    refine ⟨_, rfl, _, rfl, d, ds.map V.int, rfl, .inl hd, _, _, rfl, rfl, _, rfl, ite2 (fun e => ?_) (fun e => ?_)⟩
    · have e1 : i < ((ds.map V.int).length : Int) := of_decide_eq_true e
      rw [List.length_map] at e1
      have e2 : i.toNat < ds.length := by omega
      refine ⟨_, rfl, _, rfl, d, ds.map V.int, i, .int ds[i.toNat], rfl, rfl, hd, ?_, q _⟩
      exact at_of (j := i.toNat) (by omega) (by rw [List.getElem?_map, List.getElem?_eq_getElem e2]; rfl)
    · refine ⟨_, rfl, d, ds.map V.int, rfl, .inl hd, rfl, _, rfl, ite2 (fun e2 => ?_) (fun e2 => ?_)⟩
      · exact ⟨_, rfl, i, 77, rfl, fun v _ _ => q v⟩
      · have n0 : 0 < ds.length := by
          apply Nat.pos_of_ne_zero
          intro z
          apply e2
          apply decide_eq_true
          rw [List.length_map, z]
          rfl
        have m0 : 0 ≤ i % (ds.length : Int) := Int.emod_nonneg _ (by omega)
        have m1 : i % (ds.length : Int) < ds.length := Int.emod_lt_of_pos _ (by omega)
        have m2 : (i % (ds.length : Int)).toNat < ds.length := by omega
        refine ⟨_, rfl, _, rfl, .inl ⟨_, rfl, _, rfl, d, ds.map V.int, rfl, .inl hd, _, _, rfl, rfl, ?_, d, ds.map V.int, _,
          .int ds[(i % (ds.length : Int)).toNat], rfl, rfl, hd, ?_, _, rfl, i, 131, rfl, rfl, .inr ⟨by decide, by decide⟩, _, _, rfl, rfl, _, rfl, _, _, rfl, fun v _ _ => q v⟩⟩
        · show (0 : Int) < ((ds.map V.int).length : Int)
          rw [List.length_map]
          omega
        · rw [List.length_map]
          exact at_of (j := (i % (ds.length : Int)).toNat) (by omega) (by rw [List.getElem?_map, List.getElem?_eq_getElem m2]; rfl)
end
end K1
namespace K1
open PySem PySem.Spec PyProof.Rows L2 Ow
abbrev s_law_draws : Stmt := topS 37
abbrev N_law_draws : List Str := ["script", "draws", "k", "cell", "place"]
theorem sc_law_draws : FnScope N_law_draws ["script"] (defScope s_law_draws) := ⟨rfl, rfl, rfl, by decide +kernel, rfl, by decide +kernel, by decide +kernel⟩
section
variable {P : Program} {w : World} {K : PySem.W.Frag} {mg : Str → Option Value} {base : Heap}
theorem ok_draws {f : Addr} {fd : FuncData} (F : Fun K "_law_draws" "_law_draws" s_law_draws f fd) (T : Bl mg)
    (D_law_mix : Kn P w K mg base 1 "_law_mix" ["cell", "k"] spMix) :
    FnOk P w K mg base CX0 2 f fd ["script"] (spDraws K) := by
  refine F.ok sc_law_draws (fun vs H Q E h => ?_) (fun cdv A outer s H vs Q E hr h => ?_)
  · obtain ⟨a, ns, rfl, _⟩ := h
    rfl
  · obtain ⟨a, ns, rfl, hS, hlen, q⟩ := h
    refine ⟨_, (pss_cons (ps_set (i := 1) sc_law_draws.nd rfl (.inl rfl) (pe_lst pa_nil))
      (pss_cons (ps_for PassesOwn.never rfl (pi_range1 (by rfl) T.range (pa_cons (pe_callB (call_min2 rfl) (by rfl) T.min (by decide +kernel) (pa_cons pe_int (pa_cons (pe_callB call_len_seq (by rfl) T.len PySem.boot_len (pa_cons (pv 0) pa_nil)) pa_nil))) pa_nil)) (pg_name (i := 2) sc_law_draws.nd rfl (.inl rfl)) (pss_cons (ps_set (i := 3) sc_law_draws.nd rfl (.inl rfl) (pe_callTy call_int1 (by rfl) T.int (by decide +kernel) (pa_cons (pe_ix ix_list (pv 0) (pv 2) (fun _ _ => rfl)) pa_nil)))
      (pss_one (ps_if (pt_cmpR op_lt (pv 3) (pe_op op_pow pe_int pe_int) (nomark _)) (pss_one (ps_expr (pe_bm PySem.F.plainAttrs_list PySem.F.slot_list_append PySem.F.type_list_append mt_append (pv 1) (pa_cons (pe_kn D_law_mix hr (pa_cons (pv 3) (pa_cons (pv 2) pa_nil))) pa_nil)))) (pss_one (ps_for PassesOwn.never rfl (pi_range1 (by rfl) T.range (pa_cons pe_int pa_nil)) (pg_name (i := 4) sc_law_draws.nd rfl (.inl rfl)) (pss_one (ps_if (pt_cmpR op_gt (pv 3) pe_int (nomark _)) (pss_cons (ps_expr (pe_bm PySem.F.plainAttrs_list PySem.F.slot_list_append PySem.F.type_list_append mt_append (pv 1) (pa_cons (pe_op op_mod (pe_callTy call_int1 (by rfl) T.int (by decide +kernel) (pa_cons (pv 3) pa_nil)) pe_int) pa_nil)))
      (pss_one (ps_set (i := 3) sc_law_draws.nd rfl (.inl rfl) (pe_op op_fdiv (pv 3) pe_int)))) pss_nil))))))))
      (pss_one (ps_ret (pv 1))))), ?_⟩
    refine ⟨Nat.zero_le _, fun o no => ?_⟩
    have s1 : Same H (upd H o (.lst [])) := Same.new no
    have en : (if ((ns.map V.int).length : Int) < 63 then ((ns.map V.int).length : Int) else 63) = (ns.length : Int) := by
      rw [List.length_map]
      split <;> omega
    refine ⟨_, rfl, a, ns.map V.int, rfl, .inl (s1.seq hS), 63, ((ns.map V.int).length : Int), rfl, (ns.length : Int), by rw [en], by omega, by omega,
      for_range (lo := 0) (n := (ns.length : Int).toNat) (fun i σ H3 => ∃ (y2 y3 y4 : Option V) (ds : List Int), σ = [some (.ref a), some (.ref o), y2, y3, y4] ∧
        Same H H3 ∧ H3 o = some (.lst (ds.map V.int)) ∧ ds.length ≤ 60 * i) ⟨none, none, none, [], rfl, s1, upd_same, Nat.zero_le _⟩ (fun i σ H3 hi hP => ?_) (fun σ H3 hP => ?_)⟩
    · obtain ⟨y2, y3, y4, ds, rfl, sm, eo, hl⟩ := hP
      have hi' : i < ns.length := by omega
      have g : (ns.map V.int)[i]? = some (.int ns[i]) := by
        rw [List.getElem?_map, List.getElem?_eq_getElem hi']
        rfl
      refine ⟨_, rfl, _, rfl, a, ns.map V.int, _, .int ns[i], rfl, rfl, sm.seq hS, at_of (j := i) (by omega) g, .inl ⟨_, rfl, ?_⟩⟩
      refine ⟨_, rfl, 10, 18, rfl, rfl, ⟨by decide, by decide, by decide⟩, _, _, rfl, rfl, _, rfl, ite2 (fun e => ?_) (fun e => ?_)⟩
      · refine ⟨_, rfl, .inl ⟨rfl, _, .inl (.inl eo)⟩, _, rfl, _, rfl, _, _, rfl, fun v v0 v1 => ⟨o, ds.map V.int, .int v, rfl, rfl, eo, ?_, ?_⟩⟩
        · rw [List.length_map]
          exact small hl (by omega)
        · exact ⟨_, _, _, ds ++ [v], rfl, Same.over sm no, by rw [upd_same, List.map_append]; rfl, by rw [List.length_append]; show ds.length + 1 ≤ _; omega⟩
      · refine ⟨60, rfl, by decide, by decide, for_range (lo := 0) (n := (60 : Int).toNat) (fun j σ H4 => ∃ (c : Int) (y5 : Option V) (es : List Int), σ = [some (.ref a), some (.ref o), some (.int (0 + (i : Int))), some (.int c), y5] ∧
          Same H H4 ∧ H4 o = some (.lst (es.map V.int)) ∧ es.length ≤ 60 * i + j) ⟨ns[i], y4, ds, rfl, sm, eo, hl⟩ (fun j σ H4 hj hP => ?_) (fun σ H4 hP => ?_)⟩
        · obtain ⟨c, y5, es, rfl, sm4, eo4, hl4⟩ := hP
          have hj' : j < 60 := hj
          refine ⟨_, rfl, _, _, rfl, rfl, _, rfl, ite2 (fun e2 => ?_) (fun e2 => ?_)⟩
          · refine ⟨_, rfl, .inl ⟨rfl, _, .inl (.inl eo4)⟩, _, rfl, .inl ⟨c, rfl, c, 9973, rfl, rfl, (by show (0 : Int) < 9973; decide), o, es.map V.int, _, rfl, rfl, eo4, ?_, ?_⟩⟩
            · rw [List.length_map]
              exact small hl4 (by omega)
            · refine ⟨_, rfl, c, 9973, rfl, rfl, ⟨by decide, by decide⟩, ?_⟩
              exact ⟨c / 9973, _, es ++ [c % 9973], rfl, Same.over sm4 no, by rw [upd_same, List.map_append]; rfl, by rw [List.length_append]; show es.length + 1 ≤ _; omega⟩
          · exact ⟨c, _, es, rfl, sm4, eo4, by omega⟩
        · obtain ⟨c, y5, es, rfl, sm4, eo4, hl4⟩ := hP
          have hl5 : es.length ≤ 60 * i + 60 := hl4
          exact ⟨_, _, _, es, rfl, sm4, eo4, by omega⟩
    · obtain ⟨y2, y3, y4, ds, rfl, sm, eo, hl⟩ := hP
      exact ⟨_, rfl, q H3 o ds sm no eo⟩
end
end K1
namespace K1
open PySem PySem.Spec PyProof.Rows L2 Ow
abbrev s_law_next : Stmt := topS 42
abbrev N_law_next : List Str := ["state", "limit"]
theorem sc_law_next : FnScope N_law_next ["state", "limit"] (defScope s_law_next) := ⟨rfl, rfl, rfl, by decide +kernel, rfl, by decide +kernel, by decide +kernel⟩
section
variable {P : Program} {w : World} {K : PySem.W.Frag} {mg : Str → Option Value} {base : Heap}
theorem ok_next {f : Addr} {fd : FuncData} (F : Fun K "_law_next" "_law_next" s_law_next f fd) (T : Bl mg)
    (D_law_at : Kn P w K mg base 2 "_law_at" ["draws", "index"] (spAt K)) :
    FnOk P w K mg base CX0 3 f fd ["state", "limit"] spNext := by
  refine F.ok sc_law_next (fun vs H Q E h => ?_) (fun cdv A outer s H vs Q E hr h => ?_)
  · obtain ⟨p, d, l, rfl, _⟩ := h
    rfl
  · obtain ⟨p, d, l, rfl, hl, ⟨ds, k, hp, hk, hd⟩, q⟩ := h
    have nd := Rng.ne hp hd
    refine ⟨_, (pss_cons (ps_augS (pv 0) pe_int pget_list pe_int ip_add set_list)
      (pss_one (ps_ret (pe_op op_mod (pe_kn D_law_at hr (pa_cons (pe_ix ix_list (pv 0) pe_int (fun _ _ => rfl)) (pa_cons (pe_ix ix_list (pv 0) pe_int (fun _ _ => rfl)) pa_nil))) (pv 1))))), ?_⟩
    refine ⟨_, rfl, p, [.ref d, .int k], 1, .int k, rfl, rfl, SqL.of hp, rfl, k, 1, rfl, rfl, p, [.ref d, .int k], 1, 1, rfl, rfl, hp, rfl, ?_⟩
    have e1 : (upd H p (.lst [.ref d, .int (k + 1)])) d = some (.lst (ds.map V.int)) := by
      rw [upd_ne nd]
      exact hd
    refine ⟨_, rfl, p, [.ref d, .int (k + 1)], 0, .ref d, rfl, rfl, SqL.of upd_same, rfl, _, rfl, p, [.ref d, .int (k + 1)], 1, .int (k + 1), rfl, rfl, SqL.of upd_same, rfl,
      d, ds, k + 1, rfl, SqL.of e1, by omega, fun v => ⟨_, rfl, v, l, rfl, rfl, hl, ?_⟩⟩
    exact q _ _ ⟨_, rfl, Int.emod_nonneg _ (by omega), Int.emod_lt_of_pos _ hl⟩ Gw.put ⟨ds, k + 1, upd_same, by omega, e1⟩
end
end K1
namespace K1
open PySem PySem.Spec PyProof.Rows L2 Ow
abbrev s_law_text : Stmt := topS 45
abbrev N_law_text : List Str := ["state", "most", "chars", "start", "step", "k"]
theorem sc_law_text : FnScope N_law_text ["state", "most"] (defScope s_law_text) := ⟨rfl, rfl, rfl, by decide +kernel, rfl, by decide +kernel, by decide +kernel⟩
theorem join_len : ∀ (ys : List Str) (n : Nat), (∀ y ∈ ys, y.length ≤ 1) → ys.length ≤ n → (ys.map (·.length)).sum ≤ n
  | [], _, _, _ => Nat.zero_le _
  | y :: r, 0, _, h => by simp at h
  | y :: r, n + 1, h, hl => by
    have ih := join_len r n (fun z hz => h z (List.mem_cons_of_mem _ hz)) (by simpa using hl)
    have h1 := h y List.mem_cons_self
    rw [List.map_cons, List.sum_cons]
    omega
section
variable {P : Program} {w : World} {K : PySem.W.Frag} {mg : Str → Option Value} {base : Heap}
theorem ok_text {f : Addr} {fd : FuncData} (F : Fun K "_law_text" "_law_text" s_law_text f fd) (T : Bl mg)
    (D_law_next : Kn P w K mg base 3 "_law_next" ["state", "limit"] spNext) :
    FnOk P w K mg base CX0 4 f fd ["state", "most"] spText := by
  refine F.ok sc_law_text (fun vs H Q E h => ?_) (fun cdv A outer s H vs Q E hr h => ?_)
  · obtain ⟨p, d, m, rfl, _⟩ := h
    rfl
  · obtain ⟨p, d, m, rfl, hm, rg, q⟩ := h
    refine ⟨_, (pss_cons (ps_set (i := 2) sc_law_text.nd rfl (.inr rfl) pe_str)
      (pss_cons (ps_set (i := 3) sc_law_text.nd rfl (.inr rfl) (pe_kn D_law_next hr (pa_cons (pv 0) (pa_cons pe_int pa_nil))))
      (pss_cons (ps_set (i := 4) sc_law_text.nd rfl (.inr rfl) (pe_kn D_law_next hr (pa_cons (pv 0) (pa_cons pe_int pa_nil))))
      (pss_one (ps_ret (pe_join pe_str (pe_lc (own := [("k", 5)]) (g := gName 5) rfl sc_law_text.nd (pi_range1 (by rfl) T.range (pa_cons (pe_kn D_law_next hr (pa_cons (pv 0) (pa_cons (pe_op op_add (pv 1) pe_int) pa_nil))) pa_nil)) (blkOk_by (own := [("k", 5)]) (N := N_law_text) (sc := defScope s_law_text) (by decide +kernel)) (fun _ _ _ _ _ => pg_name (i := 5) sc_law_text.nd rfl (Or.inl rfl)) (fun _ _ _ _ _ => pts_nil) (fun _ _ _ _ _ => (pe_ix ix_str (pv 2) (pe_op op_mod (pe_op op_add (pv 3) (pe_op op_mul (pv 4) (pv 5))) pe_int) (fun _ _ => rfl)))))))))), ?_⟩
    refine ⟨_, rfl, p, d, 94, rfl, by decide, rg, ?_⟩
    rintro x1 H1 ⟨b, rfl, b0, b1⟩ gw1 rg1
    refine ⟨_, rfl, p, d, 94, rfl, by decide, rg1, ?_⟩
    rintro x2 H2 ⟨c, rfl, c0, c1⟩ gw2 rg2
    refine ⟨⟨_, rfl⟩, _, rfl, _, rfl, (m : Int), 1, rfl, rfl, p, d, (m : Int) + 1, rfl, by omega, rg2, ?_⟩
    rintro x3 H3 ⟨n, rfl, n0, n1⟩ gw3 rg3
    have gw : Gw p H H3 := (gw1.trans gw2).trans gw3
    refine ⟨n, rfl, by omega, by omega, fun D nD => lc_range (lo := 0) (n := n.toNat) (fun i H4 => ∃ ys : List Str, H4 D = some (.lst (ys.map V.str)) ∧
      ys.length = i ∧ (∀ y ∈ ys, y.length ≤ 1 ∧ Pr y) ∧ Gw p H H4 ∧ Rng d H4 p) ⟨[], upd_same, rfl, fun _ z => (nomatch z), Gw.over gw (gw.free nD (rg3.free nD).1), rg3.same (Same.new nD)⟩ (fun i H4 hi hP => ?_) (fun H4 hP => ?_)⟩
    · obtain ⟨ys, eD, ly, l1, gw4, rg4⟩ := hP
      refine ⟨rfl, ?_⟩
      refine ⟨_, rfl, _, rfl, _, rfl, _, rfl, c, _, rfl, rfl, .inl ⟨by omega, by omega⟩, _, _, rfl, rfl, _, 94, rfl, rfl, (by show (0 : Int) < 94; decide), ?_⟩
      obtain ⟨ch, hch, mch⟩ := at_in (xs := (PySem.Str.ofString " !\"#$&'()*+,-./0123456789:;<=>?@ABCDEFGHIJKLMNOPQRSTUVWXYZ[\\]^_`abcdefghijklmnopqrstuvwxyz{|}~").cps.toList)
        (v := (b + c * (0 + (i : Int))) % 94) (Int.emod_nonneg _ (by decide)) (by
          rw [show (PySem.Str.ofString " !\"#$&'()*+,-./0123456789:;<=>?@ABCDEFGHIJKLMNOPQRSTUVWXYZ[\\]^_`abcdefghijklmnopqrstuvwxyz{|}~").cps.toList.length = 94 by decide +kernel]
          exact Int.emod_lt_of_pos _ (by decide))
      refine ⟨_, _, ch, rfl, rfl, by decide +kernel, hch, ys.map V.str, eD, ?_, ?_⟩
      · rw [List.length_map]
        exact small (m := 1000) (by omega) (by decide)
      · refine ⟨ys ++ [⟨#[ch]⟩], by rw [upd_same, List.map_append]; rfl, by rw [List.length_append, ly]; rfl, fun y hy => ?_, ?_, ?_⟩
        · rcases List.mem_append.mp hy with h | h
          · exact l1 y h
          · rw [List.mem_singleton.mp h]
            refine ⟨Nat.le_refl _, fun z hz => ?_⟩
            have ez : z = ch := List.mem_singleton.mp hz
            rw [ez]
            exact (by decide +kernel : ∀ c ∈ (PySem.Str.ofString " !\"#$&'()*+,-./0123456789:;<=>?@ABCDEFGHIJKLMNOPQRSTUVWXYZ[\\]^_`abcdefghijklmnopqrstuvwxyz{|}~").cps.toList, 32 ≤ c ∧ c < 127 ∧ c ≠ 37) ch mch
        · exact Gw.over gw4 (gw.free nD (rg3.free nD).1)
        · exact rg4.upd (rg3.free nD)
    · obtain ⟨ys, eD, ly, l1, gw4, rg4⟩ := hP
      have hs : (ys.map (·.length)).sum ≤ m := join_len ys m (fun y hy => (l1 y hy).1) (by omega)
      refine ⟨_, D, ys, rfl, rfl, .inl (SqL.of eD), ?_, ?_⟩
      · show (ys.map (·.length)).sum + ys.length * 0 ≤ _
        omega
      · exact q _ _ ⟨_, rfl, Pr.join fun y hy => (l1 y hy).2, by rw [join_size]; exact hs⟩ gw4 rg4
end
end K1
namespace K1
open PySem PySem.Spec PyProof.Rows L2 Ow
abbrev s_law_value : Stmt := topS 46
abbrev N_law_value : List Str := ["state", "pick", "number", "k"]
theorem sc_law_value : FnScope N_law_value ["state"] (defScope s_law_value) := ⟨rfl, rfl, rfl, by decide +kernel, rfl, by decide +kernel, by decide +kernel⟩
section
variable {P : Program} {w : World} {K : PySem.W.Frag} {mg : Str → Option Value} {base : Heap}
theorem ok_value {f : Addr} {fd : FuncData} (F : Fun K "_law_value" "_law_value" s_law_value f fd) (T : Bl mg)
    (D_law_next : Kn P w K mg base 3 "_law_next" ["state", "limit"] spNext)
    (D_law_text : Kn P w K mg base 4 "_law_text" ["state", "most"] spText) :
    FnOk P w K mg base CX0 5 f fd ["state"] spValue := by
  refine F.ok sc_law_value (fun vs H Q E h => ?_) (fun cdv A outer s H vs Q E hr h => ?_)
  · obtain ⟨p, d, rfl, _⟩ := h
    rfl
  · obtain ⟨p, d, rfl, rg, q⟩ := h
    refine ⟨_, (pss_cons (ps_set (i := 1) sc_law_value.nd rfl (.inl rfl) (pe_kn D_law_next hr (pa_cons (pv 0) (pa_cons pe_int pa_nil))))
      (pss_cons (ps_if (pt_cmpR op_lt (pv 1) pe_int (nomark _)) (pss_one (ps_ret (pe_op op_sub (pe_kn D_law_next hr (pa_cons (pv 0) (pa_cons pe_int pa_nil))) pe_int))) pss_nil)
      (pss_cons (ps_if (pt_cmpR op_eq (pv 1) pe_int (nomark _)) (pss_cons (ps_set (i := 2) sc_law_value.nd rfl (.inl rfl) pe_int)
      (pss_cons (ps_for PassesOwn.never rfl (pi_range1 (by rfl) T.range (pa_cons (pe_op op_add pe_int (pe_kn D_law_next hr (pa_cons (pv 0) (pa_cons pe_int pa_nil)))) pa_nil)) (pg_name (i := 3) sc_law_value.nd rfl (.inl rfl)) (pss_one (ps_set (i := 2) sc_law_value.nd rfl (.inl rfl) (pe_op op_add (pe_op op_mul (pv 2) pe_int) (pe_kn D_law_next hr (pa_cons (pv 0) (pa_cons pe_int pa_nil)))))))
      (pss_one (ps_ret (pe_op op_mul (pv 2) (pe_ix ix_list (pe_lst (pa_cons pe_int (pa_cons (pe_un un_neg pe_int) pa_nil))) (pe_kn D_law_next hr (pa_cons (pv 0) (pa_cons pe_int pa_nil))) (fun _ _ => rfl))))))) pss_nil)
      (pss_cons (ps_if (pt_cmpR op_eq (pv 1) pe_int (nomark _)) (pss_one (ps_ret (pe_ix ix_list (pe_lst (pa_cons (pe_op op_sub (pe_op op_pow pe_int pe_int) pe_int) (pa_cons (pe_op op_sub pe_int (pe_op op_pow pe_int pe_int)) (pa_cons pe_int (pa_cons pe_int (pa_cons (pe_un un_neg pe_int) (pa_cons pe_int pa_nil))))))) (pe_kn D_law_next hr (pa_cons (pv 0) (pa_cons pe_int pa_nil))) (fun _ _ => rfl)))) pss_nil)
      (pss_cons (ps_if (pt_cmpR op_lt (pv 1) pe_int (nomark _)) (pss_one (ps_ret (pe_ix ix_list (pe_lst (pa_cons pe_str (pa_cons pe_str (pa_cons pe_str (pa_cons pe_str (pa_cons pe_str (pa_cons pe_str (pa_cons pe_str pa_nil)))))))) (pe_kn D_law_next hr (pa_cons (pv 0) (pa_cons pe_int pa_nil))) (fun _ _ => rfl)))) pss_nil)
      (pss_one (ps_ret (pe_kn D_law_text hr (pa_cons (pv 0) (pa_cons pe_int pa_nil)))))))))), ?_⟩
    refine ⟨_, rfl, p, d, 9, rfl, by decide, rg, ?_⟩
    rintro x1 H1 ⟨b, rfl, b0, b1⟩ gw1 rg1
    refine ⟨_, rfl, _, _, rfl, rfl, _, rfl, ite2 (fun e => ?_) (fun e => ?_)⟩
    · refine ⟨_, rfl, p, d, 5, rfl, by decide, rg1, ?_⟩
      rintro x2 H2 ⟨c, rfl, c0, c1⟩ gw2 rg2
      exact ⟨c, 2, rfl, rfl, q _ _ (.inl ⟨_, rfl, by omega⟩) (gw1.trans gw2) rg2⟩
    refine ⟨_, rfl, rfl, _, rfl, ite2 (fun e => ?_) (fun e => ?_)⟩
    · refine ⟨_, rfl, p, d, 7, rfl, by decide, rg1, ?_⟩
      rintro x2 H2 ⟨c, rfl, c0, c1⟩ gw2 rg2
      refine ⟨1, c, rfl, rfl, 1 + c, rfl, by omega, by omega, for_range (lo := 0) (n := (1 + c).toNat) (fun i σ H3 => ∃ (n : Int) (y3 : Option V),
        σ = [some (.ref p), some (.int b), some (.int n), y3] ∧ 0 ≤ n ∧ n < 9973 ^ i ∧ Gw p H H3 ∧ Rng d H3 p) ⟨0, none, rfl, by decide, by decide, gw1.trans gw2, rg2⟩ (fun i σ H3 hi hP => ?_) (fun σ H3 hP => ?_)⟩
      · obtain ⟨n, y3, rfl, n0, n1, gw3, rg3⟩ := hP
        refine ⟨_, rfl, n, 9973, rfl, rfl, .inr ⟨by decide, by decide⟩, _, rfl, p, d, 9973, rfl, by decide, rg3, ?_⟩
        rintro x4 H4 ⟨z, rfl, z0, z1⟩ gw4 rg4
        exact ⟨_, _, rfl, rfl, _, _, rfl, by omega, by rw [Int.pow_succ]; omega, gw3.trans gw4, rg4⟩
      · obtain ⟨n, y3, rfl, n0, n1, gw3, rg3⟩ := hP
        have n2 : n < 9973 ^ 7 := by
          have : (1 + c).toNat ≤ 7 := by omega
          have h := Nat.pow_le_pow_right (n := 9973) (by decide) this
          have h' : ((9973 ^ (1 + c).toNat : Nat) : Int) ≤ ((9973 ^ 7 : Nat) : Int) := by omega
          rw [Int.natCast_pow, Int.natCast_pow] at h'
          exact Int.lt_of_lt_of_le n1 h'
        refine ⟨_, rfl, 1, rfl, by decide, fun o no => ⟨_, rfl, p, d, 2, rfl, by decide, rg3.same (Same.new no), ?_⟩⟩
        rintro x5 H5 ⟨v, rfl, v0, v1⟩ gw5 rg5
        obtain ⟨y, hy, my⟩ := at_in (xs := [V.int 1, V.int (-1)]) v0 v1
        refine ⟨o, _, v, y, rfl, rfl, SqL.of (gw5.keep upd_same (rg3.free no).1), hy, ?_⟩
        have gw6 : Gw p H H5 := (gw3.trans (Gw.new no)).trans gw5
        simp only [List.mem_cons, List.not_mem_nil, or_false] at my
        rcases my with rfl | rfl
        · exact ⟨n, 1, rfl, rfl, .inr ⟨by decide, by decide⟩, q _ _ (.inl ⟨_, rfl, by omega⟩) gw6 rg5⟩
        · exact ⟨n, -1, rfl, rfl, .inr ⟨by decide, by decide⟩, q _ _ (.inl ⟨_, rfl, by omega⟩) gw6 rg5⟩
    refine ⟨_, rfl, rfl, _, rfl, ite2 (fun e => ?_) (fun e => ?_)⟩
    · refine ⟨10, 30, rfl, rfl, ⟨by decide, by decide, by decide⟩, _, 1, rfl, rfl, 10, 30, rfl, rfl, ⟨by decide, by decide, by decide⟩, 1, _, rfl, rfl, 128, rfl, by decide, fun o no => ⟨_, rfl, p, d, 6, rfl, by decide, rg1.same (Same.new no), ?_⟩⟩
      rintro x5 H5 ⟨v, rfl, v0, v1⟩ gw5 rg5
      obtain ⟨y, hy, my⟩ := at_in (xs := [V.int ((10 : Int) ^ (30 : Int).toNat - 1), V.int (1 - (10 : Int) ^ (30 : Int).toNat), V.int 127, V.int 128, V.int (-128), V.int 16384]) v0 v1
      refine ⟨o, _, v, y, rfl, rfl, SqL.of (gw5.keep upd_same (rg1.free no).1), hy, q _ _ ?_ ((gw1.trans (Gw.new no)).trans gw5) rg5⟩
      simp only [List.mem_cons, List.not_mem_nil, or_false] at my
      rcases my with rfl | rfl | rfl | rfl | rfl | rfl <;> exact .inl ⟨_, rfl, by decide⟩
    refine ⟨_, rfl, _, _, rfl, rfl, _, rfl, ite2 (fun e => ?_) (fun e => ?_)⟩
    · refine ⟨by decide, fun o no => ⟨_, rfl, p, d, 7, rfl, by decide, rg1.same (Same.new no), ?_⟩⟩
      rintro x5 H5 ⟨v, rfl, v0, v1⟩ gw5 rg5
      obtain ⟨y, hy, my⟩ := at_in (xs := [V.str "", V.str "a", V.str "b", V.str "ab", V.str "a ", V.str "0", V.str "1"]) v0 v1
      refine ⟨o, _, v, y, rfl, rfl, SqL.of (gw5.keep upd_same (rg1.free no).1), hy, q _ _ ?_ ((gw1.trans (Gw.new no)).trans gw5) rg5⟩
      simp only [List.mem_cons, List.not_mem_nil, or_false] at my
      rcases my with rfl | rfl | rfl | rfl | rfl | rfl | rfl <;> exact .inr ⟨_, rfl, by decide +kernel, by decide +kernel⟩
    · refine ⟨_, rfl, p, d, 30, rfl, by decide, rg1, ?_⟩
      rintro x2 H2 ⟨z, rfl, pz, lz⟩ gw2 rg2
      exact q _ _ (.inr ⟨_, rfl, pz, by omega⟩) (gw1.trans gw2) rg2
end
end K1
namespace K1
open PySem PySem.Spec PyProof.Rows L2 Ow
abbrev N_law_small : List Str := ["state", "pick"]
section
variable {P : Program} {w : World} {K : PySem.W.Frag} {mg : Str → Option Value} {base : Heap}
end
end K1
namespace K1
open PySem PySem.Spec PyProof.Rows L2 Ow Tlz
/-! the order of rows -/
theorem cps_inj {x y : Str} (h : x.cps.toList = y.cps.toList) : x = y := by
  cases x
  cases y
  simp only [Str.mk.injEq]
  exact Array.toList_inj.mp h
theorem str_tot (x y : Str) : x.cps.toList < y.cps.toList ∨ x = y ∨ y.cps.toList < x.cps.toList := by
  by_cases h1 : x.cps.toList < y.cps.toList
  · exact .inl h1
  · by_cases h2 : y.cps.toList < x.cps.toList
    · exact .inr (.inr h2)
    · exact .inr (.inl (cps_inj (List.le_antisymm h2 h1)))
theorem first_tot {x y : V} (sx : Scal x) (sy : Scal y) : firstV x y = true ∨ x = y ∨ firstV y x = true := by
  rcases sx with ⟨i, rfl, _⟩ | ⟨x, rfl, _⟩ <;> rcases sy with ⟨j, rfl, _⟩ | ⟨y, rfl, _⟩
  · rcases Int.lt_trichotomy i j with h | h | h
    · exact .inl (decide_eq_true h)
    · exact .inr (.inl (by rw [h]))
    · exact .inr (.inr (decide_eq_true h))
  · exact .inl rfl
  · exact .inr (.inr rfl)
  · rcases str_tot x y with h | h | h
    · exact .inl (decide_eq_true h)
    · exact .inr (.inl (by rw [h]))
    · exact .inr (.inr (decide_eq_true h))
theorem first_irr {x : V} (sx : Scal x) : firstV x x = false := by
  rcases sx with ⟨i, rfl, _⟩ | ⟨x, rfl, _⟩
  · exact decide_eq_false (by omega)
  · exact decide_eq_false (List.lt_irrefl _)
theorem first_trans {x y z : V} (sx : Scal x) (sy : Scal y) (sz : Scal z) (h : firstV x y = true) (g : firstV y z = true) : firstV x z = true := by
  rcases sx with ⟨i, rfl, _⟩ | ⟨x, rfl, _⟩ <;> rcases sy with ⟨j, rfl, _⟩ | ⟨y, rfl, _⟩ <;> rcases sz with ⟨k, rfl, _⟩ | ⟨z, rfl, _⟩
  · have a : i < j := of_decide_eq_true h
    have b : j < k := of_decide_eq_true g
    exact decide_eq_true (by omega)
  · rfl
  · exact absurd (show false = true from g) Bool.false_ne_true
  · rfl
  · exact absurd (show false = true from h) Bool.false_ne_true
  · exact absurd (show false = true from h) Bool.false_ne_true
  · exact absurd (show false = true from g) Bool.false_ne_true
  · have a : x.cps.toList < y.cps.toList := of_decide_eq_true h
    have b : y.cps.toList < z.cps.toList := of_decide_eq_true g
    exact decide_eq_true (List.lt_trans a b)
def Rlt (xs ys : List V) : Prop := orderV xs ys < 0
instance (xs ys : List V) : Decidable (Rlt xs ys) := inferInstanceAs (Decidable (_ < _))
theorem order_cons (x y : V) (xs ys : List V) : orderV (x :: xs) (y :: ys) = if firstV x y = true then -1 else if firstV y x = true then 1 else orderV xs ys := by
  rw [orderV]
theorem rlt_cons {x y : V} {xs ys : List V} (sx : Scal x) (sy : Scal y) : Rlt (x :: xs) (y :: ys) ↔ firstV x y = true ∨ (x = y ∧ Rlt xs ys) := by
  unfold Rlt
  rw [order_cons]
  rcases first_tot sx sy with h | h | h
  · rw [if_pos h]
    exact ⟨fun _ => .inl h, fun _ => by decide⟩
  · subst h
    rw [first_irr sx, if_neg Bool.false_ne_true, if_neg Bool.false_ne_true]
    exact ⟨fun z => .inr ⟨rfl, z⟩, fun z => z.elim (fun w => absurd w Bool.false_ne_true) (·.2)⟩
  · have h2 := first_asym sy sx h
    rw [h2, if_neg Bool.false_ne_true, if_pos h]
    refine ⟨fun z => absurd z (by decide), fun z => z.elim (fun w => absurd w Bool.false_ne_true) fun w => ?_⟩
    rw [w.1, first_irr sy] at h
    exact absurd h Bool.false_ne_true
theorem rlt_trans : ∀ {xs ys zs : List V}, (∀ x ∈ xs, Scal x) → (∀ y ∈ ys, Scal y) → (∀ z ∈ zs, Scal z) → Rlt xs ys → Rlt ys zs → Rlt xs zs
  | [], [], _, _, _, _, h, _ => absurd h (by decide)
  | [], _ :: _, [], _, _, _, _, g => absurd g (by unfold Rlt orderV; decide)
  | [], _ :: _, _ :: _, _, _, _, _, _ => by unfold Rlt orderV; decide
  | _ :: _, [], _, _, _, _, h, _ => absurd h (by unfold Rlt orderV; decide)
  | _ :: _, _ :: _, [], _, _, _, _, g => absurd g (by unfold Rlt orderV; decide)
  | x :: xs, y :: ys, z :: zs, hx, hy, hz, h, g => by
    have sx := hx x List.mem_cons_self
    have sy := hy y List.mem_cons_self
    have sz := hz z List.mem_cons_self
    rw [rlt_cons sx sy] at h
    rw [rlt_cons sy sz] at g
    rw [rlt_cons sx sz]
    rcases h with h | ⟨e, h⟩ <;> rcases g with g | ⟨e2, g⟩
    · exact .inl (first_trans sx sy sz h g)
    · rw [← e2]; exact .inl h
    · rw [e]; exact .inl g
    · exact .inr ⟨e.trans e2, rlt_trans (fun v m => hx v (List.mem_cons_of_mem _ m)) (fun v m => hy v (List.mem_cons_of_mem _ m)) (fun v m => hz v (List.mem_cons_of_mem _ m)) h g⟩
theorem rlt_irr {xs : List V} (hx : ∀ x ∈ xs, Scal x) : ¬ Rlt xs xs := by
  induction xs with
  | nil => decide
  | cons x xs ih =>
    rw [rlt_cons (hx x List.mem_cons_self) (hx x List.mem_cons_self)]
    intro h
    rcases h with h | ⟨_, h⟩
    · rw [first_irr (hx x List.mem_cons_self)] at h
      exact Bool.false_ne_true h
    · exact ih (fun v m => hx v (List.mem_cons_of_mem _ m)) h
/-! lists of rows -/
def rrefs (rs : List (Addr × List V)) : List V := rs.map fun t => .ref t.1
def RowsOk (K : PySem.W.Frag) (H : Hp) (rs : List (Addr × List V)) : Prop := ∀ t ∈ rs, SqT K H t.1 t.2 ∧ (∀ x ∈ t.2, Scal x) ∧ t.2.length ≤ 10
theorem rrefs_get {rs : List (Addr × List V)} {i : Nat} {x : V} (h : (rrefs rs)[i]? = some x) : ∃ t, rs[i]? = some t ∧ x = .ref t.1 := by
  unfold rrefs at h
  rw [List.getElem?_map] at h
  cases e : rs[i]? with
  | none => rw [e] at h; cases h
  | some t => rw [e] at h; exact ⟨t, rfl, (Option.some.inj h).symm⟩
theorem rrefs_at {rs : List (Addr × List V)} {i : Nat} {t : Addr × List V} (h : rs[i]? = some t) : (rrefs rs)[i]? = some (.ref t.1) := by
  unfold rrefs
  rw [List.getElem?_map, h]
  rfl
theorem RowsOk.tk {K : PySem.W.Frag} {H H' : Hp} {rs : List (Addr × List V)} (t : Tk K H H') (h : RowsOk K H rs) : RowsOk K H' rs := fun u m => ⟨t _ _ (h u m).1, (h u m).2⟩
theorem RowsOk.snoc {K : PySem.W.Frag} {H : Hp} {rs : List (Addr × List V)} {q : Addr} {xs : List V} (h : RowsOk K H rs) (hq : SqT K H q xs) (sx : ∀ x ∈ xs, Scal x) (lx : xs.length ≤ 10) : RowsOk K H (rs ++ [(q, xs)]) := by
  intro u m
  rcases List.mem_append.mp m with m | m
  · exact h u m
  · rw [List.mem_singleton.mp m]
    exact ⟨hq, sx, lx⟩
theorem rrefs_snoc {rs : List (Addr × List V)} {t : Addr × List V} : rrefs (rs ++ [t]) = rrefs rs ++ [.ref t.1] := by
  unfold rrefs
  rw [List.map_append]
  rfl
theorem rrefs_len (rs : List (Addr × List V)) : (rrefs rs).length = rs.length := by unfold rrefs; rw [List.length_map]
theorem RowsOk.same {K : PySem.W.Frag} {H H' : Hp} {rs : List (Addr × List V)} (s : Same H H') (h : RowsOk K H rs) : RowsOk K H' rs := h.tk (Tk.same s)
/-- the rows stand in their order -/
def Srt (rs : List (Addr × List V)) : Prop := rs.Pairwise fun a b => Rlt a.2 b.2
/-- n is the first place whose row is not before row -/
def Place (rs : List (Addr × List V)) (row : List V) (n : Nat) : Prop := (∀ j t, j < n → rs[j]? = some t → Rlt t.2 row) ∧ ∀ j t, n ≤ j → rs[j]? = some t → ¬ Rlt t.2 row
def spPlace (K : PySem.W.Frag) : Sp := fun vs H Q _ => ∃ (l r : Addr) (rs : List (Addr × List V)) (row : List V), vs = [.ref l, .ref r] ∧ SqL K H l (rrefs rs) ∧ RowsOk K H rs ∧ SqT K H r row ∧ (∀ x ∈ row, Scal x) ∧ row.length ≤ 10 ∧ rs.length ≤ 1000 ∧
  ∀ (n : Nat) H', n ≤ rs.length → (Srt rs → Place rs row n) → Same H H' → Q (.int (n : Int)) H'
abbrev splace_of : Stmt := topS 9
abbrev Nplace_of : List Str := ["rows", "row", "wanted", "low", "high", "middle"]
theorem scplace_of : FnScope Nplace_of ["rows", "row"] (defScope splace_of) := ⟨rfl, rfl, rfl, by decide +kernel, rfl, by decide +kernel, by decide +kernel⟩
def muP : L2.St → Hp → Nat := fun σ _ => match σ with
  | _ :: _ :: _ :: some (.int lo) :: some (.int hi) :: _ => (hi - lo).toNat
  | _ => 0
theorem srt_lt {rs : List (Addr × List V)} (h : Srt rs) {i j : Nat} {a b : Addr × List V} (ha : rs[i]? = some a) (hb : rs[j]? = some b) (l : i < j) : Rlt a.2 b.2 := by
  obtain ⟨pa, ea⟩ := List.getElem?_eq_some_iff.mp ha
  obtain ⟨pb, eb⟩ := List.getElem?_eq_some_iff.mp hb
  rw [← ea, ← eb]
  exact List.pairwise_iff_getElem.mp h i j pa pb l
section
variable {P : Program} {w : World} {K : PySem.W.Frag} {mg : Str → Option Value} {base : Heap}
theorem ok_place {f : Addr} {fd : FuncData} (F : Fun K "place_of" "place_of" splace_of f fd) (T : Bl mg)
    (Drow_key : Kn P w K mg base 2 "row_key" ["row"] (spRKey K)) :
    FnOk P w K mg base CX0 3 f fd ["rows", "row"] (spPlace K) := by
  refine F.ok scplace_of (fun vs H Q E h => ?_) (fun cdv A outer s H vs Q E hr h => ?_)
  · obtain ⟨l, r, rs, row, rfl, _⟩ := h
    rfl
  · obtain ⟨l, r, rs, row, rfl, hl, hR, hrow, sr, lr, lrs, q⟩ := h
    refine ⟨_, (pss_cons (ps_set (i := 2) scplace_of.nd rfl (.inl rfl) (pe_kn Drow_key hr (pa_cons (pv 1) pa_nil)))
      (pss_cons (ps_set (i := 3) scplace_of.nd rfl (.inl rfl) pe_int)
      (pss_cons (ps_set (i := 4) scplace_of.nd rfl (.inl rfl) (pe_callB call_len_seq (by rfl) T.len PySem.boot_len (pa_cons (pv 0) pa_nil)))
      (pss_cons (ps_while PassesOwn.never (pt_cmpR op_lt (pv 3) (pv 4) (nomark _))
        (pss_cons (ps_set (i := 5) scplace_of.nd rfl (.inl rfl) (pe_op op_fdiv (pe_op op_add (pv 3) (pv 4)) pe_int))
        (pss_one (ps_if (pt_cmpR (op_ltK hr) (pe_kn Drow_key hr (pa_cons (pe_ix ix_list (pv 0) (pv 5) (fun _ _ => rfl)) pa_nil)) (pv 2) (nomark _))
          (pss_one (ps_set (i := 3) scplace_of.nd rfl (.inl rfl) (pe_op op_add (pv 5) pe_int)))
          (pss_one (ps_set (i := 4) scplace_of.nd rfl (.inl rfl) (pv 5)))))))
      (pss_one (ps_ret (pv 3))))))), ?_⟩
    refine ⟨_, rfl, r, row, rfl, hrow, sr, by omega, fun y H1 dy s1 => ?_⟩
    refine ⟨_, rfl, l, rrefs rs, rfl, .inl (s1.seq hl), ?_⟩
    refine while_by (fun σ H2 => ∃ (lo hi : Nat) (y5 : Option V), σ = [some (.ref l), some (.ref r), some y, some (.int (lo : Int)), some (.int (hi : Int)), y5] ∧ Same H1 H2 ∧ lo ≤ hi ∧ hi ≤ rs.length ∧
        (Srt rs → (∀ j t, j < lo → rs[j]? = some t → Rlt t.2 row) ∧ ∀ j t, hi ≤ j → rs[j]? = some t → ¬ Rlt t.2 row)) muP
      ⟨0, rs.length, none, by rw [rrefs_len]; rfl, Same.refl _, Nat.zero_le _, Nat.le_refl _, fun _ => ⟨fun j t h => absurd h (Nat.not_lt_zero _), fun j t h e => by
        have := (List.getElem?_eq_some_iff.mp e).1
        omega⟩⟩ ?_ ?_
    · rintro σ H2 ⟨lo, hi, y5, rfl, s2, h1, h2, inv⟩
      refine ⟨_, rfl, _, rfl, _, _, rfl, rfl, _, rfl, ite2 (fun e => ?_) (fun e => ?_)⟩
      · have e1 : (lo : Int) < (hi : Int) := of_decide_eq_true e
        have lm : (lo + hi) / 2 < rs.length := by omega
        have em := List.getElem?_eq_getElem lm
        generalize hm : (lo + hi) / 2 = m at lm em
        obtain ⟨ht, st, lt⟩ := hR rs[m] (List.getElem_mem lm)
        have emi : (((lo : Int) + (hi : Int)) / 2) = ((m : Nat) : Int) := by omega
        refine ⟨_, rfl, _, rfl, _, _, rfl, rfl, _, 2, rfl, rfl, ⟨by decide, by decide⟩, ?_⟩
        refine ⟨_, rfl, _, rfl, l, rrefs rs, _, _, rfl, rfl, (s1.trans s2).seq hl, at_of (j := m) (by omega) (rrefs_at em), rs[m].1, rs[m].2, rfl, Tk.same (s1.trans s2) _ _ ht, st, by omega, fun z H3 dz s3 => ?_⟩
        obtain ⟨ag, okd⟩ := Agr.row st sr
        refine ⟨_, rfl, 2, _, _, ⟨dz, Dp.tk (Tk.same (s2.trans s3)) _ _ (noL_rk row) dy, lay_rk st, lay_rk sr, deep_rk _, deep_rk _, okd, by decide⟩, _, rfl, ?_⟩
        rw [ag.lt]
        refine ite2 (fun e2 => ?_) (fun e2 => ?_)
        · have e3 : Rlt rs[m].2 row := of_decide_eq_true e2
          have e5 : ([some (.ref l), some (.ref r), some y, some (.int (((lo : Int) + (hi : Int)) / 2 + 1)), some (.int (hi : Int)), some (.int (((lo : Int) + (hi : Int)) / 2))] : L2.St) =
              [some (.ref l), some (.ref r), some y, some (.int ((m + 1 : Nat) : Int)), some (.int (hi : Int)), some (.int (((lo : Int) + (hi : Int)) / 2))] := by
            rw [emi]
            rfl
          refine ⟨_, rfl, _, _, rfl, rfl, ⟨m + 1, hi, some (.int (((lo : Int) + (hi : Int)) / 2)), e5, s2.trans s3, by omega, h2, fun srt => ⟨fun j t hj et => ?_, (inv srt).2⟩⟩, ?_⟩
          · by_cases ej : j = m
            · subst ej
              rw [em] at et
              rw [← Option.some.inj et]
              exact e3
            · exact rlt_trans (hR t (List.mem_of_getElem? et)).2.1 st sr (srt_lt srt et em (by omega)) e3
          · show ((hi : Int) - (((lo : Int) + (hi : Int)) / 2 + 1)).toNat < ((hi : Int) - (lo : Int)).toNat
            omega
        · have e3 : ¬ Rlt rs[m].2 row := fun z => e2 (decide_eq_true z)
          have e5 : ([some (.ref l), some (.ref r), some y, some (.int (lo : Int)), some (.int (((lo : Int) + (hi : Int)) / 2)), some (.int (((lo : Int) + (hi : Int)) / 2))] : L2.St) =
              [some (.ref l), some (.ref r), some y, some (.int (lo : Int)), some (.int (m : Int)), some (.int (((lo : Int) + (hi : Int)) / 2))] := by
            rw [emi]
          refine ⟨_, rfl, ⟨lo, m, some (.int (((lo : Int) + (hi : Int)) / 2)), e5, s2.trans s3, by omega, by omega, fun srt => ⟨(inv srt).1, fun j t hj et => ?_⟩⟩, ?_⟩
          · by_cases ej : j = m
            · subst ej
              rw [em] at et
              rw [← Option.some.inj et]
              exact e3
            · intro z
              exact e3 (rlt_trans st (hR t (List.mem_of_getElem? et)).2.1 sr (srt_lt srt em et (by omega)) z)
          · show ((((lo : Int) + (hi : Int)) / 2) - (lo : Int)).toNat < ((hi : Int) - (lo : Int)).toNat
            omega
      · have e1 : ¬ (lo : Int) < (hi : Int) := fun z => e (decide_eq_true z)
        have e2 : hi = lo := by omega
        subst e2
        exact ⟨_, rfl, q hi _ h2 inv (s1.trans s2)⟩
    · rintro σ H2 Q1 Q2 hq ⟨v, hv, u, hu, i, j, hi, hj, k, hk, z⟩
      exact ⟨v, hv, u, hu, i, j, hi, hj, k, hk, hq _ _ z⟩
end
end K1
namespace K1
open PySem PySem.Spec PyProof.Rows L2 Ow Tlz
/-! tables by names -/
section
variable {β : Type}
def valG (l : List (Str × β)) (k : Str) : Option β := (l.find? fun e => decide (e.1 = k)).map (·.2)
def putG (l : List (Str × β)) (k : Str) (b : β) : List (Str × β) := if (l.any fun e => decide (e.1 = k)) = true then l.map (fun e => if e.1 = k then (e.1, b) else e) else l ++ [(k, b)]
def kvG (vv : β → V) (l : List (Str × β)) : List (Key × V) := l.map fun e => ((Sum.inr e.1 : Key), vv e.2)
theorem inr_iff (a b : Str) : ((Sum.inr a : Key) = Sum.inr b) ↔ a = b := ⟨fun h => Sum.inr.inj h, fun h => by rw [h]⟩
theorem kvG_any (vv : β → V) (l : List (Str × β)) (k : Str) : ((kvG vv l).any fun e => decide (e.1 = (Sum.inr k : Key))) = l.any fun e => decide (e.1 = k) := by
  unfold kvG
  rw [List.any_map]
  congr 1
  funext e
  exact decide_eq_decide.mpr (inr_iff _ _)
theorem kvG_put (vv : β → V) (l : List (Str × β)) (k : Str) (b : β) : putK (kvG vv l) (Sum.inr k) (vv b) = kvG vv (putG l k b) := by
  unfold putK putG
  rw [kvG_any]
  split
  · unfold kvG
    rw [List.map_map, List.map_map]
    refine List.map_congr_left fun e _ => ?_
    show (if (Sum.inr e.1 : Key) = Sum.inr k then ((Sum.inr e.1 : Key), vv b) else (Sum.inr e.1, vv e.2)) = _
    by_cases h : e.1 = k
    · rw [if_pos ((inr_iff _ _).mpr h)]
      show _ = ((Sum.inr (if e.1 = k then (e.1, b) else e).1 : Key), vv (if e.1 = k then (e.1, b) else e).2)
      rw [if_pos h]
    · rw [if_neg (fun z => h ((inr_iff _ _).mp z))]
      show _ = ((Sum.inr (if e.1 = k then (e.1, b) else e).1 : Key), vv (if e.1 = k then (e.1, b) else e).2)
      rw [if_neg h]
  · unfold kvG
    rw [List.map_append]
    rfl
theorem kvG_val (vv : β → V) (k : Str) : ∀ l : List (Str × β), valV (kvG vv l) (Sum.inr k) = (valG l k).map vv
  | [] => rfl
  | e :: l => by
    have ih := kvG_val vv k l
    by_cases h : e.1 = k
    · have h1 : valV (kvG vv (e :: l)) (Sum.inr k) = some (vv e.2) := valV_pos (p := ((Sum.inr e.1 : Key), vv e.2)) ((inr_iff _ _).mpr h)
      rw [h1]
      unfold valG
      rw [List.find?_cons, decide_eq_true h]
      rfl
    · have h1 : valV (kvG vv (e :: l)) (Sum.inr k) = valV (kvG vv l) (Sum.inr k) := valV_neg (p := ((Sum.inr e.1 : Key), vv e.2)) (fun z => h ((inr_iff _ _).mp z))
      rw [h1, ih]
      unfold valG
      rw [List.find?_cons, decide_eq_false h]
theorem valG_mem {l : List (Str × β)} {k : Str} {b : β} (h : valG l k = some b) : (k, b) ∈ l := by
  unfold valG at h
  cases e : l.find? fun e => decide (e.1 = k) with
  | none => rw [e] at h; cases h
  | some x =>
    rw [e] at h
    have h1 := List.find?_some e
    have h2 := List.mem_of_find?_eq_some e
    have h3 : x.1 = k := of_decide_eq_true h1
    have h4 : x.2 = b := Option.some.inj h
    rw [← h3, ← h4]
    exact h2
theorem valG_none {l : List (Str × β)} {k : Str} (h : valG l k = none) : ∀ e ∈ l, e.1 ≠ k := by
  unfold valG at h
  intro e m he
  cases z : l.find? fun e => decide (e.1 = k) with
  | none =>
    have := List.find?_eq_none.mp z e m
    exact this (decide_eq_true he)
  | some x => rw [z] at h; cases h
theorem any_val (l : List (Str × β)) (k : Str) : (l.any fun e => decide (e.1 = k)) = (valG l k).isSome := by
  cases h : valG l k with
  | none =>
    rw [Option.isSome_none, List.any_eq_false]
    intro e m
    rw [decide_eq_false (valG_none h e m)]
    exact Bool.false_ne_true
  | some b =>
    rw [Option.isSome_some, List.any_eq_true]
    exact ⟨_, valG_mem h, decide_eq_true rfl⟩
theorem putG_new {l : List (Str × β)} {k : Str} (b : β) (h : valG l k = none) : putG l k b = l ++ [(k, b)] := by
  unfold putG
  rw [any_val, h]
  rfl
theorem putG_len (l : List (Str × β)) (k : Str) (b : β) : (putG l k b).length ≤ l.length + 1 := by
  unfold putG
  split
  · rw [List.length_map]; omega
  · rw [List.length_append]; exact Nat.le_refl _
theorem putG_mem {l : List (Str × β)} {k : Str} {b : β} {e : Str × β} (h : e ∈ putG l k b) : e = (k, b) ∨ (e ∈ l ∧ e.1 ≠ k) := by
  unfold putG at h
  split at h
  · obtain ⟨x, mx, ex⟩ := List.mem_map.mp h
    by_cases z : x.1 = k
    · rw [if_pos z] at ex
      rw [← ex, z]
      exact .inl rfl
    · rw [if_neg z] at ex
      rw [← ex]
      exact .inr ⟨mx, z⟩
  · rename_i a
    rcases List.mem_append.mp h with m | m
    · refine .inr ⟨m, fun z => a ?_⟩
      rw [List.any_eq_true]
      exact ⟨e, m, decide_eq_true z⟩
    · exact .inl (List.mem_singleton.mp m)
theorem putG_keys (l : List (Str × β)) (k : Str) (b : β) : (putG l k b).map (·.1) = if (valG l k).isSome = true then l.map (·.1) else l.map (·.1) ++ [k] := by
  unfold putG
  rw [any_val]
  split
  · rw [List.map_map]
    refine List.map_congr_left fun e _ => ?_
    show (if e.1 = k then (e.1, b) else e).1 = e.1
    split <;> rfl
  · rw [List.map_append]
    rfl
theorem putG_nodup {l : List (Str × β)} {k : Str} {b : β} (h : (l.map (·.1)).Nodup) : ((putG l k b).map (·.1)).Nodup := by
  rw [putG_keys]
  split
  · exact h
  · rename_i z
    rw [List.nodup_append]
    refine ⟨h, by simp, fun a ma c mc => ?_⟩
    rw [List.mem_singleton.mp mc]
    rintro rfl
    obtain ⟨e, me, ee⟩ := List.mem_map.mp ma
    cases w : valG l a with
    | none => exact valG_none w e me ee
    | some _ => rw [w] at z; exact z rfl
theorem valG_of {l : List (Str × β)} {k : Str} {b : β} (nd : (l.map (·.1)).Nodup) (h : (k, b) ∈ l) : valG l k = some b := by
  induction l with
  | nil => cases h
  | cons e l ih =>
    rw [List.map_cons, List.nodup_cons] at nd
    unfold valG
    rw [List.find?_cons]
    rcases List.mem_cons.mp h with z | z
    · rw [← z, decide_eq_true rfl]
      rfl
    · have ne : e.1 ≠ k := fun w => nd.1 (List.mem_map.mpr ⟨_, z, w.symm⟩)
      rw [decide_eq_false ne]
      exact ih nd.2 z
/-- what putG keeps of an addressed table when the address stays -/
theorem putG_kv {vv : β → V} {l : List (Str × β)} {k : Str} {a b : β} (nd : (l.map (·.1)).Nodup) (h : valG l k = some a) (e : vv b = vv a) : kvG vv (putG l k b) = kvG vv l := by
  unfold putG kvG
  rw [any_val, h, if_pos (show (some a).isSome = true from rfl), List.map_map]
  refine List.map_congr_left fun x mx => ?_
  show ((Sum.inr (if x.1 = k then (x.1, b) else x).1 : Key), vv (if x.1 = k then (x.1, b) else x).2) = _
  by_cases z : x.1 = k
  · have z2 : valG l k = some x.2 := valG_of nd (by rw [← z]; exact mx)
    rw [if_pos z, e]
    rw [h] at z2
    rw [Option.some.inj z2]
  · rw [if_neg z]
end
end K1
namespace K1
open PySem PySem.Spec PyProof.Rows L2 Ow Tlz
/-! a State at x -/
theorem k_fr : ¬ (("facts" : Str) = "relations") := by decide +kernel
theorem k_sr : ¬ (("structures" : Str) = "relations") := by decide +kernel
theorem k_sf : ¬ (("structures" : Str) = "facts") := by decide +kernel
theorem k_lr : ¬ (("layouts" : Str) = "relations") := by decide +kernel
theorem k_lf : ¬ (("layouts" : Str) = "facts") := by decide +kernel
theorem k_ls : ¬ (("layouts" : Str) = "structures") := by decide +kernel
/-- the attributes, in the order in which they are stored -/
def flds (dr df ds dl : V) : List (Str × V) := putF "layouts" dl (putF "structures" ds (putF "facts" df (putF "relations" dr [])))
theorem flds_r (dr df ds dl : V) : (flds dr df ds dl).lookup ("relations" : Str) = some dr := by
  unfold flds
  rw [lookup_putF, if_neg (fun z => k_lr z.symm), lookup_putF, if_neg (fun z => k_sr z.symm), lookup_putF, if_neg (fun z => k_fr z.symm), lookup_putF, if_pos rfl]
theorem flds_f (dr df ds dl : V) : (flds dr df ds dl).lookup ("facts" : Str) = some df := by
  unfold flds
  rw [lookup_putF, if_neg (fun z => k_lf z.symm), lookup_putF, if_neg (fun z => k_sf z.symm), lookup_putF, if_pos rfl]
theorem flds_s (dr df ds dl : V) : (flds dr df ds dl).lookup ("structures" : Str) = some ds := by
  unfold flds
  rw [lookup_putF, if_neg (fun z => k_ls z.symm), lookup_putF, if_pos rfl]
theorem flds_l (dr df ds dl : V) : (flds dr df ds dl).lookup ("layouts" : Str) = some dl := by
  unfold flds
  rw [lookup_putF, if_pos rfl]
structure Txt (K : PySem.W.Frag) (mg : Str → Option Value) (C : Addr) : Prop where
  cl : Cls K C
  nR : NoAttr K C "relations"
  nF : NoAttr K C "facts"
  nS : NoAttr K C "structures"
  nL : NoAttr K C "layouts"
  mgC : mg "State" = some (.ref C)
abbrev Tb := List (Str × Addr × List V)
abbrev Fb := List (Str × Addr × List (Addr × List V))
def kvR (R : Tb) : List (Key × V) := kvG (fun b => V.ref b.1) R
def kvF (F : Fb) : List (Key × V) := kvG (fun b => V.ref b.1) F
/-- Z: what the State alone has; b: the most rows of a name -/
structure StAt (K : PySem.W.Frag) (C : Addr) (Z : Addr → Prop) (H : Hp) (x dr df ds dl : Addr) (R : Tb) (F : Fb) (S : Tb) (L : List (Str × V)) (b : Nat) : Prop where
  ob : ∃ dx, H x = some (.ins C dx (flds (.ref dr) (.ref df) (.ref ds) (.ref dl)))
  r : H dr = some (.dK (kvR R))
  rt : ∀ e ∈ R, SqT K H e.2.1 e.2.2
  f : H df = some (.dK (kvF F))
  ft : ∀ e ∈ F, H e.2.1 = some (.lst (rrefs e.2.2)) ∧ RowsOk K H e.2.2 ∧ e.2.2.length ≤ b
  fz : ∀ e ∈ F, Z e.2.1
  fp : F.Pairwise fun a b => a.2.1 ≠ b.2.1
  fn : (F.map (·.1)).Nodup
  s : H ds = some (.dK (kvR S))
  st : ∀ e ∈ S, SqT K H e.2.1 e.2.2
  l : H dl = some (.dK (kvG id L))
  z : Z dr ∧ Z df ∧ Z ds ∧ Z dl ∧ ¬ Z x
  ne : dr ≠ df ∧ dr ≠ ds ∧ dr ≠ dl ∧ df ≠ ds ∧ df ≠ dl ∧ ds ≠ dl
  nw : ∀ a, H a = none → Z a
  ln : R.length ≤ b ∧ F.length ≤ b ∧ S.length ≤ b ∧ L.length ≤ b
/-- all that the State has not alone stays -/
def Kp (Z : Addr → Prop) (H H' : Hp) : Prop := ∀ a o, ¬ Z a → H a = some o → H' a = some o
theorem Kp.refl (Z : Addr → Prop) (H : Hp) : Kp Z H H := fun _ _ _ h => h
theorem Kp.trans {Z : Addr → Prop} {H H1 H2 : Hp} (a : Kp Z H H1) (b : Kp Z H1 H2) : Kp Z H H2 := fun c o z h => b c o z (a c o z h)
theorem Kp.same {Z : Addr → Prop} {H H' : Hp} (s : Same H H') : Kp Z H H' := fun a o _ h => s a o h
theorem Kp.put {Z : Addr → Prop} {H : Hp} {p : Addr} {o : HO} (z : Z p) : Kp Z H (upd H p o) := fun a u nz h => by
  rw [upd_ne (show a ≠ p from fun e => nz (by rw [e]; exact z))]
  exact h
theorem Tk.dK {K : PySem.W.Frag} {H : Hp} {p : Addr} {kvs : List (Key × V)} {o : HO} (e : H p = some (.dK kvs)) : Tk K H (upd H p o) := by
  refine ⟨fun a xs h => ?_, fun a xs ⟨o, h, d⟩ => ⟨o, by rw [upd_ne (fun z => by rw [z, e] at h; cases h)]; exact h, d⟩⟩
  rcases h with (h | ⟨u, h⟩) | h
  · exact .inl (.inl (by rw [upd_ne (fun z => by rw [z, e] at h; cases h)]; exact h))
  · exact .inl (.inr ⟨u, by rw [upd_ne (fun z => by rw [z, e] at h; cases h)]; exact h⟩)
  · exact .inr h
section
variable {K : PySem.W.Frag} {C x dr df ds dl : Addr} {Z : Addr → Prop} {H H' : Hp} {R S : Tb} {F : Fb} {L : List (Str × V)} {b : Nat}
theorem StAt.same (h : StAt K C Z H x dr df ds dl R F S L b) (s : Same H H') : StAt K C Z H' x dr df ds dl R F S L b := by
  obtain ⟨⟨dx, ob⟩, r, rt, f, ft, fz, fp, fn, s', st, l, z, ne, nw, ln⟩ := h
  exact ⟨⟨dx, s _ _ ob⟩, s _ _ r, fun e m => Tk.same s _ _ (rt e m), s _ _ f, fun e m => ⟨s _ _ (ft e m).1, (ft e m).2.1.same s, (ft e m).2.2⟩, fz, fp, fn, s _ _ s', fun e m => Tk.same s _ _ (st e m), s _ _ l, z, ne,
    fun a n => nw a (s.free n), ln⟩
theorem StAt.up {c : Nat} (h : StAt K C Z H x dr df ds dl R F S L b) (l : b ≤ c) : StAt K C Z H x dr df ds dl R F S L c := by
  obtain ⟨ob, r, rt, f, ft, fz, fp, fn, s', st, l', z, ne, nw, ln⟩ := h
  exact ⟨ob, r, rt, f, fun e m => ⟨(ft e m).1, (ft e m).2.1, by have := (ft e m).2.2; omega⟩, fz, fp, fn, s', st, l', z, ne, nw, by omega⟩
/-- the list of a name becomes another one -/
theorem StAt.rows {n : Str} {q : Addr} {rs rs' : List (Addr × List V)} (h : StAt K C Z H x dr df ds dl R F S L b) (hq : valG F n = some (q, rs)) (ro : RowsOk K H rs') (lr : rs'.length ≤ b) :
    StAt K C Z (upd H q (.lst (rrefs rs'))) x dr df ds dl R (putG F n (q, rs')) S L b ∧ Kp Z H (upd H q (.lst (rrefs rs'))) ∧ Tk K H (upd H q (.lst (rrefs rs'))) := by
  obtain ⟨⟨dx, ob⟩, r, rt, f, ft, fz, fp, fn, s', st, l, z, ne, nw, ln⟩ := h
  have mq := valG_mem hq
  have hq1 := (ft _ mq).1
  have zq : Z q := fz _ mq
  have hq2 : H q = some (.lst (rrefs rs)) := hq1
  have tk : Tk K H (upd H q (.lst (rrefs rs'))) := Tk.put hq2
  have no : ∀ (a : Addr) (kvs : List (Key × V)), H a = some (.dK kvs) → a ≠ q := fun a kvs e w => by rw [w, hq2] at e; cases e
  have oth : ∀ e ∈ F, e.1 ≠ n → e.2.1 ≠ q := fun e m en w => by
    have := List.pairwise_iff_getElem.mp fp
    obtain ⟨i, hi, ei⟩ := List.mem_iff_getElem.mp m
    obtain ⟨j, hj, ej⟩ := List.mem_iff_getElem.mp mq
    have hij : i ≠ j := fun z => by
      subst z
      rw [ei] at ej
      rw [ej] at en
      exact en rfl
    rcases Nat.lt_or_gt_of_ne hij with c | c
    · exact this i j hi hj c (by rw [ei, ej]; exact w)
    · exact this j i hj hi c (by rw [ei, ej]; exact w.symm)
  refine ⟨⟨⟨dx, by rw [upd_ne (show x ≠ q from fun w => z.2.2.2.2 (by rw [w]; exact zq))]; exact ob⟩, by rw [upd_ne (no _ _ r)]; exact r, fun e m => tk _ _ (rt e m), ?_, fun e m => ?_, fun e m => ?_, ?_, putG_nodup fn,
    by rw [upd_ne (no _ _ s')]; exact s', fun e m => tk _ _ (st e m), by rw [upd_ne (no _ _ l)]; exact l, z, ne, fun a n => nw a ?_, ?_⟩, Kp.put zq, tk⟩
  · rw [upd_ne (no _ _ f), f]
    unfold kvF
    rw [putG_kv (vv := fun b : Addr × List (Addr × List V) => V.ref b.1) (b := (q, rs')) fn hq rfl]
  · rcases putG_mem m with w | ⟨w, en⟩
    · rw [w]
      exact ⟨upd_same, ro.tk tk, lr⟩
    · refine ⟨?_, (ft e w).2.1.tk tk, (ft e w).2.2⟩
      rw [upd_ne (oth e w en)]
      exact (ft e w).1
  · rcases putG_mem m with w | ⟨w, _⟩
    · rw [w]
      exact zq
    · exact fz e w
  · unfold putG
    rw [any_val, hq, if_pos (show (some (q, rs)).isSome = true from rfl), List.pairwise_map]
    refine fp.imp_of_mem fun {a c} ma mc hac => ?_
    have fx : ∀ e ∈ F, (if e.1 = n then (e.1, q, rs') else e).2.1 = e.2.1 := fun e m => by
      by_cases en : e.1 = n
      · rw [if_pos en]
        have e2 := valG_of fn (k := n) (b := e.2) (by rw [← en]; exact m)
        rw [hq] at e2
        show q = e.2.1
        rw [← Option.some.inj e2]
      · rw [if_neg en]
    rw [fx a ma, fx c mc]
    exact hac
  · by_cases w : a = q
    · rw [w, upd_same] at n
      cases n
    · rw [upd_ne w] at n
      exact n
  · refine ⟨ln.1, ?_, ln.2.2⟩
    unfold putG
    rw [any_val, hq, if_pos (show (some (q, rs)).isSome = true from rfl), List.length_map]
    exact ln.2.1
/-- a new name with an empty list -/
theorem StAt.name {n : Str} {q : Addr} (h : StAt K C Z H x dr df ds dl R F S L b) (hn : valG F n = none) (hq : H q = some (.lst [])) (zq : Z q) (nq : ∀ e ∈ F, e.2.1 ≠ q) :
    StAt K C Z (upd H df (.dK (putK (kvF F) (Sum.inr n) (.ref q)))) x dr df ds dl R (F ++ [(n, q, [])]) S L (b + 1) := by
  obtain ⟨⟨dx, ob⟩, r, rt, f, ft, fz, fp, fn, s', st, l, z, ne, nw, ln⟩ := h
  have tk : Tk K H (upd H df (.dK (putK (kvF F) (Sum.inr n) (.ref q)))) := Tk.dK f
  have qd : q ≠ df := fun w => by rw [w, f] at hq; cases hq
  refine ⟨⟨dx, by rw [upd_ne (show x ≠ df from fun w => z.2.2.2.2 (by rw [w]; exact z.2.1))]; exact ob⟩, by rw [upd_ne ne.1]; exact r, fun e m => tk _ _ (rt e m), ?_, fun e m => ?_, fun e m => ?_, ?_, ?_,
    by rw [upd_ne ne.2.2.2.1.symm]; exact s', fun e m => tk _ _ (st e m), by rw [upd_ne ne.2.2.2.2.1.symm]; exact l, z, ne, fun a n => nw a ?_, ?_⟩
  · rw [upd_same]
    have := kvG_put (fun b : Addr × List (Addr × List V) => V.ref b.1) F n (q, [])
    rw [putG_new _ hn] at this
    exact congrArg (fun t => some (HO.dK t)) this
  · rcases List.mem_append.mp m with m | m
    · have n1 : e.2.1 ≠ df := fun w => by
        have := (ft e m).1
        rw [w, f] at this
        cases this
      refine ⟨by rw [upd_ne n1]; exact (ft e m).1, (ft e m).2.1.tk tk, ?_⟩
      have := (ft e m).2.2
      omega
    · rw [List.mem_singleton.mp m]
      exact ⟨by rw [upd_ne qd]; exact hq, (fun _ w => nomatch w), Nat.zero_le _⟩
  · rcases List.mem_append.mp m with m | m
    · exact fz e m
    · rw [List.mem_singleton.mp m]
      exact zq
  · rw [List.pairwise_append]
    refine ⟨fp, List.pairwise_singleton _ _, fun a ma c mc => ?_⟩
    rw [List.mem_singleton.mp mc]
    exact nq a ma
  · rw [List.map_append, List.nodup_append]
    refine ⟨fn, by simp, fun a ma c mc => ?_⟩
    rw [List.mem_singleton.mp mc]
    rintro rfl
    obtain ⟨e, me, ee⟩ := List.mem_map.mp ma
    exact valG_none hn e me ee
  · by_cases w : a = df
    · rw [w, upd_same] at n
      cases n
    · rw [upd_ne w] at n
      exact n
  · rw [List.length_append]
    show _ ∧ F.length + 1 ≤ _ ∧ _
    omega
end
/-- slices of rows are rows -/
theorem cut_rows (rs : List (Addr × List V)) (lo hi : Option Int) : ∃ ts : List (Addr × List V), cutV (rrefs rs) lo hi = rrefs ts ∧ (∀ t ∈ ts, t ∈ rs) ∧ ts = (rs.drop (HT.sIx rs.length 0 lo)).take (HT.sIx rs.length rs.length hi - HT.sIx rs.length 0 lo) := by
  refine ⟨(rs.drop (HT.sIx rs.length 0 lo)).take (HT.sIx rs.length rs.length hi - HT.sIx rs.length 0 lo), ?_, fun t m => List.mem_of_mem_drop (List.mem_of_mem_take m), rfl⟩
  unfold cutV rrefs
  rw [List.map_take, List.map_drop, List.length_map]
end K1
namespace K1
open PySem PySem.Spec PyProof.Rows L2 Ow Tlz
/-! rows as data -/
def scD : V → PyData
  | .int i => .int i
  | .str z => .str z
  | _ => .none
def rowD (xs : List V) : PyData := .tuple (xs.map scD)
def rwsD (rs : List (Addr × List V)) : PyData := .list (rs.map fun t => rowD t.2)
theorem sc_dp {K : PySem.W.Frag} {H : Hp} : ∀ {xs : List V}, (∀ x ∈ xs, Scal x) → DpAll K H xs (xs.map scD)
  | [], _ => .nil
  | x :: xs, h => by
    have h1 := sc_dp (K := K) (H := H) (xs := xs) fun z m => h z (List.mem_cons_of_mem _ m)
    rcases h x List.mem_cons_self with ⟨i, rfl, _⟩ | ⟨z, rfl, _⟩
    · exact .cons (.int i) h1
    · exact .cons (.str z) h1
theorem rws_dp {K : PySem.W.Frag} {H : Hp} : ∀ {rs : List (Addr × List V)}, RowsOk K H rs → DpAll K H (rrefs rs) (rs.map fun t => rowD t.2)
  | [], _ => .nil
  | t :: rs, h => .cons (.tup (h t List.mem_cons_self).1 (sc_dp (h t List.mem_cons_self).2.1)) (rws_dp (rs := rs) fun u m => h u (List.mem_cons_of_mem _ m))
theorem layAll : ∀ {xs : List PyData}, (∀ x ∈ xs, x.canLay0 = true) → PyData.canLayAll0 xs = true
  | [], _ => by simp [PyData.canLayAll0]
  | x :: xs, h => by
    rw [PyData.canLayAll0, h x List.mem_cons_self, layAll fun y m => h y (List.mem_cons_of_mem _ m)]
    rfl
theorem depthAll_le : ∀ {xs : List PyData} {n : Nat}, (∀ x ∈ xs, x.depth ≤ n) → PyData.depthAll xs ≤ n
  | [], n, _ => by simp [PyData.depthAll]
  | x :: xs, n, h => by
    rw [PyData.depthAll]
    exact Nat.max_le.mpr ⟨h x List.mem_cons_self, depthAll_le fun y m => h y (List.mem_cons_of_mem _ m)⟩
theorem sc_lay {v : V} (h : Scal v) : (scD v).canLay0 = true ∧ (scD v).depth = 0 := by
  rcases h with ⟨i, rfl, _⟩ | ⟨z, rfl, p, _⟩
  · simp [scD, PyData.canLay0, PyData.depth]
  · exact ⟨p.ok, by simp [scD, PyData.depth]⟩
theorem row_lay {xs : List V} (h : ∀ x ∈ xs, Scal x) : (rowD xs).canLay0 = true ∧ (rowD xs).depth ≤ 1 := by
  unfold rowD
  rw [PyData.canLay0, PyData.depth]
  refine ⟨layAll fun x mx => ?_, ?_⟩
  · obtain ⟨v, mv, rfl⟩ := List.mem_map.mp mx
    exact (sc_lay (h v mv)).1
  · have : PyData.depthAll (xs.map scD) ≤ 0 := depthAll_le fun x mx => by
      obtain ⟨v, mv, rfl⟩ := List.mem_map.mp mx
      rw [(sc_lay (h v mv)).2]
      exact Nat.le_refl _
    omega
theorem rws_shaped {rs : List (Addr × List V)} (h : ∀ t ∈ rs, ∀ x ∈ t.2, Scal x) : SeqAt.shaped (rwsD rs) = true := by
  unfold SeqAt.shaped rwsD
  rw [PyData.canLay0, PyData.depth]
  have l : PyData.canLayAll0 (rs.map fun t => rowD t.2) = true := layAll fun x mx => by
    obtain ⟨t, mt, rfl⟩ := List.mem_map.mp mx
    exact (row_lay (h t mt)).1
  have e : PyData.depthAll (rs.map fun t => rowD t.2) ≤ 1 := depthAll_le fun x mx => by
    obtain ⟨t, mt, rfl⟩ := List.mem_map.mp mx
    exact (row_lay (h t mt)).2
  rw [l, decide_eq_true (by omega)]
  rfl
theorem row_shaped {xs : List V} (h : ∀ x ∈ xs, Scal x) : SeqAt.shaped (rowD xs) = true := by
  have := row_lay h
  unfold SeqAt.shaped
  rw [this.1, decide_eq_true (by omega)]
  rfl
theorem eqv_sc {x y : V} (sx : Scal x) (sy : Scal y) : PyData.eqv (scD x) (scD y) = decide (x = y) := by
  rcases sx with ⟨i, rfl, _⟩ | ⟨x, rfl, _⟩ <;> rcases sy with ⟨j, rfl, _⟩ | ⟨y, rfl, _⟩
  · simp only [scD, eqv_int]
    by_cases h : i = j
    · subst h; simp
    · rw [decide_eq_false (fun z => h (V.int.inj z))]; simpa using h
  · rw [decide_eq_false (fun z => by cases z)]
    simp only [scD]
    rw [PyData.eqv]
    all_goals (intros; first | contradiction | (rename_i h; cases h))
  · rw [decide_eq_false (fun z => by cases z)]
    simp only [scD]
    rw [PyData.eqv]
    all_goals (intros; first | contradiction | (rename_i h; cases h))
  · simp only [scD, eqv_str]
    by_cases h : x = y
    · subst h; simp
    · rw [decide_eq_false (fun z => h (V.str.inj z))]; simpa using h
theorem eqv_scs : ∀ {xs ys : List V}, (∀ x ∈ xs, Scal x) → (∀ y ∈ ys, Scal y) → PyData.eqvAll (xs.map scD) (ys.map scD) = decide (xs = ys)
  | [], [], _, _ => by rw [List.map_nil, eqv_nil]; rfl
  | [], y :: ys, _, _ => by rw [List.map_nil, List.map_cons, eqv_nc, decide_eq_false (fun z => by cases z)]
  | x :: xs, [], _, _ => by rw [List.map_nil, List.map_cons, eqv_cn, decide_eq_false (fun z => by cases z)]
  | x :: xs, y :: ys, hx, hy => by
    rw [List.map_cons, List.map_cons, eqv_cons, eqv_sc (hx x List.mem_cons_self) (hy y List.mem_cons_self), eqv_scs (fun v m => hx v (List.mem_cons_of_mem _ m)) fun v m => hy v (List.mem_cons_of_mem _ m)]
    by_cases h : x = y
    · subst h
      by_cases g : xs = ys
      · subst g; simp
      · rw [decide_eq_false g, decide_eq_false (fun z => g (List.cons.inj z).2)]; simp
    · rw [decide_eq_false h, decide_eq_false (fun z => h (List.cons.inj z).1)]; rfl
theorem eqv_row {xs ys : List V} (hx : ∀ x ∈ xs, Scal x) (hy : ∀ y ∈ ys, Scal y) : PyData.eqv (rowD xs) (rowD ys) = decide (xs = ys) := by
  unfold rowD
  rw [eqv_tup]
  exact eqv_scs hx hy
theorem eqv_lst (xs ys : List PyData) : PyData.eqv (.list xs) (.list ys) = PyData.eqvAll xs ys := by rw [PyData.eqv]
/-- a fact is put into the table -/
def PutF (F : Fb) (n : Str) (r : Addr) (row : List V) (F' : Fb) : Prop := ∃ (q : Addr) (rs : List (Addr × List V)) (F1 : Fb) (k : Nat),
  ((F1 = F ∧ valG F n = some (q, rs)) ∨ (valG F n = none ∧ rs = [] ∧ F1 = F ++ [(n, q, [])])) ∧ k ≤ rs.length ∧ (Srt rs → Place rs row k) ∧
  ((F' = F1 ∧ ∃ t, rs[k]? = some t ∧ t.2 = row) ∨ (F' = putG F1 n (q, rs.take k ++ [(r, row)] ++ rs.drop k) ∧ ∀ t, rs[k]? = some t → t.2 ≠ row))
def spPutFact (K : PySem.W.Frag) (C : Addr) : Sp := fun vs H Q _ => ∃ (x r : Addr) (n : Str) (row : List V) (dr df ds dl : Addr) (Z : Addr → Prop) (R S : Tb) (F : Fb) (L : List (Str × V)) (b : Nat), vs = [.ref x, .str n, .ref r] ∧
  StAt K C Z H x dr df ds dl R F S L b ∧ b ≤ 900 ∧ SqT K H r row ∧ (∀ v ∈ row, Scal v) ∧ row.length ≤ 10 ∧
  ∀ F' H', PutF F n r row F' → StAt K C Z H' x dr df ds dl R F' S L (b + 1) → Kp Z H H' → Tk K H H' → Q .non H'
abbrev sput_fact : Stmt := topS 10
abbrev Nput_fact : List Str := ["state", "name", "row", "rows", "at"]
theorem scput_fact : FnScope Nput_fact ["state", "name", "row"] (defScope sput_fact) := ⟨rfl, rfl, rfl, by decide +kernel, rfl, by decide +kernel, by decide +kernel⟩
theorem kvF_val (F : Fb) (n : Str) : valV (kvF F) (Sum.inr n) = (valG F n).map fun b => V.ref b.1 := kvG_val _ _ _
section
variable {P : Program} {w : World} {K : PySem.W.Frag} {mg : Str → Option Value} {base : Heap} {C : Addr}
theorem ok_putfact {f : Addr} {fd : FuncData} (F0 : Fun K "put_fact" "put_fact" sput_fact f fd) (T : Bl mg) (X : Txt K mg C)
    (Dplace_of : Kn P w K mg base 3 "place_of" ["rows", "row"] (spPlace K)) :
    FnOk P w K mg base CX0 4 f fd ["state", "name", "row"] (spPutFact K C) := by
  refine F0.ok scput_fact (fun vs H Q E h => ?_) (fun cdv A outer s H vs Q E hr h => ?_)
  · obtain ⟨x, r, n, row, dr, df, ds, dl, Z, R, S, F, L, b, rfl, _⟩ := h
    rfl
  · obtain ⟨x, r, n, row, dr, df, ds, dl, Z, R, S, F, L, b, rfl, st, lb, hrow, srow, lrow, q⟩ := h
    refine ⟨_, (pss_mid (ps_set (i := 3) scput_fact.nd rfl (.inl rfl) (pe_dsetd (pe_fld (pv 0) rfl) (pv 1) (pe_lst pa_nil) ⟨rfl, rfl, rfl, rfl⟩))
      (pss_cons (ps_set (i := 4) scput_fact.nd rfl (.inl rfl) (pe_kn Dplace_of hr (pa_cons (pv 3) (pa_cons (pv 2) pa_nil))))
      (pss_one (ps_if (pt_cmpR (op_neD (hu64 hr)) (pe_slice sl_list (pv 3) (po_some (pv 4)) (po_some (pe_op op_add (pv 4) pe_int))) (pe_lst (pa_cons (pv 2) pa_nil)) (nomark _))
        (pss_one (ps_expr (pe_bm PySem.F.plainAttrs_list PySem.F.slot_list_insert PySem.F.type_list_insert mt_insert (pv 3) (pa_cons (pv 4) (pa_cons (pv 2) pa_nil))))) pss_nil)))), ?_⟩
    refine ⟨fun σ H1 => ∃ (l : Addr) (rs : List (Addr × List V)) (F1 : Fb), σ = [some (.ref x), some (.str n), some (.ref r), some (.ref l), none] ∧ StAt K C Z H1 x dr df ds dl R F1 S L (b + 1) ∧ valG F1 n = some (l, rs) ∧
        ((F1 = F ∧ valG F n = some (l, rs)) ∨ (valG F n = none ∧ rs = [] ∧ F1 = F ++ [(n, l, [])])) ∧ rs.length ≤ b ∧ Kp Z H H1 ∧ Tk K H H1, ?_, ?_⟩
    · obtain ⟨dx, ob⟩ := st.ob
      refine ⟨_, rfl, x, C, dx, _, _, rfl, ob, X.cl, X.nF, flds_f _ _ _ _, df, rfl, .inl ⟨_, .inl st.f⟩, _, rfl, sz 0, fun o no => ?_⟩
      have s1 := Same.new (o := .lst []) no
      have st1 := st.same s1
      have zo := st.nw o no
      refine ⟨kvF F, Sum.inr n, st1.f, rfl, ?_, fun v hv => ?_, fun hv => ?_⟩
      · unfold kvF kvG
        rw [List.length_map]
        exact small (m := 1000) (by have := st.ln; omega) (by decide)
      · rw [kvF_val] at hv
        cases e : valG F n with
        | none => rw [e] at hv; cases hv
        | some a =>
          rw [e] at hv
          have ev : V.ref a.1 = v := Option.some.inj hv
          subst ev
          have m := valG_mem e
          exact ⟨a.1, a.2, F, rfl, st1.up (by omega), e, .inl ⟨rfl, rfl⟩, (st.ft _ m).2.2, Kp.same s1, Tk.same s1⟩
      · rw [kvF_val] at hv
        have e : valG F n = none := by
          cases e : valG F n with
          | none => rfl
          | some a => rw [e] at hv; cases hv
        have nq : ∀ e ∈ F, e.2.1 ≠ o := fun e m w => by
          have := (st.ft e m).1
          rw [w, no] at this
          cases this
        refine ⟨o, [], F ++ [(n, o, [])], rfl, st1.name e upd_same zo nq, ?_, .inr ⟨e, rfl, rfl⟩, Nat.zero_le _, (Kp.same s1).trans (Kp.put st.z.2.1), (Tk.same s1).trans (Tk.dK st1.f)⟩
        refine valG_of ?_ (List.mem_append_right _ (List.mem_singleton.mpr rfl))
        exact (st1.name e upd_same zo nq).fn
    · rintro σ H1 ⟨l, rs, F1, rfl, st1, ev, how, lrs, kp1, tk1⟩
      have m1 := valG_mem ev
      obtain ⟨hl, ro, _⟩ := st1.ft _ m1
      have hl' : H1 l = some (.lst (rrefs rs)) := hl
      have ro' : RowsOk K H1 rs := ro
      have hrow1 := tk1 _ _ hrow
      refine ⟨_, rfl, _, rfl, l, r, rs, row, rfl, SqL.of hl', ro', hrow1, srow, lrow, by omega, fun k H2 lk pl s2 => ?_⟩
      have st2 := st1.same s2
      have hl2 := s2 _ _ hl'
      obtain ⟨ts, ec, mts, ets⟩ := cut_rows rs (some (k : Int)) (some ((k : Int) + 1))
      have i1 : HT.sIx rs.length 0 (some (k : Int)) = k := by rw [HT.sIx_nat]; omega
      have i2 : HT.sIx rs.length rs.length (some ((k : Int) + 1)) = min (k + 1) rs.length := by
        have := HT.sIx_nat rs.length rs.length (k + 1)
        rw [← this]
        rfl
      have one : ts = (rs[k]?).toList := by
        rw [ets, i1, i2]
        by_cases hk : k < rs.length
        · rw [List.getElem?_eq_getElem hk, List.drop_eq_getElem_cons hk]
          have : min (k + 1) rs.length - k = 1 := by omega
          rw [this]
          rfl
        · rw [List.getElem?_eq_none (by omega), List.drop_of_length_le (by omega), List.take_nil]
          rfl
      refine ⟨_, rfl, _, rfl, (k : Int), rfl, _, rfl, (k : Int), 1, rfl, rfl, (k : Int) + 1, rfl, l, rrefs rs, rfl, SqL.of hl2, fun p np => ?_⟩
      rw [ec]
      have s3 := Same.new (o := .lst (rrefs ts)) np
      have e3 := upd_same (H := H2) (a := p) (o := .lst (rrefs ts))
      generalize (upd H2 p (.lst (rrefs ts))) = H3 at *
      refine ⟨_, rfl, sz 1, fun u nu => ?_⟩
      have s4 := Same.new (o := .lst [V.ref r]) nu
      have e4 := upd_same (H := H3) (a := u) (o := .lst [V.ref r])
      generalize (upd H3 u (.lst [V.ref r])) = H4 at *
      have s24 := s3.trans s4
      have st4 := st2.same s24
      have hl4 := s24 _ _ hl2
      have ro4 := (ro'.same s2).same s24
      have hrow4 := Tk.same (s2.trans s24) _ _ hrow1
      have rts : RowsOk K H4 ts := fun t m => ro4 t (mts t m)
      have kp4 : Kp Z H H4 := kp1.trans (Kp.same (s2.trans s24))
      have tk4 : Tk K H H4 := tk1.trans (Tk.same (s2.trans s24))
      refine ⟨rwsD ts, .list [rowD row], .lst (SqL.of (s4 _ _ e3)) (rws_dp rts), .lst (SqL.of e4) (.cons (.tup hrow4 (sc_dp srow)) .nil), rws_shaped fun t m => (rts t m).2.1, ?_, _, rfl, ?_⟩
      · exact rws_shaped (rs := [(r, row)]) fun t m => by
          rw [List.mem_singleton.mp m]
          exact srow
      have eq1 : PyData.eqv (rwsD ts) (.list [rowD row]) = decide (∃ t, rs[k]? = some t ∧ t.2 = row) := by
        unfold rwsD
        rw [one, eqv_lst]
        cases e : rs[k]? with
        | none =>
          rw [decide_eq_false (fun ⟨t, h, _⟩ => by cases h)]
          show PyData.eqvAll [] _ = _
          rw [eqv_nc]
        | some t =>
          have mt := List.mem_of_getElem? e
          show PyData.eqvAll [rowD t.2] [rowD row] = _
          rw [eqv_cons, eqv_nil, Bool.and_true, eqv_row (ro' t mt).2.1 srow]
          refine decide_eq_decide.mpr ⟨fun h => ⟨t, rfl, h⟩, fun ⟨u, hu, h⟩ => ?_⟩
          rw [Option.some.inj hu]
          exact h
      rw [eq1]
      refine ite2 (fun e => ?_) (fun e => ?_)
      · have no1 : ∀ t, rs[k]? = some t → t.2 ≠ row := fun t ht hr => by
          rw [decide_eq_true ⟨t, ht, hr⟩] at e
          cases e
        have hr3 := st4.rows (rs' := rs.take k ++ [(r, row)] ++ rs.drop k) ev (fun t m => by
          rcases List.mem_append.mp m with m | m
          · rcases List.mem_append.mp m with m | m
            · exact ro4 t (List.mem_of_mem_take m)
            · rw [List.mem_singleton.mp m]
              exact ⟨hrow4, srow, lrow⟩
          · exact ro4 t (List.mem_of_mem_drop m)) (by
            rw [List.length_append, List.length_append, List.length_take, List.length_drop]
            show min k rs.length + 1 + (rs.length - k) ≤ b + 1
            omega)
        have er : (rrefs rs).take (k : Int).toNat ++ [V.ref r] ++ (rrefs rs).drop (k : Int).toNat = rrefs (rs.take k ++ [(r, row)] ++ rs.drop k) := by
          unfold rrefs
          rw [List.map_append, List.map_append, List.map_take, List.map_drop]
          rfl
        refine ⟨_, rfl, .inl ⟨rfl, _, .inl (.inl hl4)⟩, _, rfl, _, rfl, l, rrefs rs, (k : Int), .ref r, rfl, rfl, hl4, ?_, by omega, by omega, ?_⟩
        · rw [rrefs_len]
          exact small (m := 1000) (by omega) (by decide)
        · rw [er]
          exact q _ _ ⟨l, rs, F1, k, how, lk, pl, .inr ⟨rfl, no1⟩⟩ hr3.1 (kp4.trans hr3.2.1) (tk4.trans hr3.2.2)
      · have yes : ∃ t, rs[k]? = some t ∧ t.2 = row := by
          by_cases z : ∃ t, rs[k]? = some t ∧ t.2 = row
          · exact z
          · rw [decide_eq_false z] at e
            exact absurd rfl e
        exact q _ _ ⟨l, rs, F1, k, how, lk, pl, .inl ⟨rfl, yes⟩⟩ st4 kp4 tk4
end
end K1
namespace K1
open PySem PySem.Spec PyProof.Rows L2 Ow Tlz
/-! items -/
inductive It where
  | rel (n : Str) (c : List V)
  | fact (n : Str) (r : Addr) (row : List V)
  | str (n : Str) (c : List V)
  | lay (n : Str) (v : V)
def ItAt (K : PySem.W.Frag) (H : Hp) (a : Addr) : It → Prop
  | .rel n c => SqT K H a (.str "relation" :: .str n :: c)
  | .fact n r row => SqT K H a [.str "fact", .str n, .ref r] ∧ SqT K H r row ∧ (∀ v ∈ row, Scal v) ∧ row.length ≤ 10
  | .str n c => SqT K H a (.str "structure" :: .str n :: c)
  | .lay n v => SqT K H a [.str "layout", .str n, v]
theorem ItAt.tk {K : PySem.W.Frag} {H H' : Hp} {a : Addr} {i : It} (t : Tk K H H') (h : ItAt K H a i) : ItAt K H' a i := by
  cases i with
  | rel n c => exact t _ _ h
  | fact n r row => exact ⟨t _ _ h.1, t _ _ h.2.1, h.2.2⟩
  | str n c => exact t _ _ h
  | lay n v => exact t _ _ h
/-- an item is put into the tables -/
def PutI (R : Tb) (F : Fb) (S : Tb) (L : List (Str × V)) (i : It) (R' : Tb) (F' : Fb) (S' : Tb) (L' : List (Str × V)) : Prop := match i with
  | .rel n c => (∃ q, R' = putG R n (q, c)) ∧ (((valG F n).isSome = true ∧ F' = F) ∨ ∃ q, valG F n = none ∧ F' = F ++ [(n, q, [])]) ∧ S' = S ∧ L' = L
  | .fact n r row => PutF F n r row F' ∧ R' = R ∧ S' = S ∧ L' = L
  | .str n c => (∃ q, S' = putG S n (q, c)) ∧ R' = R ∧ F' = F ∧ L' = L
  | .lay n v => L' = putG L n v ∧ R' = R ∧ F' = F ∧ S' = S
def spPutItem (K : PySem.W.Frag) (C : Addr) : Sp := fun vs H Q _ => ∃ (x a : Addr) (i : It) (dr df ds dl : Addr) (Z : Addr → Prop) (R S : Tb) (F : Fb) (L : List (Str × V)) (b : Nat), vs = [.ref x, .ref a] ∧
  StAt K C Z H x dr df ds dl R F S L b ∧ b ≤ 900 ∧ ItAt K H a i ∧
  ∀ R' F' S' L' H', PutI R F S L i R' F' S' L' → StAt K C Z H' x dr df ds dl R' F' S' L' (b + 1) → Kp Z H H' → Tk K H H' → Q .non H'
abbrev sput_item : Stmt := topS 11
abbrev Nput_item : List Str := ["state", "item", "word", "name"]
theorem scput_item : FnScope Nput_item ["state", "item"] (defScope sput_item) := ⟨rfl, rfl, rfl, by decide +kernel, rfl, by decide +kernel, by decide +kernel⟩
section
variable {K : PySem.W.Frag} {C x dr df ds dl : Addr} {Z : Addr → Prop} {H H' : Hp} {R S : Tb} {F : Fb} {L : List (Str × V)} {b : Nat}
theorem none_upd {d : Addr} {o : HO} (nw : ∀ a, H a = none → Z a) : ∀ a, (upd H d o) a = none → Z a := fun a n => by
  by_cases w : a = d
  · rw [w, upd_same] at n
    cases n
  · rw [upd_ne w] at n
    exact nw a n
theorem StAt.rel {n : Str} {q : Addr} {c : List V} (h : StAt K C Z H x dr df ds dl R F S L b) (hq : SqT K H q c) :
    StAt K C Z (upd H dr (.dK (putK (kvR R) (Sum.inr n) (.ref q)))) x dr df ds dl (putG R n (q, c)) F S L (b + 1) := by
  obtain ⟨⟨dx, ob⟩, r, rt, f, ft, fz, fp, fn, s', st, l, z, ne, nw, ln⟩ := h
  have tk : Tk K H (upd H dr (.dK (putK (kvR R) (Sum.inr n) (.ref q)))) := Tk.dK r
  refine ⟨⟨dx, by rw [upd_ne (show x ≠ dr from fun w => z.2.2.2.2 (by rw [w]; exact z.1))]; exact ob⟩, ?_, fun e m => ?_, by rw [upd_ne ne.1.symm]; exact f, fun e m => ?_, fz, fp, fn, by rw [upd_ne ne.2.1.symm]; exact s', fun e m => tk _ _ (st e m),
    by rw [upd_ne ne.2.2.1.symm]; exact l, z, ne, none_upd nw, ?_⟩
  · rw [upd_same]
    have := kvG_put (fun b : Addr × List V => V.ref b.1) R n (q, c)
    exact congrArg (fun t => some (HO.dK t)) this
  · rcases putG_mem m with w | ⟨w, _⟩
    · rw [w]; exact tk _ _ hq
    · exact tk _ _ (rt e w)
  · have n1 : e.2.1 ≠ dr := fun w => by
      have := (ft e m).1
      rw [w, r] at this
      cases this
    exact ⟨by rw [upd_ne n1]; exact (ft e m).1, (ft e m).2.1.tk tk, by have := (ft e m).2.2; omega⟩
  · have := putG_len R n (q, c)
    omega
theorem StAt.stru {n : Str} {q : Addr} {c : List V} (h : StAt K C Z H x dr df ds dl R F S L b) (hq : SqT K H q c) :
    StAt K C Z (upd H ds (.dK (putK (kvR S) (Sum.inr n) (.ref q)))) x dr df ds dl R F (putG S n (q, c)) L (b + 1) := by
  obtain ⟨⟨dx, ob⟩, r, rt, f, ft, fz, fp, fn, s', st, l, z, ne, nw, ln⟩ := h
  have tk : Tk K H (upd H ds (.dK (putK (kvR S) (Sum.inr n) (.ref q)))) := Tk.dK s'
  refine ⟨⟨dx, by rw [upd_ne (show x ≠ ds from fun w => z.2.2.2.2 (by rw [w]; exact z.2.2.1))]; exact ob⟩, by rw [upd_ne ne.2.1]; exact r, fun e m => tk _ _ (rt e m), by rw [upd_ne ne.2.2.2.1]; exact f, fun e m => ?_, fz, fp, fn, ?_, fun e m => ?_,
    by rw [upd_ne ne.2.2.2.2.2.symm]; exact l, z, ne, none_upd nw, ?_⟩
  · have n1 : e.2.1 ≠ ds := fun w => by
      have := (ft e m).1
      rw [w, s'] at this
      cases this
    exact ⟨by rw [upd_ne n1]; exact (ft e m).1, (ft e m).2.1.tk tk, by have := (ft e m).2.2; omega⟩
  · rw [upd_same]
    have := kvG_put (fun b : Addr × List V => V.ref b.1) S n (q, c)
    exact congrArg (fun t => some (HO.dK t)) this
  · rcases putG_mem m with w | ⟨w, _⟩
    · rw [w]; exact tk _ _ hq
    · exact tk _ _ (st e w)
  · have := putG_len S n (q, c)
    omega
theorem StAt.lay {n : Str} {v : V} (h : StAt K C Z H x dr df ds dl R F S L b) :
    StAt K C Z (upd H dl (.dK (putK (kvG id L) (Sum.inr n) v))) x dr df ds dl R F S (putG L n v) (b + 1) := by
  obtain ⟨⟨dx, ob⟩, r, rt, f, ft, fz, fp, fn, s', st, l, z, ne, nw, ln⟩ := h
  have tk : Tk K H (upd H dl (.dK (putK (kvG id L) (Sum.inr n) v))) := Tk.dK l
  refine ⟨⟨dx, by rw [upd_ne (show x ≠ dl from fun w => z.2.2.2.2 (by rw [w]; exact z.2.2.2.1))]; exact ob⟩, by rw [upd_ne ne.2.2.1]; exact r, fun e m => tk _ _ (rt e m), by rw [upd_ne ne.2.2.2.2.1]; exact f, fun e m => ?_, fz, fp, fn,
    by rw [upd_ne ne.2.2.2.2.2]; exact s', fun e m => tk _ _ (st e m), ?_, z, ne, none_upd nw, ?_⟩
  · have n1 : e.2.1 ≠ dl := fun w => by
      have := (ft e m).1
      rw [w, l] at this
      cases this
    exact ⟨by rw [upd_ne n1]; exact (ft e m).1, (ft e m).2.1.tk tk, by have := (ft e m).2.2; omega⟩
  · rw [upd_same]
    exact congrArg (fun t => some (HO.dK t)) (kvG_put id L n v)
  · have := putG_len L n v
    omega
end
theorem kvG_len {β : Type} (vv : β → V) (l : List (Str × β)) : (kvG vv l).length = l.length := by unfold kvG; rw [List.length_map]
theorem cut2 (u v : V) (c : List V) : cutV (u :: v :: c) (some 2) none = c ∧ ¬ (HT.sIx (u :: v :: c).length 0 (some 2) = 0 ∧ HT.sIx (u :: v :: c).length (u :: v :: c).length none = (u :: v :: c).length) := by
  have i1 : HT.sIx (u :: v :: c).length 0 (some 2) = 2 := by
    have := HT.sIx_nat (u :: v :: c).length 0 2
    rw [show ((2 : Nat) : Int) = 2 from rfl] at this
    rw [this, List.length_cons, List.length_cons]
    omega
  refine ⟨?_, fun z => by rw [i1] at z; omega⟩
  unfold cutV
  rw [i1, HT.sIx_none]
  show c.take ((c.length + 1 + 1) - 2) = c
  exact List.take_of_length_le (by omega)
section
variable {P : Program} {w : World} {K : PySem.W.Frag} {mg : Str → Option Value} {base : Heap} {C : Addr}
theorem ok_putitem {f : Addr} {fd : FuncData} (F0 : Fun K "put_item" "put_item" sput_item f fd) (T : Bl mg) (X : Txt K mg C)
    (Dput_fact : Kn P w K mg base 4 "put_fact" ["state", "name", "row"] (spPutFact K C)) :
    FnOk P w K mg base CX0 5 f fd ["state", "item"] (spPutItem K C) := by
  refine F0.ok scput_item (fun vs H Q E h => ?_) (fun cdv A outer s H vs Q E hr h => ?_)
  · obtain ⟨x, a, i, dr, df, ds, dl, Z, R, S, F, L, b, rfl, _⟩ := h
    rfl
  · obtain ⟨x, a, i, dr, df, ds, dl, Z, R, S, F, L, b, rfl, st, lb, hi, q⟩ := h
    have hu := hu_of hr
    refine ⟨_, (pss_cons (ps_set (i := 2) scput_item.nd rfl (.inl rfl) (pe_ix ix_tup (pv 1) pe_int (fun _ _ => rfl)))
      (pss_cons (ps_set (i := 3) scput_item.nd rfl (.inl rfl) (pe_ix ix_tup (pv 1) pe_int (fun _ _ => rfl)))
      (pss_one (ps_if (pt_cmpR op_eq (pv 2) pe_str (nomark _)) (pss_cons (ps_dput hu (pe_fld (pv 0) rfl) (pv 3) (pe_slice sl_tupA (pv 1) (po_some pe_int) po_none) rfl)
      (pss_one (ps_expr (pe_dsetd (pe_fld (pv 0) rfl) (pv 3) (pe_lst pa_nil) ⟨rfl, rfl, rfl, rfl⟩)))) (pss_one (ps_if (pt_cmpR op_eq (pv 2) pe_str (nomark _)) (pss_one (ps_expr (pe_kn Dput_fact hr (pa_cons (pv 0) (pa_cons (pv 3) (pa_cons (pe_ix ix_tup (pv 1) pe_int (fun _ _ => rfl)) pa_nil)))))) (pss_one (ps_if (pt_cmpR op_eq (pv 2) pe_str (nomark _)) (pss_one (ps_dput hu (pe_fld (pv 0) rfl) (pv 3) (pe_slice sl_tupA (pv 1) (po_some pe_int) po_none) rfl)) (pss_one (ps_dput hu (pe_fld (pv 0) rfl) (pv 3) (pe_ix ix_tup (pv 1) pe_int (fun _ _ => rfl)) rfl)))))))))), ?_⟩
    have big : ∀ {β : Type} (vv : β → V) (l : List (Str × β)), l.length ≤ b → (kvG vv l).length < sizeLine := fun vv l hl => by
      rw [kvG_len]
      exact small (m := 1000) (by omega) (by decide)
    have n1 : ∀ {u v : Str}, u ≠ v → ¬ decide (V.str u = V.str v) = true := fun h e => h (V.str.inj (of_decide_eq_true e))
    cases i with
    | rel n c =>
      have ht : SqT K H a (.str "relation" :: .str n :: c) := hi
      obtain ⟨dx, ob⟩ := st.ob
      refine ⟨_, rfl, a, _, 0, _, rfl, rfl, ht, at_of (j := 0) rfl rfl, _, rfl, a, _, 1, _, rfl, rfl, ht, at_of (j := 1) rfl rfl, ?_⟩
      refine ⟨_, rfl, rfl, _, rfl, ite2 (fun _ => ?_) (fun e => absurd (decide_eq_true rfl) e)⟩
      refine ⟨_, rfl, 2, rfl, a, _, rfl, ht, fun w => absurd w (cut2 _ _ c).2, fun _ p np => ?_⟩
      rw [(cut2 _ _ c).1]
      have s1 := Same.new (o := .tup c) np
      have e1 := upd_same (H := H) (a := p) (o := .tup c)
      generalize (upd H p (.tup c)) = H1 at *
      have st1 := st.same s1
      have st2 := st1.rel (n := n) (SqT.of e1)
      have k1 : Kp Z H1 (upd H1 dr (.dK (putK (kvR R) (Sum.inr n) (.ref p)))) := Kp.put st.z.1
      have t1 : Tk K H1 (upd H1 dr (.dK (putK (kvR R) (Sum.inr n) (.ref p)))) := Tk.dK st1.r
      have dp := DPut.k (k := Sum.inr n) (v := .ref p) st1.r (big _ R st.ln.1)
      refine ⟨_, rfl, x, C, dx, _, _, rfl, s1 _ _ ob, X.cl, X.nR, flds_r _ _ _ _, _, rfl, dr, _, rfl, dp, ?_⟩
      have k2 : Kp Z H _ := (Kp.same s1).trans k1
      have t2 : Tk K H _ := (Tk.same s1).trans t1
      generalize (upd H1 dr (.dK (putK (kvR R) (Sum.inr n) (.ref p)))) = H2 at *
      obtain ⟨dx2, ob2⟩ := st2.ob
      refine ⟨_, rfl, x, C, dx2, _, _, rfl, ob2, X.cl, X.nF, flds_f _ _ _ _, df, rfl, .inl ⟨_, .inl st2.f⟩, _, rfl, sz 0, fun o no => ?_⟩
      have s3 := Same.new (o := .lst []) no
      have st3 := st2.same s3
      have zo := st2.nw o no
      have rr : PutI R F S L (.rel n c) (putG R n (p, c)) F S L ∨ valG F n = none := by
        cases e : valG F n with
        | none => exact .inr rfl
        | some v => exact .inl ⟨⟨p, rfl⟩, .inl ⟨by rw [e]; rfl, rfl⟩, rfl, rfl⟩
      refine ⟨kvF F, Sum.inr n, st3.f, rfl, big _ F st.ln.2.1, fun v hv => ?_, fun hv => ?_⟩
      · rcases rr with rr | rr
        · exact q _ _ _ _ _ rr st3 (k2.trans (Kp.same s3)) (t2.trans (Tk.same s3))
        · rw [kvF_val, rr] at hv
          cases hv
      · rw [kvF_val] at hv
        have e : valG F n = none := by
          cases e : valG F n with
          | none => rfl
          | some a => rw [e] at hv; cases hv
        have nq : ∀ e ∈ F, e.2.1 ≠ o := fun e m w => by
          have := (st2.ft e m).1
          rw [w, no] at this
          cases this
        have st4 := st3.name e upd_same zo nq
        obtain ⟨ob, r, rt, f, ft, fz, fp, fn, s', st', l', z, ne, nw, ln⟩ := st4
        have l2 : (putG R n (p, c)).length ≤ b + 1 := by have := putG_len R n (p, c); have := st.ln; omega
        have l3 : (F ++ [(n, o, ([] : List (Addr × List V)))]).length ≤ b + 1 := by rw [List.length_append]; have := st.ln; show F.length + 1 ≤ _; omega
        have l4 := st.ln
        refine q _ _ _ _ _ ⟨⟨p, rfl⟩, .inr ⟨o, e, rfl⟩, rfl, rfl⟩ ⟨ob, r, rt, f, fun u m => ⟨(ft u m).1, (ft u m).2.1, ?_⟩, fz, fp, fn, s', st', l', z, ne, nw, l2, l3, by omega, by omega⟩
          ((k2.trans (Kp.same s3)).trans (Kp.put st.z.2.1)) ((t2.trans (Tk.same s3)).trans (Tk.dK st3.f))
        rcases List.mem_append.mp m with m | m
        · have := (st.ft u m).2.2
          omega
        · rw [List.mem_singleton.mp m]
          exact Nat.zero_le _
    | fact n r row =>
      obtain ⟨ht, hrow, srow, lrow⟩ := hi
      refine ⟨_, rfl, a, _, 0, _, rfl, rfl, ht, at_of (j := 0) rfl rfl, _, rfl, a, _, 1, _, rfl, rfl, ht, at_of (j := 1) rfl rfl, ?_⟩
      refine ⟨_, rfl, rfl, _, rfl, ite2 (fun e => absurd e (n1 (by decide +kernel))) (fun _ => ?_)⟩
      refine ⟨_, rfl, rfl, _, rfl, ite2 (fun _ => ?_) (fun e => absurd (decide_eq_true rfl) e)⟩
      refine ⟨_, rfl, _, rfl, _, rfl, a, _, 2, _, rfl, rfl, ht, at_of (j := 2) rfl rfl, x, r, n, row, dr, df, ds, dl, Z, R, S, F, L, b, rfl, st, lb, hrow, srow, lrow, fun F' H' pf st' kp tk => ?_⟩
      exact q _ _ _ _ _ ⟨pf, rfl, rfl, rfl⟩ st' kp tk
    | str n c =>
      have ht : SqT K H a (.str "structure" :: .str n :: c) := hi
      obtain ⟨dx, ob⟩ := st.ob
      refine ⟨_, rfl, a, _, 0, _, rfl, rfl, ht, at_of (j := 0) rfl rfl, _, rfl, a, _, 1, _, rfl, rfl, ht, at_of (j := 1) rfl rfl, ?_⟩
      refine ⟨_, rfl, rfl, _, rfl, ite2 (fun e => absurd e (n1 (by decide +kernel))) (fun _ => ?_)⟩
      refine ⟨_, rfl, rfl, _, rfl, ite2 (fun e => absurd e (n1 (by decide +kernel))) (fun _ => ?_)⟩
      refine ⟨_, rfl, rfl, _, rfl, ite2 (fun _ => ?_) (fun e => absurd (decide_eq_true rfl) e)⟩
      refine ⟨_, rfl, 2, rfl, a, _, rfl, ht, fun w => absurd w (cut2 _ _ c).2, fun _ p np => ?_⟩
      rw [(cut2 _ _ c).1]
      have s1 := Same.new (o := .tup c) np
      have e1 := upd_same (H := H) (a := p) (o := .tup c)
      generalize (upd H p (.tup c)) = H1 at *
      have st1 := st.same s1
      have st2 := st1.stru (n := n) (SqT.of e1)
      have dp := DPut.k (k := Sum.inr n) (v := .ref p) st1.s (big _ S st.ln.2.2.1)
      refine ⟨_, rfl, x, C, dx, _, _, rfl, s1 _ _ ob, X.cl, X.nS, flds_s _ _ _ _, _, rfl, ds, _, rfl, dp, ?_⟩
      exact q _ _ _ _ _ ⟨⟨p, rfl⟩, rfl, rfl, rfl⟩ st2 ((Kp.same s1).trans (Kp.put st.z.2.2.1)) ((Tk.same s1).trans (Tk.dK st1.s))
    | lay n v =>
      have ht : SqT K H a [.str "layout", .str n, v] := hi
      obtain ⟨dx, ob⟩ := st.ob
      refine ⟨_, rfl, a, _, 0, _, rfl, rfl, ht, at_of (j := 0) rfl rfl, _, rfl, a, _, 1, _, rfl, rfl, ht, at_of (j := 1) rfl rfl, ?_⟩
      refine ⟨_, rfl, rfl, _, rfl, ite2 (fun e => absurd e (n1 (by decide +kernel))) (fun _ => ?_)⟩
      refine ⟨_, rfl, rfl, _, rfl, ite2 (fun e => absurd e (n1 (by decide +kernel))) (fun _ => ?_)⟩
      refine ⟨_, rfl, rfl, _, rfl, ite2 (fun e => absurd e (n1 (by decide +kernel))) (fun _ => ?_)⟩
      have dp := DPut.k (k := Sum.inr n) (v := v) st.l (big _ L st.ln.2.2.2)
      refine ⟨_, rfl, a, _, 2, _, rfl, rfl, ht, at_of (j := 2) rfl rfl, _, rfl, x, C, dx, _, _, rfl, ob, X.cl, X.nL, flds_l _ _ _ _, _, rfl, dl, _, rfl, dp, ?_⟩
      exact q _ _ _ _ _ ⟨rfl, rfl, rfl, rfl⟩ st.lay (Kp.put st.z.2.2.2.1) (Tk.dK st.l)
end
end K1
namespace K1
open PySem PySem.Spec PyProof.Rows L2 Ow Tlz
theorem SqL.gw {K : PySem.W.Frag} {H H' : Hp} {x a C dx : Addr} {fs : List (Str × V)} {xs : List V} (e : H x = some (.ins C dx fs)) (g : Gw x H H') (h : SqL K H a xs) : SqL K H' a xs := by
  rcases h with (h | ⟨o, h⟩) | h
  · exact .inl (.inl (g _ _ (fun z => by rw [z, e] at h; cases h) h))
  · exact .inl (.inr ⟨o, g _ _ (fun z => by rw [z, e] at h; cases h) h⟩)
  · exact .inr h
theorem Tk.gwi {K : PySem.W.Frag} {H H' : Hp} {x C dx : Addr} {fs : List (Str × V)} (e : H x = some (.ins C dx fs)) (g : Gw x H H') : Tk K H H' := by
  refine ⟨fun a xs h => ?_, fun a xs ⟨o, h, d⟩ => ⟨o, g _ _ (fun z => by rw [z, e] at h; cases h) h, d⟩⟩
  rcases h with (h | ⟨o, h⟩) | h
  · exact .inl (.inl (g _ _ (fun z => by rw [z, e] at h; cases h) h))
  · exact .inl (.inr ⟨o, g _ _ (fun z => by rw [z, e] at h; cases h) h⟩)
  · exact .inr h
/-- the tables behind some items, put one after another -/
inductive Puts : List It → Tb → Fb → Tb → List (Str × V) → Prop
  | nil : Puts [] [] [] [] []
  | snoc {is : List It} {i : It} {R S R' S' : Tb} {F F' : Fb} {L L' : List (Str × V)} : Puts is R F S L → PutI R F S L i R' F' S' L' → Puts (is ++ [i]) R' F' S' L'
theorem putF_len (f : Str) (v : V) : ∀ fs : List (Str × V), (putF f v fs).length ≤ fs.length + 1
  | [] => Nat.le_refl _
  | (g, x) :: r => by
    rw [putF]
    split
    · exact Nat.le_succ _
    · exact Nat.succ_le_succ (putF_len f v r)
def spInit (K : PySem.W.Frag) (C : Addr) : Sp := fun vs H Q _ => ∃ (x a dx : Addr) (its : List (Addr × It)), vs = [.ref x, .ref a] ∧ H x = some (.ins C dx []) ∧ SqL K H a (its.map fun t => .ref t.1) ∧ (∀ t ∈ its, ItAt K H t.1 t.2) ∧ its.length ≤ 300 ∧
  ∀ (dr df ds dl : Addr) (R S : Tb) (F : Fb) (L : List (Str × V)) H', StAt K C (fun b => H b = none) H' x dr df ds dl R F S L 300 → Puts (its.map (·.2)) R F S L → Gw x H H' → Q .non H'
def spInit0 (K : PySem.W.Frag) (C : Addr) : Sp := fun vs H Q _ => ∃ (x a dx : Addr), vs = [.ref x, .ref a] ∧ H x = some (.ins C dx []) ∧ SqT K H a [] ∧
  ∀ (dr df ds dl : Addr) H', StAt K C (fun b => H b = none) H' x dr df ds dl [] [] [] [] 300 → Gw x H H' → Q .non H'
abbrev sState : Stmt := topS 16
abbrev sInit : Stmt := inClass sState 0
abbrev NInit : List Str := ["self", "items", "item"]
theorem scInit : FnScope NInit ["self", "items"] (defScope sInit) := ⟨rfl, rfl, rfl, by decide +kernel, rfl, by decide +kernel, by decide +kernel⟩
/-- the four fields of a new State -/
structure New (C : Addr) (H H' : Hp) (x d1 d2 d3 d4 : Addr) : Prop where
  ob : ∃ dx, H' x = some (.ins C dx (flds (.ref d1) (.ref d2) (.ref d3) (.ref d4)))
  e1 : H' d1 = some (.dK [])
  e2 : H' d2 = some (.dK [])
  e3 : H' d3 = some (.dK [])
  e4 : H' d4 = some (.dK [])
  n1 : H d1 = none
  n2 : H d2 = none
  n3 : H d3 = none
  n4 : H d4 = none
  ne : d1 ≠ d2 ∧ d1 ≠ d3 ∧ d1 ≠ d4 ∧ d2 ≠ d3 ∧ d2 ≠ d4 ∧ d3 ≠ d4
  gw : Gw x H H'
theorem New.st {K : PySem.W.Frag} {C : Addr} {H H' : Hp} {x dx d1 d2 d3 d4 : Addr} (n : New C H H' x d1 d2 d3 d4) (hx : H x = some (.ins C dx [])) : StAt K C (fun b => H b = none) H' x d1 d2 d3 d4 [] [] [] [] 0 :=
  ⟨n.ob, n.e1, (fun _ m => nomatch m), n.e2, (fun _ m => nomatch m), (fun _ m => nomatch m), .nil, .nil, n.e3, (fun _ m => nomatch m), n.e4, ⟨n.n1, n.n2, n.n3, n.n4, by rw [hx]; exact fun z => nomatch z⟩, n.ne,
    fun a h => by
      by_cases w : a = x
      · obtain ⟨dx, ob⟩ := n.ob
        rw [w, ob] at h
        cases h
      · exact n.gw.free h w, ⟨Nat.le_refl _, Nat.le_refl _, Nat.le_refl _, Nat.le_refl _⟩⟩
theorem fund_ok {P : Program} {w : World} {K : PySem.W.Frag} {mg : Str → Option Value} {base : Heap} {x qual : Str} {st : Stmt} {dvs : List V} {kws : List (Str × V)} {f : Addr} {fd : FuncData} {N ps : List Str} {k : Nat} {sp : Sp}
    (F : FunD K x qual (defArgs st) (defBody st) (defScope st) dvs kws f fd) (S : FnScope N ps (defScope st)) (len : ∀ vs H Q E, sp vs H Q E → vs.length = ps.length)
    (hbody : ∀ (cdv : Value) (A : Around) (outer : List Env) (s : Shared) (H : Hp) (vs : List V) (Q : VK) (E : XK), Room k (A.deeper (envOfC qual (defScope st) s.heap.objs.size f cdv)) → sp vs H Q E →
      ∃ t, PSs (cxOf CX0 P w K mg base N qual (defScope st) f cdv A outer s H E).nox (defBody st) t ∧ t { nx := fun _ H' => Q .non H', rt := Q } (start N vs) H) : FnOk P w K mg base CX0 (k + 1) f fd ps sp := by
  refine F.ok S len fun cdv A outer s H vs Q E hr hsp => ?_
  obtain ⟨t, h, q⟩ := hbody cdv A outer s H vs Q E hr hsp
  exact ⟨t, h.nox, q⟩
section
variable {P : Program} {w : World} {K : PySem.W.Frag} {mg : Str → Option Value} {base : Heap} {C : Addr}
theorem ok_init {f : Addr} {fd : FuncData} {dvs : List V} {kws : List (Str × V)} (F0 : FunD K "__init__" "State.__init__" (defArgs sInit) (defBody sInit) (defScope sInit) dvs kws f fd) (T : Txt K mg C)
    (Dput_item : Kn P w K mg base 5 "put_item" ["state", "item"] (spPutItem K C)) :
    FnOk P w K mg base CX0 6 f fd ["self", "items"] (spInit K C) := by
  refine fund_ok F0 scInit (fun vs H Q E h => ?_) (fun cdv A outer s H vs Q E hr h => ?_)
  · obtain ⟨x, a, dx, its, rfl, _⟩ := h
    rfl
  · obtain ⟨x, a, dx, its, rfl, hx, ha, hi, li, q⟩ := h
    refine ⟨_, (pss_cons (ps_fld (pv 0) pe_dnewK rfl) (pss_cons (ps_fld (pv 0) pe_dnewK rfl) (pss_cons (ps_fld (pv 0) pe_dnewK rfl) (pss_cons (ps_fld (pv 0) pe_dnewK rfl)
      (pss_one (ps_for PassesOwn.never rfl (pi_list (pv 1)) (pg_name (i := 2) scInit.nd rfl (.inl rfl)) (pss_one (ps_expr (pe_kn Dput_item hr (pa_cons (pv 0) (pa_cons (pv 2) pa_nil))))))))))), ?_⟩
    refine fun d1 h1 => ?_
    have x1 : x ≠ d1 := ne_of_none hx h1
    refine ⟨_, rfl, x, C, dx, [], rfl, (by rw [upd_ne x1]; exact hx), T.cl, T.nR, (by show 0 < 1000; decide), ?_⟩
    refine fun d2 h2 => ?_
    have x2 : x ≠ d2 := ne_of_none upd_same h2
    refine ⟨_, rfl, x, C, dx, _, rfl, (by rw [upd_ne x2]; exact upd_same), T.cl, T.nF, (by show 1 < 1000; decide), ?_⟩
    refine fun d3 h3 => ?_
    have x3 : x ≠ d3 := ne_of_none upd_same h3
    refine ⟨_, rfl, x, C, dx, _, rfl, (by rw [upd_ne x3]; exact upd_same), T.cl, T.nS, (by
      have : (putF "facts" (V.ref d2) (putF "relations" (V.ref d1) [])).length ≤ 2 := by
        have := putF_len "facts" (V.ref d2) (putF "relations" (V.ref d1) [])
        exact Nat.le_trans this (Nat.succ_le_succ (putF_len "relations" (V.ref d1) []))
      exact Nat.lt_of_le_of_lt this (by decide)), ?_⟩
    refine fun d4 h4 => ?_
    have x4 : x ≠ d4 := ne_of_none upd_same h4
    refine ⟨_, rfl, x, C, dx, _, rfl, (by rw [upd_ne x4]; exact upd_same), T.cl, T.nL, (by
      have a1 := putF_len "structures" (V.ref d3) (putF "facts" (V.ref d2) (putF "relations" (V.ref d1) []))
      have a2 := putF_len "facts" (V.ref d2) (putF "relations" (V.ref d1) [])
      have a3 := putF_len "relations" (V.ref d1) []
      have a4 : ([] : List (Str × V)).length = 0 := rfl
      omega), ?_⟩
    have nw : New C H (upd (upd (upd (upd (upd (upd (upd (upd H d1 (.dK [])) x (.ins C dx (putF "relations" (.ref d1) []))) d2 (.dK [])) x (.ins C dx (putF "facts" (.ref d2) (putF "relations" (.ref d1) [])))) d3 (.dK [])) x
        (.ins C dx (putF "structures" (.ref d3) (putF "facts" (.ref d2) (putF "relations" (.ref d1) []))))) d4 (.dK [])) x (.ins C dx (putF "layouts" (.ref d4) (putF "structures" (.ref d3) (putF "facts" (.ref d2) (putF "relations" (.ref d1) [])))))) x d1 d2 d3 d4 := by
      have f2 : (upd H d1 (.dK [])) d2 = none := by rw [← upd_ne (H := upd H d1 (.dK [])) (a := x) (o := .ins C dx (putF "relations" (.ref d1) [])) x2.symm]; exact h2
      have n12 : d1 ≠ d2 := ne_of_none upd_same f2
      have f2' : H d2 = none := by rw [← upd_ne (H := H) (a := d1) (o := .dK []) n12.symm]; exact f2
      have f3a := h3
      rw [upd_ne x3.symm] at f3a
      have n23 : d2 ≠ d3 := ne_of_none upd_same f3a
      have f3b : (upd H d1 (.dK [])) d3 = none := by
        rw [upd_ne n23.symm, upd_ne x3.symm] at f3a
        exact f3a
      have n13 : d1 ≠ d3 := ne_of_none upd_same f3b
      have f3' : H d3 = none := by rw [upd_ne n13.symm] at f3b; exact f3b
      rw [upd_ne x4.symm] at h4
      have n34 : d3 ≠ d4 := ne_of_none upd_same h4
      rw [upd_ne n34.symm, upd_ne x4.symm] at h4
      have n24 : d2 ≠ d4 := ne_of_none upd_same h4
      rw [upd_ne n24.symm, upd_ne x4.symm] at h4
      have n14 : d1 ≠ d4 := ne_of_none upd_same h4
      rw [upd_ne n14.symm] at h4
      refine ⟨⟨dx, upd_same⟩, ?_, ?_, ?_, ?_, h1, f2', f3', h4, ⟨n12, n13, n14, n23, n24, n34⟩, ?_⟩
      · rw [upd_ne x1.symm, upd_ne n14, upd_ne x1.symm, upd_ne n13, upd_ne x1.symm, upd_ne n12, upd_ne x1.symm, upd_same]
      · rw [upd_ne x2.symm, upd_ne n24, upd_ne x2.symm, upd_ne n23, upd_ne x2.symm, upd_same]
      · rw [upd_ne x3.symm, upd_ne n34, upd_ne x3.symm, upd_same]
      · rw [upd_ne x4.symm, upd_same]
      · intro b o hb e
        rw [upd_ne hb, upd_ne (ne_of_none e h4), upd_ne hb, upd_ne (ne_of_none e f3'), upd_ne hb, upd_ne (ne_of_none e f2'), upd_ne hb, upd_ne (ne_of_none e h1)]
        exact e
    generalize (upd (upd (upd (upd (upd (upd (upd (upd H d1 (.dK [])) x (.ins C dx (putF "relations" (.ref d1) []))) d2 (.dK [])) x (.ins C dx (putF "facts" (.ref d2) (putF "relations" (.ref d1) [])))) d3 (.dK [])) x
        (.ins C dx (putF "structures" (.ref d3) (putF "facts" (.ref d2) (putF "relations" (.ref d1) []))))) d4 (.dK [])) x (.ins C dx (putF "layouts" (.ref d4) (putF "structures" (.ref d3) (putF "facts" (.ref d2) (putF "relations" (.ref d1) [])))))) = H1 at nw
    have st0 := nw.st (K := K) hx
    have sl1 := SqL.gw hx nw.gw ha
    refine ⟨_, rfl, a, rfl, ⟨_, sl1⟩, for_list (K := K) (a := a) (xs := its.map fun t => .ref t.1) (fun i σ H4 => ∃ (y2 : Option V) (R S : Tb) (F : Fb) (L : List (Str × V)), σ = [some (.ref x), some (.ref a), y2] ∧
        StAt K C (fun b => H b = none) H4 x d1 d2 d3 d4 R F S L i ∧ Puts ((its.take i).map (·.2)) R F S L ∧ Gw x H H4)
      ⟨none, [], [], [], [], rfl, st0, .nil, nw.gw⟩ (fun i σ H4 _ hP => ?_) (fun i y σ H4 hy hP => ?_) (fun σ H4 hP => ?_)⟩
    · obtain ⟨_, _, _, _, _, _, _, _, g⟩ := hP
      exact SqL.gw hx g ha
    · obtain ⟨y2, R, S, F, L, rfl, st, pu, g⟩ := hP
      rw [List.getElem?_map] at hy
      cases e : its[i]? with
      | none => rw [e] at hy; cases hy
      | some t =>
        rw [e] at hy
        have ey : V.ref t.1 = y := Option.some.inj hy
        subst ey
        have il : i < its.length := (List.getElem?_eq_some_iff.mp e).1
        refine ⟨_, rfl, _, rfl, x, t.1, t.2, d1, d2, d3, d4, _, R, S, F, L, i, rfl, st, by omega, (hi t (List.mem_of_getElem? e)).tk (Tk.gwi hx g), fun R' F' S' L' H' pi st' kp tk => ?_⟩
        refine ⟨_, R', S', F', L', rfl, st', ?_, fun b o nb hb => kp b o (fun (z : H b = none) => by rw [hb] at z; cases z) (g b o nb hb)⟩
        have e2 : its.take (i + 1) = its.take i ++ [t] := by rw [List.take_add_one, e]; rfl
        rw [e2, List.map_append]
        exact .snoc pu pi
    · obtain ⟨y2, R, S, F, L, rfl, st, pu, g⟩ := hP
      rw [List.length_map] at st pu
      rw [List.take_length] at pu
      exact q _ _ _ _ _ _ _ _ _ (st.up (by omega)) pu g
theorem ok_init0 {f : Addr} {fd : FuncData} {dvs : List V} {kws : List (Str × V)} (F0 : FunD K "__init__" "State.__init__" (defArgs sInit) (defBody sInit) (defScope sInit) dvs kws f fd) (T : Txt K mg C)
    (Dput_item : Kn P w K mg base 5 "put_item" ["state", "item"] (spPutItem K C)) :
    FnOk P w K mg base CX0 6 f fd ["self", "items"] (spInit0 K C) := by
  refine fund_ok F0 scInit (fun vs H Q E h => ?_) (fun cdv A outer s H vs Q E hr h => ?_)
  · obtain ⟨x, a, dx, rfl, _⟩ := h
    rfl
  · obtain ⟨x, a, dx, rfl, hx, ha, q⟩ := h
    refine ⟨_, (pss_cons (ps_fld (pv 0) pe_dnewK rfl) (pss_cons (ps_fld (pv 0) pe_dnewK rfl) (pss_cons (ps_fld (pv 0) pe_dnewK rfl) (pss_cons (ps_fld (pv 0) pe_dnewK rfl)
      (pss_one (ps_for PassesOwn.never rfl (pi_tup (pv 1)) (pg_name (i := 2) scInit.nd rfl (.inl rfl)) (pss_one (ps_expr (pe_kn Dput_item hr (pa_cons (pv 0) (pa_cons (pv 2) pa_nil))))))))))), ?_⟩
    refine fun d1 h1 => ?_
    have x1 : x ≠ d1 := ne_of_none hx h1
    refine ⟨_, rfl, x, C, dx, [], rfl, (by rw [upd_ne x1]; exact hx), T.cl, T.nR, (by show 0 < 1000; decide), ?_⟩
    refine fun d2 h2 => ?_
    have x2 : x ≠ d2 := ne_of_none upd_same h2
    refine ⟨_, rfl, x, C, dx, _, rfl, (by rw [upd_ne x2]; exact upd_same), T.cl, T.nF, (by show 1 < 1000; decide), ?_⟩
    refine fun d3 h3 => ?_
    have x3 : x ≠ d3 := ne_of_none upd_same h3
    refine ⟨_, rfl, x, C, dx, _, rfl, (by rw [upd_ne x3]; exact upd_same), T.cl, T.nS, (by
      have : (putF "facts" (V.ref d2) (putF "relations" (V.ref d1) [])).length ≤ 2 := by
        have := putF_len "facts" (V.ref d2) (putF "relations" (V.ref d1) [])
        exact Nat.le_trans this (Nat.succ_le_succ (putF_len "relations" (V.ref d1) []))
      exact Nat.lt_of_le_of_lt this (by decide)), ?_⟩
    refine fun d4 h4 => ?_
    have x4 : x ≠ d4 := ne_of_none upd_same h4
    refine ⟨_, rfl, x, C, dx, _, rfl, (by rw [upd_ne x4]; exact upd_same), T.cl, T.nL, (by
      have a1 := putF_len "structures" (V.ref d3) (putF "facts" (V.ref d2) (putF "relations" (V.ref d1) []))
      have a2 := putF_len "facts" (V.ref d2) (putF "relations" (V.ref d1) [])
      have a3 := putF_len "relations" (V.ref d1) []
      have a4 : ([] : List (Str × V)).length = 0 := rfl
      omega), ?_⟩
    have nw : New C H (upd (upd (upd (upd (upd (upd (upd (upd H d1 (.dK [])) x (.ins C dx (putF "relations" (.ref d1) []))) d2 (.dK [])) x (.ins C dx (putF "facts" (.ref d2) (putF "relations" (.ref d1) [])))) d3 (.dK [])) x
        (.ins C dx (putF "structures" (.ref d3) (putF "facts" (.ref d2) (putF "relations" (.ref d1) []))))) d4 (.dK [])) x (.ins C dx (putF "layouts" (.ref d4) (putF "structures" (.ref d3) (putF "facts" (.ref d2) (putF "relations" (.ref d1) [])))))) x d1 d2 d3 d4 := by
      have f2 : (upd H d1 (.dK [])) d2 = none := by rw [← upd_ne (H := upd H d1 (.dK [])) (a := x) (o := .ins C dx (putF "relations" (.ref d1) [])) x2.symm]; exact h2
      have n12 : d1 ≠ d2 := ne_of_none upd_same f2
      have f2' : H d2 = none := by rw [← upd_ne (H := H) (a := d1) (o := .dK []) n12.symm]; exact f2
      have f3a := h3
      rw [upd_ne x3.symm] at f3a
      have n23 : d2 ≠ d3 := ne_of_none upd_same f3a
      have f3b : (upd H d1 (.dK [])) d3 = none := by
        rw [upd_ne n23.symm, upd_ne x3.symm] at f3a
        exact f3a
      have n13 : d1 ≠ d3 := ne_of_none upd_same f3b
      have f3' : H d3 = none := by rw [upd_ne n13.symm] at f3b; exact f3b
      rw [upd_ne x4.symm] at h4
      have n34 : d3 ≠ d4 := ne_of_none upd_same h4
      rw [upd_ne n34.symm, upd_ne x4.symm] at h4
      have n24 : d2 ≠ d4 := ne_of_none upd_same h4
      rw [upd_ne n24.symm, upd_ne x4.symm] at h4
      have n14 : d1 ≠ d4 := ne_of_none upd_same h4
      rw [upd_ne n14.symm] at h4
      refine ⟨⟨dx, upd_same⟩, ?_, ?_, ?_, ?_, h1, f2', f3', h4, ⟨n12, n13, n14, n23, n24, n34⟩, ?_⟩
      · rw [upd_ne x1.symm, upd_ne n14, upd_ne x1.symm, upd_ne n13, upd_ne x1.symm, upd_ne n12, upd_ne x1.symm, upd_same]
      · rw [upd_ne x2.symm, upd_ne n24, upd_ne x2.symm, upd_ne n23, upd_ne x2.symm, upd_same]
      · rw [upd_ne x3.symm, upd_ne n34, upd_ne x3.symm, upd_same]
      · rw [upd_ne x4.symm, upd_same]
      · intro b o hb e
        rw [upd_ne hb, upd_ne (ne_of_none e h4), upd_ne hb, upd_ne (ne_of_none e f3'), upd_ne hb, upd_ne (ne_of_none e f2'), upd_ne hb, upd_ne (ne_of_none e h1)]
        exact e
    generalize (upd (upd (upd (upd (upd (upd (upd (upd H d1 (.dK [])) x (.ins C dx (putF "relations" (.ref d1) []))) d2 (.dK [])) x (.ins C dx (putF "facts" (.ref d2) (putF "relations" (.ref d1) [])))) d3 (.dK [])) x
        (.ins C dx (putF "structures" (.ref d3) (putF "facts" (.ref d2) (putF "relations" (.ref d1) []))))) d4 (.dK [])) x (.ins C dx (putF "layouts" (.ref d4) (putF "structures" (.ref d3) (putF "facts" (.ref d2) (putF "relations" (.ref d1) [])))))) = H1 at nw
    have st0 := nw.st (K := K) hx
    have sl1 := Tk.gwi hx nw.gw _ _ ha
    refine ⟨_, rfl, a, rfl, ⟨_, sl1⟩, for_tup (K := K) (a := a) (xs := []) (fun i σ H4 => H4 = H1) rfl (fun i σ H4 _ hP => ?_) (fun i y σ H4 hy hP => ?_) (fun σ H4 hP => ?_)⟩
    · rw [hP]; exact sl1
    · cases hy
    · rw [hP]
      exact q _ _ _ _ _ (st0.up (by decide)) nw.gw
end
end K1
namespace K1
open PySem PySem.Spec PyProof.Rows L2 Ow
abbrev swrite_number : Stmt := topS 23
abbrev Nwrite_number : List Str := ["number", "data"]
theorem scwrite_number : FnScope Nwrite_number ["number"] (defScope swrite_number) := ⟨rfl, rfl, rfl, by decide +kernel, rfl, by decide +kernel, by decide +kernel⟩
abbrev s_law_number : Stmt := topS 43
abbrev N_law_number : List Str := ["number", "data"]
theorem sc_law_number : FnScope N_law_number ["number"] (defScope s_law_number) := ⟨rfl, rfl, rfl, by decide +kernel, rfl, by decide +kernel, by decide +kernel⟩
/-- a def that hands back a new list of ints -/
def MkL (H : Hp) (Q : VK) (xs : List Int) : Prop := ∀ H' p, Same H H' → H p = none → H' p = some (.lst (xs.map V.int)) → Q (.ref p) H'
def spNumber : Sp := fun vs H Q _ => ∃ n : Nat, vs = [.int (n : Int)] ∧ n < 2 ^ 140 ∧ MkL H Q (numB n)
def mu1 : L2.St → Hp → Nat := fun σ _ => match σ with
  | some (.int n) :: _ => n.toNat
  | _ => 0
section
variable {P : Program} {w : World} {K : PySem.W.Frag} {mg : Str → Option Value} {base : Heap}
theorem ok_number {f : Addr} {fd : FuncData} (F : Fun K "write_number" "write_number" swrite_number f fd) (T : Bl mg) :
    FnOk P w K mg base CX0 1 f fd ["number"] spNumber := by
  refine F.ok scwrite_number (fun vs H Q E h => ?_) (fun cdv A outer s H vs Q E hr h => ?_)
  · obtain ⟨n, rfl, _⟩ := h
    rfl
  · obtain ⟨N, rfl, hN, q⟩ := h
    refine ⟨_, (pss_cons (ps_set (i := 1) scwrite_number.nd rfl (.inl rfl) (pe_lst pa_nil))
      (pss_cons (ps_while PassesOwn.never (pt_cmpR op_gt (pv 0) pe_int (nomark _)) (pss_cons (ps_expr (pe_bm PySem.F.plainAttrs_list PySem.F.slot_list_append PySem.F.type_list_append mt_append (pv 1) (pa_cons (pe_op op_add pe_int (pe_op op_and (pv 0) pe_int)) pa_nil)))
        (pss_one (ps_set (i := 0) scwrite_number.nd rfl (.inl rfl) (pe_op op_shr (pv 0) pe_int)))))
      (pss_cons (ps_expr (pe_bm PySem.F.plainAttrs_list PySem.F.slot_list_append PySem.F.type_list_append mt_append (pv 1) (pa_cons (pv 0) pa_nil)))
      (pss_one (ps_ret (pv 1)))))), ?_⟩
    have lN := numB_20 hN
    refine ⟨Nat.zero_le _, fun o no => ?_⟩
    refine while_by (fun σ H2 => ∃ (n : Nat) (acc : List Int), σ = [some (.int (n : Int)), some (.ref o)] ∧ Same H H2 ∧ H2 o = some (.lst (acc.map V.int)) ∧ acc ++ numB n = numB N) mu1
      ⟨N, [], rfl, Same.new no, upd_same, rfl⟩ ?_ ?_
    · rintro σ H2 ⟨n, acc, rfl, sm, eo, ea⟩
      have la : acc.length ≤ 21 := by
        have := congrArg List.length ea
        rw [List.length_append] at this
        omega
      refine ⟨_, rfl, _, _, rfl, rfl, _, rfl, ite2 (fun e => ?_) (fun e => ?_)⟩
      · have e1 : (127 : Int) < (n : Int) := of_decide_eq_true e
        refine ⟨_, rfl, .inl ⟨rfl, _, .inl (.inl eo)⟩, _, rfl, (n : Int), 127, rfl, rfl, 128, _, rfl, rfl, o, acc.map V.int, _, rfl, rfl, eo, ?_, ?_⟩
        · rw [List.length_map]
          exact small la (by decide)
        · refine ⟨_, rfl, (n : Int), 7, rfl, rfl, (by show (0 : Int) ≤ 7; decide), ⟨n / 128, acc ++ [128 + (n : Int) % 128], ?_, Same.over sm no, ?_, ?_⟩, ?_⟩
          · rfl
          · rw [upd_same, List.map_append, bitAnd_m7]
            rfl
          · rw [numB_big (by omega)] at ea
            rw [List.append_assoc]
            exact ea
          · show n / 128 < n
            omega
      · have e1 : ¬ (127 : Int) < (n : Int) := fun z => e (decide_eq_true z)
        rw [numB_small (by omega)] at ea
        refine ⟨_, rfl, .inl ⟨rfl, _, .inl (.inl eo)⟩, _, rfl, o, acc.map V.int, _, rfl, rfl, eo, ?_, ?_⟩
        · rw [List.length_map]
          exact small la (by decide)
        · refine ⟨_, rfl, q _ _ (Same.over sm no) no ?_⟩
          rw [upd_same, ← ea, List.map_append]
          rfl
    · rintro σ H2 Q1 Q2 hq ⟨v, hv, i, j, hi, hj, k, hk, z⟩
      exact ⟨v, hv, i, j, hi, hj, k, hk, hq _ _ z⟩
theorem ok_lnumber {f : Addr} {fd : FuncData} (F : Fun K "_law_number" "_law_number" s_law_number f fd) (T : Bl mg) :
    FnOk P w K mg base CX0 1 f fd ["number"] spNumber := by
  refine F.ok sc_law_number (fun vs H Q E h => ?_) (fun cdv A outer s H vs Q E hr h => ?_)
  · obtain ⟨n, rfl, _⟩ := h
    rfl
  · obtain ⟨N, rfl, hN, q⟩ := h
    refine ⟨_, (pss_cons (ps_set (i := 1) sc_law_number.nd rfl (.inl rfl) (pe_lst pa_nil))
      (pss_cons (ps_while PassesOwn.never (pt_cmpR op_gt (pv 0) pe_int (nomark _)) (pss_cons (ps_expr (pe_bm PySem.F.plainAttrs_list PySem.F.slot_list_append PySem.F.type_list_append mt_append (pv 1) (pa_cons (pe_op op_add pe_int (pe_op op_mod (pv 0) pe_int)) pa_nil)))
        (pss_one (ps_set (i := 0) sc_law_number.nd rfl (.inl rfl) (pe_op op_fdiv (pv 0) pe_int)))))
      (pss_one (ps_ret (pe_op op_cat (pv 1) (pe_lst (pa_cons (pv 0) pa_nil))))))), ?_⟩
    have lN := numB_20 hN
    refine ⟨Nat.zero_le _, fun o no => ?_⟩
    refine while_by (fun σ H2 => ∃ (n : Nat) (acc : List Int), σ = [some (.int (n : Int)), some (.ref o)] ∧ Same H H2 ∧ H2 o = some (.lst (acc.map V.int)) ∧ acc ++ numB n = numB N) mu1
      ⟨N, [], rfl, Same.new no, upd_same, rfl⟩ ?_ ?_
    · rintro σ H2 ⟨n, acc, rfl, sm, eo, ea⟩
      have la : acc.length ≤ 21 := by
        have := congrArg List.length ea
        rw [List.length_append] at this
        omega
      refine ⟨_, rfl, _, _, rfl, rfl, _, rfl, ite2 (fun e => ?_) (fun e => ?_)⟩
      · have e1 : (127 : Int) < (n : Int) := of_decide_eq_true e
        refine ⟨_, rfl, .inl ⟨rfl, _, .inl (.inl eo)⟩, _, rfl, (n : Int), 128, rfl, rfl, (by show (0 : Int) < 128; decide), 128, _, rfl, rfl, o, acc.map V.int, _, rfl, rfl, eo, ?_, ?_⟩
        · rw [List.length_map]
          exact small la (by decide)
        · refine ⟨_, rfl, (n : Int), 128, rfl, rfl, ⟨by decide, by decide⟩, ⟨n / 128, acc ++ [128 + (n : Int) % 128], ?_, Same.over sm no, ?_, ?_⟩, ?_⟩
          · rfl
          · rw [upd_same, List.map_append]
            rfl
          · rw [numB_big (by omega)] at ea
            rw [List.append_assoc]
            exact ea
          · show n / 128 < n
            omega
      · have e1 : ¬ (127 : Int) < (n : Int) := fun z => e (decide_eq_true z)
        rw [numB_small (by omega)] at ea
        refine ⟨_, rfl, _, rfl, sz 1, fun t nt => ⟨o, t, acc.map V.int, [.int (n : Int)], rfl, rfl, (Same.new nt) _ _ eo, upd_same, ?_, fun u nu => q _ _ ((sm.trans (Same.new nt)).trans (Same.new nu)) (sm.free ((Same.new nt).free nu)) ?_⟩⟩
        · rw [List.length_map]
          exact sz _ (by show acc.length + 1 ≤ 1000; omega)
        · rw [upd_same, ← ea, List.map_append]
          rfl
    · rintro σ H2 Q1 Q2 hq ⟨v, hv, i, j, hi, hj, k, hk, z⟩
      exact ⟨v, hv, i, j, hi, hj, k, hk, hq _ _ z⟩
end
end K1
namespace K1
open PySem PySem.Spec PyProof.Rows L2 Ow
abbrev swrite_integer : Stmt := topS 24
abbrev Nwrite_integer : List Str := ["number", "sign"]
theorem scwrite_integer : FnScope Nwrite_integer ["number"] (defScope swrite_integer) := ⟨rfl, rfl, rfl, by decide +kernel, rfl, by decide +kernel, by decide +kernel⟩
abbrev swrite_string : Stmt := topS 25
abbrev Nwrite_string : List Str := ["text", "char"]
theorem scwrite_string : FnScope Nwrite_string ["text"] (defScope swrite_string) := ⟨rfl, rfl, rfl, by decide +kernel, rfl, by decide +kernel, by decide +kernel⟩
abbrev swrite_value : Stmt := topS 27
abbrev Nwrite_value : List Str := ["value"]
theorem scwrite_value : FnScope Nwrite_value ["value"] (defScope swrite_value) := ⟨rfl, rfl, rfl, by decide +kernel, rfl, by decide +kernel, by decide +kernel⟩
abbrev swrite_row : Stmt := topS 28
abbrev Nwrite_row : List Str := ["row", "data", "value"]
theorem scwrite_row : FnScope Nwrite_row ["row"] (defScope swrite_row) := ⟨rfl, rfl, rfl, by decide +kernel, rfl, by decide +kernel, by decide +kernel⟩
def spInteger : Sp := fun vs H Q _ => ∃ i : Int, vs = [.int i] ∧ i.natAbs < 2 ^ 140 ∧ MkL H Q (intB i)
def spString : Sp := fun vs H Q _ => ∃ z : Str, vs = [.str z] ∧ Pr z ∧ z.length ≤ 200 ∧ MkL H Q (strB z)
def spVB : Sp := fun vs H Q _ => ∃ x : V, vs = [x] ∧ Scal x ∧ MkL H Q (valB x)
def spRB (K : PySem.W.Frag) : Sp := fun vs H Q _ => ∃ (a : Addr) (xs : List V), vs = [.ref a] ∧ SqT K H a xs ∧ (∀ x ∈ xs, Scal x) ∧ xs.length ≤ 10 ∧ MkL H Q (rowB xs)
theorem abs_eq (i : Int) : (if i < 0 then -i else i) = ((i.natAbs : Nat) : Int) := by split <;> omega
theorem take_snoc {α : Type} {xs : List α} {i : Nat} {x : α} (h : xs[i]? = some x) : xs.take (i + 1) = xs.take i ++ [x] := by
  rw [List.take_add_one, h]
  rfl
theorem cp_take {z : Str} {i c : Nat} (h : z.cps[i]? = some c) : (cpB z).take (i + 1) = (cpB z).take i ++ [(c : Int)] := by
  refine take_snoc ?_
  unfold cpB
  rw [List.getElem?_map]
  have : z.cps.toList[i]? = some c := by rw [Array.getElem?_toList]; exact h
  rw [this]
  rfl
section
variable {P : Program} {w : World} {K : PySem.W.Frag} {mg : Str → Option Value} {base : Heap}
theorem ok_integer {f : Addr} {fd : FuncData} (F : Fun K "write_integer" "write_integer" swrite_integer f fd) (T : Bl mg)
    (Dwrite_number : Kn P w K mg base 1 "write_number" ["number"] spNumber) :
    FnOk P w K mg base CX0 2 f fd ["number"] spInteger := by
  refine F.ok scwrite_integer (fun vs H Q E h => ?_) (fun cdv A outer s H vs Q E hr h => ?_)
  · obtain ⟨i, rfl, _⟩ := h
    rfl
  · obtain ⟨i, rfl, hi, q⟩ := h
    refine ⟨_, (pss_cons (ps_set (i := 1) scwrite_integer.nd rfl (.inl rfl) (pe_ifExp (pt_cmpR op_lt (pv 0) pe_int (nomark _)) pe_int pe_int))
      (pss_one (ps_ret (pe_op op_cat (pe_lst (pa_cons (pv 1) pa_nil)) (pe_kn Dwrite_number hr (pa_cons (pe_callB call_abs (by rfl) T.abs (by decide +kernel) (pa_cons (pv 0) pa_nil)) pa_nil)))))), ?_⟩
    have ln := numB_20 hi
    have fin : ∀ (t : Addr) (nt : H t = none) (s : Int) (hs : s = if i < 0 then 1 else 0) (H1 : Hp) (p : Addr), Same (upd H t (.lst [.int s])) H1 → (upd H t (.lst [.int s])) p = none → H1 p = some (.lst ((numB i.natAbs).map V.int)) →
        rCat (.ref t) (.ref p) H1 Q := fun t nt s hs H1 p sm np hp => by
      refine ⟨t, p, [.int s], (numB i.natAbs).map V.int, rfl, rfl, sm _ _ upd_same, hp, ?_, fun u nu => ?_⟩
      · rw [List.length_map]
        exact sz _ (by show 1 + (numB i.natAbs).length ≤ 1000; omega)
      · refine q _ _ (((Same.new nt).trans sm).trans (Same.new nu)) (((Same.new nt).trans sm).free nu) ?_
        rw [upd_same, hs]
        rfl
    refine ⟨_, rfl, _, _, rfl, rfl, _, rfl, ite2 (fun e => ?_) (fun e => ?_)⟩
    · have e1 : i < 0 := of_decide_eq_true e
      refine ⟨_, rfl, sz 1, fun t nt => ⟨_, rfl, i, rfl, i.natAbs, by rw [abs_eq]; rfl, hi, fun H1 p sm np hp => fin t nt 1 (by rw [if_pos e1]) H1 p sm np hp⟩⟩
    · have e1 : ¬ i < 0 := fun z => e (decide_eq_true z)
      refine ⟨_, rfl, sz 1, fun t nt => ⟨_, rfl, i, rfl, i.natAbs, by rw [abs_eq]; rfl, hi, fun H1 p sm np hp => fin t nt 0 (by rw [if_neg e1]) H1 p sm np hp⟩⟩
theorem ok_string {f : Addr} {fd : FuncData} (F : Fun K "write_string" "write_string" swrite_string f fd) (T : Bl mg)
    (Dwrite_number : Kn P w K mg base 1 "write_number" ["number"] spNumber) :
    FnOk P w K mg base CX0 2 f fd ["text"] spString := by
  refine F.ok scwrite_string (fun vs H Q E h => ?_) (fun cdv A outer s H vs Q E hr h => ?_)
  · obtain ⟨z, rfl, _⟩ := h
    rfl
  · obtain ⟨z, rfl, pz, lz, q⟩ := h
    refine ⟨_, (pss_one (ps_ret (pe_op op_cat (pe_kn Dwrite_number hr (pa_cons (pe_callB call_len_str (by rfl) T.len PySem.boot_len (pa_cons (pv 0) pa_nil)) pa_nil)) (pe_lc (own := [("char", 1)]) (g := gName 1) rfl scwrite_string.nd (pi_str (pv 0)) (blkOk_by (own := [("char", 1)]) (N := Nwrite_string) (sc := defScope swrite_string) (by decide +kernel)) (fun _ _ _ _ _ => pg_name (i := 1) scwrite_string.nd rfl (Or.inl rfl)) (fun _ _ _ _ _ => pts_nil) (fun _ _ _ _ _ => (pe_callB call_ord (by rfl) T.ord (by decide +kernel) (pa_cons (pv 1) pa_nil))))))), ?_⟩
    refine ⟨_, rfl, z, rfl, Nat.le_trans lz (by decide), z.length, rfl, Nat.lt_of_le_of_lt lz (by decide), fun H1 p sm np hp => ?_⟩
    refine ⟨_, rfl, z, rfl, fun D nD => lc_str (x := z) (fun i H4 => H4 D = some (.lst (((cpB z).take i).map V.int)) ∧ Same H1 H4) ⟨upd_same, Same.new nD⟩ (fun i c H4 hc hP => ?_) (fun H4 hP => ?_)⟩
    · obtain ⟨eD, s4⟩ := hP
      refine ⟨rfl, ?_⟩
      refine ⟨_, rfl, _, rfl, rfl, _, eD, ?_, ?_, Same.over s4 nD⟩
      · rw [List.length_map, List.length_take, cpB_len]
        exact small (m := 200) (by omega) (by decide)
      · rw [upd_same, cp_take hc, List.map_append]
        rfl
    · obtain ⟨eD, s4⟩ := hP
      have e : (cpB z).take z.cps.size = cpB z := List.take_of_length_le (by rw [cpB_len]; exact Nat.le_refl _)
      rw [e] at eD
      have ln := strB_len lz
      refine ⟨p, D, _, _, rfl, rfl, s4 _ _ hp, eD, ?_, fun u nu => q _ _ ((sm.trans s4).trans (Same.new nu)) ((sm.trans s4).free nu) ?_⟩
      · rw [← List.length_append, ← List.map_append, List.length_map]
        exact sz _ (Nat.le_trans ln (by decide))
      · rw [upd_same, ← List.map_append]
        rfl
theorem ok_wvalue {f : Addr} {fd : FuncData} (F : Fun K "write_value" "write_value" swrite_value f fd) (T : Bl mg)
    (Dwrite_string : Kn P w K mg base 2 "write_string" ["text"] spString)
    (Dwrite_integer : Kn P w K mg base 2 "write_integer" ["number"] spInteger) :
    FnOk P w K mg base CX0 3 f fd ["value"] spVB := by
  refine F.ok scwrite_value (fun vs H Q E h => ?_) (fun cdv A outer s H vs Q E hr h => ?_)
  · obtain ⟨i, rfl, _⟩ := h
    rfl
  · obtain ⟨x, rfl, sx, q⟩ := h
    refine ⟨_, (pss_cons (ps_if (pt_val (pe_callB call_isi (by rfl) T.isinstance (by decide +kernel) (pa_cons (pv 0) (pa_cons (pe_ty "str" (by rfl) T.str (by decide +kernel)) pa_nil)))) (pss_one (ps_ret (pe_op op_cat (pe_lst (pa_cons pe_int pa_nil)) (pe_kn Dwrite_string hr (pa_cons (pv 0) pa_nil))))) pss_nil)
      (pss_one (ps_ret (pe_op op_cat (pe_lst (pa_cons pe_int pa_nil)) (pe_kn Dwrite_integer hr (pa_cons (pv 0) pa_nil)))))), ?_⟩
    have fin : ∀ (t : Addr) (nt : H t = none) (s : Int) (bs : List Int) (hs : valB x = s :: bs) (H1 : Hp) (p : Addr), Same (upd H t (.lst [.int s])) H1 → (upd H t (.lst [.int s])) p = none → H1 p = some (.lst (bs.map V.int)) →
        rCat (.ref t) (.ref p) H1 Q := fun t nt s bs hs H1 p sm np hp => by
      have l := valB_len sx
      rw [hs, List.length_cons] at l
      refine ⟨t, p, [.int s], bs.map V.int, rfl, rfl, sm _ _ upd_same, hp, ?_, fun u nu => ?_⟩
      · rw [List.length_map]
        exact sz _ (by show 1 + bs.length ≤ 1000; omega)
      · refine q _ _ (((Same.new nt).trans sm).trans (Same.new nu)) (((Same.new nt).trans sm).free nu) ?_
        rw [upd_same, hs]
        rfl
    rcases sx with ⟨i, rfl, hi⟩ | ⟨z, rfl, pz, lz⟩
    · refine ⟨_, rfl, _, _, .type "int", .type "str", false, rfl, .ty _, .base (.int i), kit_ty (by decide +kernel), ?_⟩
      refine ⟨_, rfl, iteF ?_⟩
      exact ⟨sz 1, fun t nt => ⟨_, rfl, i, rfl, hi, fun H1 p sm np hp => fin t nt 0 _ rfl H1 p sm np hp⟩⟩
    · refine ⟨_, rfl, _, _, .type "str", .type "str", true, rfl, .ty _, .base (.str z), kit_ty (by decide +kernel), ?_⟩
      refine ⟨_, rfl, iteT ?_⟩
      exact ⟨sz 1, fun t nt => ⟨_, rfl, z, rfl, pz, lz, fun H1 p sm np hp => fin t nt 1 _ rfl H1 p sm np hp⟩⟩
theorem rowB_eq (xs : List V) : rowB xs = numB xs.length ++ (xs.map valB).flatten := by
  unfold rowB listB
  rw [List.length_map]
theorem row_pre {xs : List V} {i : Nat} {x : V} (h : xs[i]? = some x) :
    numB xs.length ++ ((xs.take (i + 1)).map valB).flatten = (numB xs.length ++ ((xs.take i).map valB).flatten) ++ valB x := by
  rw [take_snoc h, List.map_append, List.flatten_append, List.append_assoc]
  simp
theorem row_pre_len {xs : List V} (h : ∀ x ∈ xs, Scal x) (l : xs.length ≤ 10) (i : Nat) : (numB xs.length ++ ((xs.take i).map valB).flatten).length ≤ 2300 := by
  have h1 := flat_len (xs := (xs.take i).map valB) (b := 222) fun y m => by
    obtain ⟨x, mx, rfl⟩ := List.mem_map.mp m
    exact valB_len (h x (List.mem_of_mem_take mx))
  rw [List.length_map, List.length_take] at h1
  have h2 := numB_20 (n := xs.length) (Nat.lt_of_le_of_lt l (by decide))
  rw [List.length_append]
  have h3 : min i xs.length * 222 ≤ 10 * 222 := Nat.mul_le_mul_right _ (by omega)
  omega
theorem ok_wrow {f : Addr} {fd : FuncData} (F : Fun K "write_row" "write_row" swrite_row f fd) (T : Bl mg)
    (Dwrite_number : Kn P w K mg base 1 "write_number" ["number"] spNumber)
    (Dwrite_value : Kn P w K mg base 3 "write_value" ["value"] spVB) :
    FnOk P w K mg base CX0 4 f fd ["row"] (spRB K) := by
  refine F.ok scwrite_row (fun vs H Q E h => ?_) (fun cdv A outer s H vs Q E hr h => ?_)
  · obtain ⟨a, xs, rfl, _⟩ := h
    rfl
  · obtain ⟨a, xs, rfl, hx, sx, lx, q⟩ := h
    refine ⟨_, (pss_cons (ps_set (i := 1) scwrite_row.nd rfl (.inl rfl) (pe_kn Dwrite_number hr (pa_cons (pe_callB call_len_seq (by rfl) T.len PySem.boot_len (pa_cons (pv 0) pa_nil)) pa_nil)))
      (pss_cons (ps_for PassesOwn.never rfl (pi_tup (pv 0)) (pg_name (i := 2) scwrite_row.nd rfl (.inl rfl)) (pss_one (ps_expr (pe_bm PySem.F.plainAttrs_list PySem.F.slot_list_extend PySem.F.type_list_extend mt_extend (pv 1) (pa_cons (pe_kn Dwrite_value hr (pa_cons (pv 2) pa_nil)) pa_nil)))))
      (pss_one (ps_ret (pv 1))))), ?_⟩
    refine ⟨_, rfl, a, xs, rfl, .inr hx, xs.length, rfl, Nat.lt_of_le_of_lt lx (by decide), fun H1 o sm no ho => ?_⟩
    refine ⟨_, rfl, a, rfl, ⟨_, Tk.same sm _ _ hx⟩, for_tup (K := K) (a := a) (xs := xs) (fun i σ H4 => ∃ y2 : Option V, σ = [some (.ref a), some (.ref o), y2] ∧ Same H H4 ∧ H4 o = some (.lst ((numB xs.length ++ ((xs.take i).map valB).flatten).map V.int)))
      ⟨none, rfl, sm, by rw [ho]; simp⟩ (fun i σ H4 hi hP => ?_) (fun i x σ H4 hi hP => ?_) (fun σ H4 hP => ?_)⟩
    · obtain ⟨y2, _, s4, _⟩ := hP
      exact Tk.same s4 _ _ hx
    · obtain ⟨y2, rfl, s4, eo⟩ := hP
      refine ⟨_, rfl, .inl ⟨rfl, _, .inl (.inl eo)⟩, _, rfl, x, rfl, sx x (List.mem_of_getElem? hi), fun H5 p s5 np hp => ?_⟩
      refine ⟨o, p, _, _, rfl, rfl, s5 _ _ eo, hp, ?_, _, rfl, Same.over (s4.trans s5) no, ?_⟩
      · rw [← List.length_append, ← List.map_append, List.length_map, ← row_pre hi]
        exact Nat.le_trans (row_pre_len sx lx _) (by decide)
      · rw [upd_same, row_pre hi, ← List.map_append]
    · obtain ⟨y2, rfl, s4, eo⟩ := hP
      rw [List.take_length, ← rowB_eq] at eo
      exact ⟨_, rfl, q _ _ s4 no eo⟩
end
end K1
namespace K1
open PySem PySem.Spec PyProof.Rows L2 Ow
abbrev s_law_listed : Stmt := topS 44
abbrev N_law_listed : List Str := ["parts", "data", "part"]
theorem sc_law_listed : FnScope N_law_listed ["parts"] (defScope s_law_listed) := ⟨rfl, rfl, rfl, by decide +kernel, rfl, by decide +kernel, by decide +kernel⟩
abbrev s_law_string : Stmt := topS 57
abbrev N_law_string : List Str := ["text", "chars", "codes", "char"]
theorem sc_law_string : FnScope N_law_string ["text"] (defScope s_law_string) := ⟨rfl, rfl, rfl, by decide +kernel, rfl, by decide +kernel, by decide +kernel⟩
abbrev s_law_value_bytes : Stmt := topS 58
abbrev N_law_value_bytes : List Str := ["value"]
theorem sc_law_value_bytes : FnScope N_law_value_bytes ["value"] (defScope s_law_value_bytes) := ⟨rfl, rfl, rfl, by decide +kernel, rfl, by decide +kernel, by decide +kernel⟩
abbrev s_law_row_bytes : Stmt := topS 59
abbrev N_law_row_bytes : List Str := ["row", "value"]
theorem sc_law_row_bytes : FnScope N_law_row_bytes ["row"] (defScope s_law_row_bytes) := ⟨rfl, rfl, rfl, by decide +kernel, rfl, by decide +kernel, by decide +kernel⟩
/-- the lists of ints at the addresses -/
def Parts (H : Hp) (qs : List (Addr × List Int)) : Prop := ∀ t ∈ qs, H t.1 = some (.lst (t.2.map V.int))
def refs (qs : List (Addr × List Int)) : List V := qs.map fun t => .ref t.1
theorem Parts.same {H H' : Hp} {qs : List (Addr × List Int)} (s : Same H H') (h : Parts H qs) : Parts H' qs := fun t m => s _ _ (h t m)
theorem refs_get {qs : List (Addr × List Int)} {i : Nat} {x : V} (h : (refs qs)[i]? = some x) : ∃ t, qs[i]? = some t ∧ x = .ref t.1 := by
  unfold refs at h
  rw [List.getElem?_map] at h
  cases e : qs[i]? with
  | none => rw [e] at h; cases h
  | some t => rw [e] at h; exact ⟨t, rfl, (Option.some.inj h).symm⟩
theorem refs_snoc {qs : List (Addr × List Int)} {t : Addr × List Int} : refs (qs ++ [t]) = refs qs ++ [.ref t.1] := by
  unfold refs
  rw [List.map_append]
  rfl
def spListed : Sp := fun vs H Q _ => ∃ (a : Addr) (qs : List (Addr × List Int)), vs = [.ref a] ∧ H a = some (.lst (refs qs)) ∧ Parts H qs ∧ qs.length ≤ 300 ∧ (∀ t ∈ qs, t.2.length ≤ 5000) ∧
  MkL H Q (listB (qs.map (·.2)))
abbrev CH : Str := PySem.Str.ofString " !\"#$&'()*+,-./0123456789:;<=>?@ABCDEFGHIJKLMNOPQRSTUVWXYZ[\\]^_`abcdefghijklmnopqrstuvwxyz{|}~"
def chIx (c : Nat) : Nat := if c < 37 then c - 32 else c - 33
theorem ch_at0 : ∀ c, c < 127 → 32 ≤ c → c ≠ 37 → (Builtin.Str.occurrences CH ⟨#[c]⟩ 0 CH.length 1).head? = some (chIx c) := by decide +kernel
theorem ch_at {c : Nat} (h : c < 127) (h1 : 32 ≤ c) (h2 : c ≠ 37) : ∃ rest, Builtin.Str.occurrences CH ⟨#[c]⟩ 0 CH.length 1 = chIx c :: rest := by
  have := ch_at0 c h h1 h2
  cases e : Builtin.Str.occurrences CH ⟨#[c]⟩ 0 CH.length 1 with
  | nil => rw [e] at this; cases this
  | cons x r =>
    rw [e] at this
    exact ⟨r, by rw [Option.some.inj this]⟩
theorem ch_val {c : Nat} (h1 : 32 ≤ c) (h2 : c ≠ 37) : (32 : Int) + ((chIx c : Nat) : Int) + (if decide ((4 : Int) < ((chIx c : Nat) : Int)) = true then 1 else 0) = (c : Int) := by
  unfold chIx
  by_cases h : c < 37
  · rw [if_pos h, if_neg (by simp; omega)]
    omega
  · rw [if_neg h, if_pos (by simp; omega)]
    omega
theorem flat1 (xs : List Int) : (xs.map fun x => [x]).flatten = xs := by
  induction xs with
  | nil => rfl
  | cons x xs ih => rw [List.map_cons, List.flatten_cons, ih]; rfl
theorem listed_str (z : Str) : listB ((cpB z).map fun x => [x]) = strB z := by
  unfold listB strB
  rw [flat1, List.length_map, cpB_len]
theorem listed_pre {qs : List (Addr × List Int)} {i : Nat} {t : Addr × List Int} (h : qs[i]? = some t) :
    numB qs.length ++ ((qs.take (i + 1)).map (·.2)).flatten = (numB qs.length ++ ((qs.take i).map (·.2)).flatten) ++ t.2 := by
  rw [take_snoc h, List.map_append, List.flatten_append, List.append_assoc]
  simp
theorem listed_pre_len {qs : List (Addr × List Int)} (h : ∀ t ∈ qs, t.2.length ≤ 5000) (l : qs.length ≤ 300) (i : Nat) : (numB qs.length ++ ((qs.take i).map (·.2)).flatten).length ≤ 1500021 := by
  have h1 := flat_len (xs := (qs.take i).map (·.2)) (b := 5000) fun y m => by
    obtain ⟨x, mx, rfl⟩ := List.mem_map.mp m
    exact h x (List.mem_of_mem_take mx)
  rw [List.length_map, List.length_take] at h1
  have h2 := numB_20 (n := qs.length) (Nat.lt_of_le_of_lt l (by decide))
  rw [List.length_append]
  have h3 : min i qs.length * 5000 ≤ 300 * 5000 := Nat.mul_le_mul_right _ (by omega)
  omega
section
variable {P : Program} {w : World} {K : PySem.W.Frag} {mg : Str → Option Value} {base : Heap}
theorem ok_listed {f : Addr} {fd : FuncData} (F : Fun K "_law_listed" "_law_listed" s_law_listed f fd) (T : Bl mg)
    (D_law_number : Kn P w K mg base 1 "_law_number" ["number"] spNumber) :
    FnOk P w K mg base CX0 2 f fd ["parts"] spListed := by
  refine F.ok sc_law_listed (fun vs H Q E h => ?_) (fun cdv A outer s H vs Q E hr h => ?_)
  · obtain ⟨a, qs, rfl, _⟩ := h
    rfl
  · obtain ⟨a, qs, rfl, ha, hp, lq, bq, q⟩ := h
    refine ⟨_, (pss_cons (ps_set (i := 1) sc_law_listed.nd rfl (.inl rfl) (pe_kn D_law_number hr (pa_cons (pe_callB call_len_seq (by rfl) T.len PySem.boot_len (pa_cons (pv 0) pa_nil)) pa_nil)))
      (pss_cons (ps_for PassesOwn.never rfl (pi_list (pv 0)) (pg_name (i := 2) sc_law_listed.nd rfl (.inl rfl)) (pss_one (ps_set (i := 1) sc_law_listed.nd rfl (.inl rfl) (pe_op op_cat (pv 1) (pv 2)))))
      (pss_one (ps_ret (pv 1))))), ?_⟩
    have le : (refs qs).length = qs.length := by unfold refs; rw [List.length_map]
    refine ⟨_, rfl, a, refs qs, rfl, .inl (SqL.of ha), qs.length, by rw [le]; rfl, Nat.lt_of_le_of_lt lq (by decide), fun H1 o sm no ho => ?_⟩
    refine ⟨_, rfl, a, rfl, ⟨_, SqL.of (sm _ _ ha)⟩, for_list (K := K) (a := a) (xs := refs qs) (fun i σ H4 => ∃ (o : Addr) (y2 : Option V), σ = [some (.ref a), some (.ref o), y2] ∧ Same H H4 ∧ H o = none ∧
        H4 o = some (.lst ((numB qs.length ++ ((qs.take i).map (·.2)).flatten).map V.int)))
      ⟨o, none, rfl, sm, no, by rw [ho]; simp⟩ (fun i σ H4 hi hP => ?_) (fun i x σ H4 hi hP => ?_) (fun σ H4 hP => ?_)⟩
    · obtain ⟨o, y2, _, s4, _⟩ := hP
      exact SqL.of (s4 _ _ ha)
    · obtain ⟨o, y2, rfl, s4, no, eo⟩ := hP
      obtain ⟨t, et, rfl⟩ := refs_get hi
      have mt := List.mem_of_getElem? et
      refine ⟨_, rfl, _, rfl, o, t.1, _, _, rfl, rfl, eo, s4 _ _ (hp t mt), ?_, fun u nu => ⟨u, _, rfl, s4.trans (Same.new nu), s4.free nu, ?_⟩⟩
      · rw [← List.length_append, ← List.map_append, List.length_map, ← listed_pre et]
        exact Nat.le_trans (listed_pre_len bq lq _) (by decide)
      · rw [upd_same, listed_pre et, ← List.map_append]
    · obtain ⟨o, y2, rfl, s4, no, eo⟩ := hP
      have e2 : qs.take (refs qs).length = qs := by rw [le, List.take_length]
      rw [e2] at eo
      refine ⟨_, rfl, q _ _ s4 no ?_⟩
      rw [eo]
      unfold listB
      rw [List.length_map]
theorem ok_lstring {f : Addr} {fd : FuncData} (F : Fun K "_law_string" "_law_string" s_law_string f fd) (T : Bl mg)
    (D_law_listed : Kn P w K mg base 2 "_law_listed" ["parts"] spListed) :
    FnOk P w K mg base CX0 3 f fd ["text"] spString := by
  refine F.ok sc_law_string (fun vs H Q E h => ?_) (fun cdv A outer s H vs Q E hr h => ?_)
  · obtain ⟨z, rfl, _⟩ := h
    rfl
  · obtain ⟨z, rfl, pz, lz, q⟩ := h
    refine ⟨_, (pss_cons (ps_set (i := 1) sc_law_string.nd rfl (.inl rfl) pe_str)
      (pss_cons (ps_set (i := 2) sc_law_string.nd rfl (.inl rfl) (pe_lst pa_nil))
      (pss_cons (ps_for PassesOwn.never rfl (pi_str (pv 0)) (pg_name (i := 3) sc_law_string.nd rfl (.inl rfl)) (pss_one (ps_expr (pe_bm PySem.F.plainAttrs_list PySem.F.slot_list_append PySem.F.type_list_append mt_append (pv 2) (pa_cons (pe_lst (pa_cons (pe_op op_add (pe_op op_add pe_int (pe_m1 PySem.F.slot_str_index PySem.F.type_str_index mt_sindex (pv 1) (pv 3))) (pe_callTy call_int1 (by rfl) T.int (by decide +kernel) (pa_cons (pe_cmpR op_gt (pe_m1 PySem.F.slot_str_index PySem.F.type_str_index mt_sindex (pv 1) (pv 3)) pe_int (nomark _)) pa_nil))) pa_nil)) pa_nil)))))
      (pss_one (ps_ret (pe_kn D_law_listed hr (pa_cons (pv 2) pa_nil))))))), ?_⟩
    refine ⟨sz 0, fun o no => ?_⟩
    refine ⟨_, rfl, z, rfl, for_str (x := z) (fun i σ H4 => ∃ (y3 : Option V) (qs : List (Addr × List Int)), σ = [some (.str z), some (.str CH), some (.ref o), y3] ∧ Same H H4 ∧ H4 o = some (.lst (refs qs)) ∧
        Parts H4 qs ∧ (∀ t ∈ qs, t.1 ≠ o) ∧ qs.map (·.2) = ((cpB z).take i).map (fun x => [x]) ∧ qs.length = i)
      ⟨none, [], rfl, Same.new no, upd_same, (fun _ m => nomatch m), (fun _ m => nomatch m), rfl, rfl⟩ (fun i c σ H4 hc hP => ?_) (fun σ H4 hP => ?_)⟩
    · obtain ⟨y3, qs, rfl, s4, eo, pq, nq, mq, lq⟩ := hP
      have mc : c ∈ z.cps.toList := List.mem_of_getElem? (i := i) (by rw [Array.getElem?_toList]; exact hc)
      obtain ⟨c1, c2, c3⟩ := pz c mc
      obtain ⟨rest, er⟩ := ch_at c2 c1 c3
      have iz : i < z.length := (Array.getElem?_eq_some_iff.mp hc).1
      refine ⟨_, rfl, .inl ⟨rfl, _, .inl (.inl eo)⟩, _, rfl, ⟨_, rfl⟩, _, rfl, CH, ⟨#[c]⟩, chIx c, rest, rfl, rfl, er, 32, _, rfl, rfl, _, rfl, ⟨_, rfl⟩, _, rfl, CH, ⟨#[c]⟩, chIx c, rest, rfl, rfl, er, _, _, rfl, rfl,
        .inr ⟨_, rfl, _, _, rfl, rfl, sz 1, fun t nt => ⟨o, refs qs, _, rfl, rfl, (Same.new nt) _ _ eo, ?_, ?_⟩⟩⟩
      · unfold refs
        rw [List.length_map]
        exact small (m := 1000) (by omega) (by decide)
      · have no4 : t ≠ o := fun z => by rw [z, eo] at nt; cases nt
        refine ⟨_, qs ++ [(t, [(c : Int)])], rfl, Same.over (s4.trans (Same.new nt)) no, ?_, ?_, ?_, ?_, ?_⟩
        · rw [upd_same, refs_snoc]
        · intro u mu
          rcases List.mem_append.mp mu with m | m
          · rw [upd_ne (nq u m), upd_ne (ne_of_none (pq u m) nt)]
            exact pq u m
          · rw [List.mem_singleton.mp m, upd_ne no4, upd_same]
            show some (HO.lst [V.int _]) = _
            rw [ch_val c1 c3]
            rfl
        · intro u mu
          rcases List.mem_append.mp mu with m | m
          · exact nq u m
          · rw [List.mem_singleton.mp m]
            exact no4
        · rw [List.map_append, mq, cp_take hc, List.map_append]
          rfl
        · rw [List.length_append, lq]
          rfl
    · obtain ⟨y3, qs, rfl, s4, eo, pq, nq, mq, lq⟩ := hP
      have e : (cpB z).take z.cps.size = cpB z := List.take_of_length_le (by rw [cpB_len]; exact Nat.le_refl _)
      rw [e] at mq
      have lz' : z.cps.size ≤ 200 := lz
      refine ⟨_, rfl, o, qs, rfl, eo, pq, by omega, fun t m => ?_, fun H5 p s5 np hp => ?_⟩
      · have m2 : t.2 ∈ qs.map (·.2) := List.mem_map.mpr ⟨t, m, rfl⟩
        rw [mq] at m2
        obtain ⟨x, _, ex⟩ := List.mem_map.mp m2
        rw [← ex]
        show 1 ≤ 5000
        decide
      · refine q _ _ (s4.trans s5) (s4.free np) ?_
        rw [hp, mq, listed_str]
theorem ok_lvalb {f : Addr} {fd : FuncData} (F : Fun K "_law_value_bytes" "_law_value_bytes" s_law_value_bytes f fd) (T : Bl mg)
    (D_law_number : Kn P w K mg base 1 "_law_number" ["number"] spNumber)
    (D_law_string : Kn P w K mg base 3 "_law_string" ["text"] spString) :
    FnOk P w K mg base CX0 4 f fd ["value"] spVB := by
  refine F.ok sc_law_value_bytes (fun vs H Q E h => ?_) (fun cdv A outer s H vs Q E hr h => ?_)
  · obtain ⟨i, rfl, _⟩ := h
    rfl
  · obtain ⟨x, rfl, sx, q⟩ := h
    refine ⟨_, (pss_cons (ps_if (pt_val (pe_callB call_isi (by rfl) T.isinstance (by decide +kernel) (pa_cons (pv 0) (pa_cons (pe_ty "int" (by rfl) T.int (by decide +kernel)) pa_nil)))) (pss_one (ps_ret (pe_op op_cat (pe_lst (pa_cons pe_int (pa_cons (pe_callTy call_int1 (by rfl) T.int (by decide +kernel) (pa_cons (pe_cmpR op_lt (pv 0) pe_int (nomark _)) pa_nil)) pa_nil))) (pe_kn D_law_number hr (pa_cons (pe_callB call_abs (by rfl) T.abs (by decide +kernel) (pa_cons (pv 0) pa_nil)) pa_nil))))) pss_nil)
      (pss_one (ps_ret (pe_op op_cat (pe_lst (pa_cons pe_int pa_nil)) (pe_kn D_law_string hr (pa_cons (pv 0) pa_nil)))))), ?_⟩
    have fin : ∀ (t : Addr) (nt : H t = none) (ss : List Int) (ls : ss.length ≤ 2) (bs : List Int) (hs : valB x = ss ++ bs) (H1 : Hp) (p : Addr), Same (upd H t (.lst (ss.map V.int))) H1 → (upd H t (.lst (ss.map V.int))) p = none → H1 p = some (.lst (bs.map V.int)) →
        rCat (.ref t) (.ref p) H1 Q := fun t nt ss ls bs hs H1 p sm np hp => by
      have l := valB_len sx
      rw [hs, List.length_append] at l
      refine ⟨t, p, ss.map V.int, bs.map V.int, rfl, rfl, sm _ _ upd_same, hp, ?_, fun u nu => ?_⟩
      · rw [List.length_map, List.length_map]
        exact sz _ (by omega)
      · refine q _ _ (((Same.new nt).trans sm).trans (Same.new nu)) (((Same.new nt).trans sm).free nu) ?_
        rw [upd_same, hs, List.map_append]
    rcases sx with ⟨i, rfl, hi⟩ | ⟨z, rfl, pz, lz⟩
    · refine ⟨_, rfl, _, _, .type "int", .type "int", true, rfl, .ty _, .base (.int i), kit_ty (by decide +kernel), ?_⟩
      refine ⟨_, rfl, iteT ?_⟩
      refine ⟨_, rfl, _, _, rfl, rfl, .inr ⟨_, rfl, sz 2, fun t nt => ⟨_, rfl, i, rfl, i.natAbs, by rw [abs_eq]; rfl, hi, fun H1 p sm np hp => ?_⟩⟩⟩
      refine fin t nt [0, if decide (i < 0) = true then 1 else 0] (Nat.le_refl _) (numB i.natAbs) ?_ H1 p sm np hp
      show 0 :: (if i < 0 then 1 else 0) :: numB i.natAbs = _
      by_cases e : i < 0
      · rw [if_pos e, if_pos (decide_eq_true e)]; rfl
      · rw [if_neg e, if_neg (fun z => e (of_decide_eq_true z))]; rfl
    · refine ⟨_, rfl, _, _, .type "str", .type "int", false, rfl, .ty _, .base (.str z), kit_ty (by decide +kernel), ?_⟩
      refine ⟨_, rfl, iteF ?_⟩
      exact ⟨sz 1, fun t nt => ⟨_, rfl, z, rfl, pz, lz, fun H1 p sm np hp => fin t nt [1] (by decide) _ rfl H1 p sm np hp⟩⟩
theorem ok_lrowb {f : Addr} {fd : FuncData} (F : Fun K "_law_row_bytes" "_law_row_bytes" s_law_row_bytes f fd) (T : Bl mg)
    (D_law_listed : Kn P w K mg base 2 "_law_listed" ["parts"] spListed)
    (D_law_value_bytes : Kn P w K mg base 4 "_law_value_bytes" ["value"] spVB) :
    FnOk P w K mg base CX0 5 f fd ["row"] (spRB K) := by
  refine F.ok sc_law_row_bytes (fun vs H Q E h => ?_) (fun cdv A outer s H vs Q E hr h => ?_)
  · obtain ⟨a, xs, rfl, _⟩ := h
    rfl
  · obtain ⟨a, xs, rfl, hx, sx, lx, q⟩ := h
    refine ⟨_, (pss_one (ps_ret (pe_kn D_law_listed hr (pa_cons (pe_lc (own := [("value", 1)]) (g := gName 1) rfl sc_law_row_bytes.nd (pi_tup (pv 0)) (blkOk_by (own := [("value", 1)]) (N := N_law_row_bytes) (sc := defScope s_law_row_bytes) (by decide +kernel)) (fun _ _ _ _ _ => pg_name (i := 1) sc_law_row_bytes.nd rfl (Or.inl rfl)) (fun _ _ _ _ _ => pts_nil) (fun _ _ _ _ _ => (pe_kn D_law_value_bytes hr (pa_cons (pv 1) pa_nil)))) pa_nil)))), ?_⟩
    refine ⟨_, rfl, a, rfl, ⟨_, hx⟩, fun D nD => lc_tup (K := K) (a := a) (xs := xs) (fun i H4 => ∃ qs : List (Addr × List Int), Same H H4 ∧ H4 D = some (.lst (refs qs)) ∧
        Parts H4 qs ∧ (∀ t ∈ qs, t.1 ≠ D) ∧ qs.map (·.2) = (xs.take i).map valB ∧ qs.length = i) ⟨[], Same.new nD, upd_same, (fun _ m => nomatch m), (fun _ m => nomatch m), rfl, rfl⟩ (fun i H4 hi hP => ?_) (fun i x H4 hi hP => ?_) (fun H4 hP => ?_)⟩
    · obtain ⟨qs, sm, _⟩ := hP
      exact Tk.same sm _ _ hx
    · obtain ⟨qs, sm, eD, pq, nq, mq, lq⟩ := hP
      have il : i < xs.length := (List.getElem?_eq_some_iff.mp hi).1
      refine ⟨rfl, ?_⟩
      refine ⟨_, rfl, x, rfl, sx x (List.mem_of_getElem? hi), fun H5 p s5 np hp => ?_⟩
      have no4 : p ≠ D := fun z => by rw [z, eD] at np; cases np
      refine ⟨refs qs, s5 _ _ eD, ?_, qs ++ [(p, valB x)], Same.over (sm.trans s5) nD, ?_, ?_, ?_, ?_, ?_⟩
      · unfold refs
        rw [List.length_map]
        exact small (m := 1000) (by omega) (by decide)
      · rw [upd_same, refs_snoc]
      · intro u mu
        rcases List.mem_append.mp mu with m | m
        · rw [upd_ne (nq u m)]
          exact s5 _ _ (pq u m)
        · rw [List.mem_singleton.mp m, upd_ne no4]
          exact hp
      · intro u mu
        rcases List.mem_append.mp mu with m | m
        · exact nq u m
        · rw [List.mem_singleton.mp m]
          exact no4
      · rw [List.map_append, mq, take_snoc hi, List.map_append]
        rfl
      · rw [List.length_append, lq]
        rfl
    · obtain ⟨qs, sm, eD, pq, nq, mq, lq⟩ := hP
      rw [List.take_length] at mq
      refine ⟨D, qs, rfl, eD, pq, by omega, fun t m => ?_, fun H5 p s5 np hp => ?_⟩
      · have m2 : t.2 ∈ qs.map (·.2) := List.mem_map.mpr ⟨t, m, rfl⟩
        rw [mq] at m2
        obtain ⟨x, mx, ex⟩ := List.mem_map.mp m2
        rw [← ex]
        exact Nat.le_trans (valB_len (sx x mx)) (by decide)
      · refine q _ _ (sm.trans s5) (sm.free np) ?_
        rw [hp, mq]
        rfl
end
end K1
namespace K1
open PySem PySem.Spec PyProof.Rows L2 Ow
abbrev Nbucket_of_values : List Str := ["values", "buckets", "number", "byte"]
abbrev N_law_bucket : List Str := ["values", "buckets", "number", "byte"]
def spBuck (K : PySem.W.Frag) : Sp := fun vs H Q _ => ∃ (a : Addr) (xs : List V) (b : Int), vs = [.ref a, .int b] ∧ SqT K H a xs ∧ (∀ x ∈ xs, Scal x) ∧ xs.length ≤ 10 ∧ 0 < b ∧
  ∀ H', Same H H' → Q (.int (buk (rowB xs) % b)) H'
theorem take_fold {α β : Type} {xs : List β} {i : Nat} {x : β} (h : xs[i]? = some x) (f : α → β → α) (a : α) : (xs.take (i + 1)).foldl f a = f ((xs.take i).foldl f a) x := by
  rw [take_snoc h, List.foldl_append]
  rfl
theorem ints_get {ns : List Int} {i : Nat} {x : V} (h : (ns.map V.int)[i]? = some x) : ∃ n, ns[i]? = some n ∧ x = .int n := by
  rw [List.getElem?_map] at h
  cases e : ns[i]? with
  | none => rw [e] at h; cases h
  | some t => rw [e] at h; exact ⟨t, rfl, (Option.some.inj h).symm⟩
section
variable {P : Program} {w : World} {K : PySem.W.Frag} {mg : Str → Option Value} {base : Heap}
end
end K1
namespace K1
open PySem PySem.Spec PyProof.Rows L2 Ow
abbrev N_law_pack : List Str := ["rows", "sectors", "current", "count", "row", "code", "k"]
def codes (rs : List (Addr × List V)) : List (List Int) := rs.map fun t => rowB t.2
def PkRes (H : Hp) (x : V) (H' : Hp) : Option (List (List Int)) → Prop
  | none => x = .non
  | some ss => ∃ (p : Addr) (ts : List (Addr × List Int)), x = .ref p ∧ H p = none ∧ H' p = some (.lst (refs ts)) ∧ ts.map (·.2) = ss ∧ Parts H' ts ∧ (∀ t ∈ ts, H t.1 = none ∧ t.1 ≠ p) ∧
      ss.length ≤ 100 ∧ ∀ s ∈ ss, s.length ≤ 100
def spPack (K : PySem.W.Frag) : Sp := fun vs H Q _ => ∃ (a : Addr) (rs : List (Addr × List V)), vs = [.ref a] ∧ SqL K H a (rrefs rs) ∧ RowsOk K H rs ∧ rs.length ≤ 99 ∧
  ∀ x H', Same H H' → PkRes H x H' (packO (codes rs)) → Q x H'
theorem codes_get {rs : List (Addr × List V)} {i : Nat} {t : Addr × List V} (h : rs[i]? = some t) : (codes rs)[i]? = some (rowB t.2) := by
  unfold codes
  rw [List.getElem?_map, h]
  rfl
theorem packO_none {cs : List (List Int)} {c : List Int} (m : c ∈ cs) (h : 63 < c.length) : packO cs = none := by
  unfold packO
  rw [if_neg]
  intro z
  have := List.all_eq_true.mp z c m
  have := of_decide_eq_true this
  omega
theorem packO_some {cs : List (List Int)} (h : ∀ c ∈ cs, c.length ≤ 63) : packO cs = some ((pkAll (pkF cs)).map padS) := by
  unfold packO
  rw [if_pos]
  exact List.all_eq_true.mpr fun c m => decide_eq_true (h c m)
theorem pkF_snoc {cs : List (List Int)} {i : Nat} {c : List Int} (h : cs[i]? = some c) : pkF (cs.take (i + 1)) = pkS (pkF (cs.take i)) c := by
  unfold pkF
  rw [take_fold h]
theorem pkF_ok' {cs : List (List Int)} (h : ∀ c ∈ cs, c.length ≤ 63) : PkOk cs.length (pkF cs) := by
  have := pkF_ok cs 0 pk0 pk0_ok h
  rwa [Nat.zero_add] at this
theorem padS_len {s : List Int} (h : s.length ≤ 64) : (padS s).length = 64 := by
  unfold padS
  rw [List.length_append, List.length_replicate]
  omega
theorem pkAll_len {n : Nat} {p : Pk} (h : PkOk n p) : (pkAll p).length ≤ n ∧ ∀ s ∈ pkAll p, s.length ≤ 64 := by
  have h3 := h.l
  unfold pkAll
  by_cases e : p.cnt > 0
  · rw [if_pos e] at h3 ⊢
    refine ⟨by rw [List.length_append]; exact h3, fun s m => ?_⟩
    rcases List.mem_append.mp m with m | m
    · exact (h.s s m).1
    · rw [List.mem_singleton.mp m, List.length_cons]
      have := h.c
      omega
  · rw [if_neg e] at h3 ⊢
    exact ⟨h3, fun s m => (h.s s m).1⟩
theorem zeros_snoc (n : Nat) : (List.replicate n (0 : Int)).map V.int ++ [V.int 0] = (List.replicate (n + 1) (0 : Int)).map V.int := by
  rw [List.replicate_succ']
  rw [List.map_append]
  rfl
theorem Parts.snoc {H : Hp} {qs : List (Addr × List Int)} {o t : Addr} {c : List Int} (h : Parts H qs) (n : ∀ u ∈ qs, u.1 ≠ o) (to : t ≠ o) (ht : H t = some (.lst (c.map V.int))) (u : HO) : Parts (upd H o u) (qs ++ [(t, c)]) := by
  intro v mv
  rcases List.mem_append.mp mv with m | m
  · rw [upd_ne (n v m)]
    exact h v m
  · rw [List.mem_singleton.mp m, upd_ne to]
    exact ht
theorem all_take {cs : List (List Int)} {i : Nat} {c : List Int} (h : cs[i]? = some c) (a : ∀ x ∈ cs.take i, x.length ≤ 63) (hc : c.length ≤ 63) : ∀ x ∈ cs.take (i + 1), x.length ≤ 63 := by
  rw [take_snoc h]
  intro x m
  rcases List.mem_append.mp m with m | m
  · exact a x m
  · rw [List.mem_singleton.mp m]
    exact hc
section
variable {P : Program} {w : World} {K : PySem.W.Frag} {mg : Str → Option Value} {base : Heap}
end
end K1
namespace K1
open PySem PySem.Spec PyProof.Rows L2 Ow
abbrev Npack : List Str := ["rows", "used", "row", "code", "sector"]
structure Sb (mg : Str → Option Value) : Prop where
  ex : ∃ t, mg "SECTOR_BYTES" = some (.int 64 t)
theorem pe_gi {X : Cx} {x : Str} {n : Int} {t : Tok} {pos : Pos} (hg : Gl X x) (hm : X.mg x = some (.int n t)) (hn : x ≠ "__name__" := by decide) (hd : (x == ("__debug__" : Str)) = false := by decide) : PE X (.Name x pos) (tC (.int n)) := pe_glob (v := .int n) hg hm ⟨_, rfl⟩ (hd := hd)
def rLenK (K : PySem.W.Frag) : List V → Hp → VK → Prop := fun xs H Q => ∃ p ys, xs = [V.ref p] ∧ (SqL K H p ys ∨ SqT K H p ys) ∧ Q (.int (ys.length : Nat)) H
theorem call_len_K {X : Cx} {K : PySem.W.Frag} (e : X.K = K) : CallR X (.builtin "len") (rLenK K) := by
  subst e
  exact call_len_seq
theorem ix0 {n : Nat} (h : 0 < n) : ixN n 0 = some 0 := by
  unfold ixN
  simp
  omega
theorem pk_nil {n : Nat} {pk : Pk} {code : List Int} (ok : PkOk n pk) (hc : code.length ≤ 63) (h : pkAll pk = []) : pkAll (pkS pk code) = [1 :: code] := by
  have z : ¬ pk.cnt > 0 := fun z => by
    unfold pkAll at h
    rw [if_pos z] at h
    exact absurd h (by simp)
  have nn := ok.nn
  have z0 : pk.cnt = 0 := by omega
  obtain ⟨e1, e2⟩ := ok.z z0
  unfold pkS
  rw [if_neg (by rw [e2]; simp; omega), e1, e2, z0]
  rfl
theorem pk_last {n : Nat} {pk : Pk} {xs : List (List Int)} {l : List Int} (ok : PkOk n pk) (h : xs ++ [l] = pkAll pk) : xs = pk.S ∧ l = pk.cnt :: pk.cur ∧ pk.cnt > 0 := by
  have nn := ok.nn
  by_cases e : pk.cnt > 0
  · unfold pkAll at h
    rw [if_pos e] at h
    have := List.append_inj' h rfl
    exact ⟨this.1, (List.cons.inj this.2).1, e⟩
  · unfold pkAll at h
    rw [if_neg e] at h
    have z0 : pk.cnt = 0 := by omega
    rw [(ok.z z0).1] at h
    exact absurd h (by simp)
theorem rep_zero (n : Nat) : (List.replicate n [V.int 0]).flatten = (List.replicate n (0 : Int)).map V.int := by
  induction n with
  | zero => rfl
  | succ n ih => rw [List.replicate_succ, List.flatten_cons, ih, List.replicate_succ, List.map_cons]; rfl
theorem map_take_snoc {α β : Type} {xs : List α} {f : α → β} {i : Nat} {x : α} (h : xs[i]? = some x) : (xs.take (i + 1)).map f = (xs.take i).map f ++ [f x] := by
  rw [take_snoc h, List.map_append]
  rfl
section
variable {P : Program} {w : World} {K : PySem.W.Frag} {mg : Str → Option Value} {base : Heap}
end
end K1
namespace K1
open PySem PySem.Spec PyProof.Rows L2 Ow Tlz
/-! the order of rows and keys -/
theorem order_zero : ∀ {xs ys : List V}, (∀ x ∈ xs, Scal x) → (∀ y ∈ ys, Scal y) → (orderV xs ys = 0 ↔ xs = ys)
  | [], [], _, _ => by simp [orderV]
  | [], y :: ys, _, _ => by simp [orderV]
  | x :: xs, [], _, _ => by simp [orderV]
  | x :: xs, y :: ys, hx, hy => by
    have sx := hx x List.mem_cons_self
    have sy := hy y List.mem_cons_self
    have ih := order_zero (xs := xs) (ys := ys) (fun v m => hx v (List.mem_cons_of_mem _ m)) fun v m => hy v (List.mem_cons_of_mem _ m)
    rw [order_cons]
    rcases first_tot sx sy with h | h | h
    · rw [if_pos h]
      refine ⟨fun z => absurd z (by decide), fun z => ?_⟩
      have e := (List.cons.inj z).1
      subst e
      rw [first_irr sx] at h
      exact absurd h Bool.false_ne_true
    · subst h
      rw [first_irr sx, if_neg Bool.false_ne_true, if_neg Bool.false_ne_true, ih]
      exact ⟨fun z => by rw [z], fun z => (List.cons.inj z).2⟩
    · have h2 := first_asym sy sx h
      rw [h2, if_neg Bool.false_ne_true, if_pos h]
      refine ⟨fun z => absurd z (by decide), fun z => ?_⟩
      have e := (List.cons.inj z).1
      subst e
      rw [first_irr sx] at h
      exact absurd h Bool.false_ne_true
theorem rlt_tot : ∀ {xs ys : List V}, (∀ x ∈ xs, Scal x) → (∀ y ∈ ys, Scal y) → Rlt xs ys ∨ xs = ys ∨ Rlt ys xs
  | [], [], _, _ => .inr (.inl rfl)
  | [], y :: ys, _, _ => .inl (by unfold Rlt orderV; decide)
  | x :: xs, [], _, _ => .inr (.inr (by unfold Rlt orderV; decide))
  | x :: xs, y :: ys, hx, hy => by
    have sx := hx x List.mem_cons_self
    have sy := hy y List.mem_cons_self
    rw [rlt_cons sx sy, rlt_cons sy sx]
    rcases first_tot sx sy with h | h | h
    · exact .inl (.inl h)
    · subst h
      rcases rlt_tot (xs := xs) (ys := ys) (fun v m => hx v (List.mem_cons_of_mem _ m)) fun v m => hy v (List.mem_cons_of_mem _ m) with h | h | h
      · exact .inl (.inr ⟨rfl, h⟩)
      · exact .inr (.inl (by rw [h]))
      · exact .inr (.inr (.inr ⟨rfl, h⟩))
    · exact .inr (.inr (.inl h))
theorem rlt_asym {xs ys : List V} (hx : ∀ x ∈ xs, Scal x) (hy : ∀ y ∈ ys, Scal y) (h : Rlt xs ys) (g : Rlt ys xs) : False := rlt_irr hx (rlt_trans hx hy hx h g)
abbrev Kt := Int × Str × List V × List V
def tOrd (a b : Kt) : Int := keyOrd a.1 a.2.1 a.2.2.1 b.1 b.2.1 b.2.2.1
def tLt (a b : Kt) : Prop := tOrd a b < 0
instance (a b : Kt) : Decidable (tLt a b) := inferInstanceAs (Decidable (_ < _))
def tEq (a b : Kt) : Prop := a.1 = b.1 ∧ a.2.1 = b.2.1 ∧ a.2.2.1 = b.2.2.1
def tSc (a : Kt) : Prop := ∀ x ∈ a.2.2.1, Scal x
theorem key_e (s s' : Int) (n n' : Str) (xs ys : List V) : keyOrd s n xs s' n' ys = if s = s' then (if n = n' then orderV xs ys else if n.cps.toList < n'.cps.toList then -1 else 1) else if s < s' then -1 else 1 := by
  have e2 : PyData.eqv (kd2 s n) (kd2 s' n') = ((s == s') && (n == n')) := by
    unfold kd2
    rw [eqv_tup, eqv_cons, eqv_cons, eqv_nil, eqv_int, eqv_str, Bool.and_true]
  have l2 : ltD 1 (kd2 s n) (kd2 s' n') = if (s == s') = true then (if (n == n') = true then false else decide (n.cps.toList < n'.cps.toList)) else decide (s < s') := by
    simp only [kd2, ltD, ltL, eqv_int, eqv_str]
  unfold keyOrd
  rw [e2, l2]
  by_cases h : s = s'
  · by_cases g : n = n'
    · simp [h, g]
    · simp [h, g]
  · simp [h]
theorem tLt_iff (a b : Kt) : tLt a b ↔ a.1 < b.1 ∨ (a.1 = b.1 ∧ (a.2.1.cps.toList < b.2.1.cps.toList ∨ (a.2.1 = b.2.1 ∧ Rlt a.2.2.1 b.2.2.1))) := by
  unfold tLt tOrd
  rw [key_e]
  by_cases h : a.1 = b.1
  · rw [if_pos h]
    by_cases g : a.2.1 = b.2.1
    · rw [if_pos g]
      refine ⟨fun z => .inr ⟨h, .inr ⟨g, z⟩⟩, fun z => ?_⟩
      rcases z with z | ⟨_, z | ⟨_, z⟩⟩
      · omega
      · rw [g] at z; exact absurd z (List.lt_irrefl _)
      · exact z
    · rw [if_neg g]
      by_cases c : a.2.1.cps.toList < b.2.1.cps.toList
      · rw [if_pos c]
        exact ⟨fun _ => .inr ⟨h, .inl c⟩, fun _ => by decide⟩
      · rw [if_neg c]
        refine ⟨fun z => absurd z (by decide), fun z => ?_⟩
        rcases z with z | ⟨_, z | ⟨z, _⟩⟩
        · omega
        · exact absurd z c
        · exact absurd z g
  · rw [if_neg h]
    by_cases c : a.1 < b.1
    · rw [if_pos c]
      exact ⟨fun _ => .inl c, fun _ => by decide⟩
    · rw [if_neg c]
      exact ⟨fun z => absurd z (by decide), fun z => z.elim (fun w => absurd w c) fun w => absurd w.1 h⟩
theorem tOrd_zero {a b : Kt} (sa : tSc a) (sb : tSc b) : tOrd a b = 0 ↔ tEq a b := by
  unfold tOrd tEq
  rw [key_e]
  by_cases h : a.1 = b.1
  · rw [if_pos h]
    by_cases g : a.2.1 = b.2.1
    · rw [if_pos g, order_zero sa sb]
      exact ⟨fun z => ⟨h, g, z⟩, fun z => z.2.2⟩
    · rw [if_neg g]
      refine ⟨fun z => ?_, fun z => absurd z.2.1 g⟩
      split at z <;> cases z
  · rw [if_neg h]
    refine ⟨fun z => ?_, fun z => absurd z.1 h⟩
    split at z <;> cases z
theorem tLt_tot {a b : Kt} (sa : tSc a) (sb : tSc b) : tLt a b ∨ tEq a b ∨ tLt b a := by
  rw [tLt_iff, tLt_iff]
  unfold tEq
  rcases Int.lt_trichotomy a.1 b.1 with h | h | h
  · exact .inl (.inl h)
  · rcases str_tot a.2.1 b.2.1 with g | g | g
    · exact .inl (.inr ⟨h, .inl g⟩)
    · rcases rlt_tot sa sb with c | c | c
      · exact .inl (.inr ⟨h, .inr ⟨g, c⟩⟩)
      · exact .inr (.inl ⟨h, g, c⟩)
      · exact .inr (.inr (.inr ⟨h.symm, .inr ⟨g.symm, c⟩⟩))
    · exact .inr (.inr (.inr ⟨h.symm, .inl g⟩))
  · exact .inr (.inr (.inl h))
theorem tLt_trans {a b c : Kt} (sa : tSc a) (sb : tSc b) (sc : tSc c) (h : tLt a b) (g : tLt b c) : tLt a c := by
  rw [tLt_iff] at *
  rcases h with h | ⟨h, h2⟩ <;> rcases g with g | ⟨g, g2⟩
  · exact .inl (by omega)
  · exact .inl (by omega)
  · exact .inl (by omega)
  · refine .inr ⟨by omega, ?_⟩
    rcases h2 with h2 | ⟨h2, h3⟩ <;> rcases g2 with g2 | ⟨g2, g3⟩
    · exact .inl (List.lt_trans h2 g2)
    · exact .inl (by rw [← g2]; exact h2)
    · exact .inl (by rw [h2]; exact g2)
    · exact .inr ⟨h2.trans g2, rlt_trans sa sb sc h3 g3⟩
theorem tLt_irr {a : Kt} (sa : tSc a) (h : tLt a a) : False := by
  rw [tLt_iff] at h
  rcases h with h | ⟨_, h | ⟨_, h⟩⟩
  · omega
  · exact List.lt_irrefl _ h
  · exact rlt_irr sa h
theorem tLt_asym {a b : Kt} (sa : tSc a) (sb : tSc b) (h : tLt a b) (g : tLt b a) : False := tLt_irr sa (tLt_trans sa sb sa h g)
theorem tEq_lt {a b : Kt} (sb : tSc b) (h : tEq a b) (g : tLt a b) : False := by
  rw [tLt_iff, h.1, h.2.1, h.2.2] at g
  rcases g with g | ⟨_, g | ⟨_, g⟩⟩
  · omega
  · exact List.lt_irrefl _ g
  · exact rlt_irr sb g
/-- two lists in strict order with the same members are one -/
theorem srt_uniq {α : Type} {lt : α → α → Prop} : ∀ {xs ys : List α}, xs.Pairwise lt → ys.Pairwise lt → (∀ x ∈ xs, ∀ y ∈ xs, lt x y → lt y x → False) → (∀ x, x ∈ xs ↔ x ∈ ys) → xs = ys
  | [], [], _, _, _, _ => rfl
  | [], y :: ys, _, _, _, h => absurd ((h y).mpr List.mem_cons_self) (by simp)
  | x :: xs, [], _, _, _, h => absurd ((h x).mp List.mem_cons_self) (by simp)
  | x :: xs, y :: ys, px, py, as, h => by
    rw [List.pairwise_cons] at px py
    have e : x = y := by
      rcases List.mem_cons.mp ((h x).mp List.mem_cons_self) with e | mx
      · exact e
      · rcases List.mem_cons.mp ((h y).mpr List.mem_cons_self) with e | my
        · exact e.symm
        · exact (as x List.mem_cons_self y (List.mem_cons_of_mem _ my) (px.1 y my) (py.1 x mx)).elim
    subst e
    have nx : x ∉ xs := fun m => as x List.mem_cons_self x List.mem_cons_self (px.1 x m) (px.1 x m)
    have ny : x ∉ ys := fun m => as x List.mem_cons_self x List.mem_cons_self (py.1 x m) (py.1 x m)
    rw [srt_uniq px.2 py.2 (fun a ma b mb => as a (List.mem_cons_of_mem _ ma) b (List.mem_cons_of_mem _ mb)) fun z => ?_]
    have hz := h z
    rw [List.mem_cons, List.mem_cons] at hz
    refine ⟨fun m => ?_, fun m => ?_⟩
    · rcases hz.mp (.inr m) with e | w
      · subst e; exact absurd m nx
      · exact w
    · rcases hz.mpr (.inr m) with e | w
      · subst e; exact absurd m ny
      · exact w
/-! items and their keys -/
def ier : It → Kt
  | .rel n c => (0, n, [], c)
  | .fact n _ row => (1, n, row, [])
  | .str n c => (2, n, [], c)
  | .lay n v => (3, n, [], [v])
abbrev Its := List (Addr × It)
def te (t : Addr × It) : Kt := ier t.2
def ScI (os : Its) : Prop := ∀ t ∈ os, tSc (te t)
def KSrt (os : Its) : Prop := os.Pairwise fun a b => tLt (te a) (te b)
/-- an item is placed among items in their order -/
def plc (os : Its) (t : Addr × It) : Its :=
  (os.filter fun u => decide (tOrd (te u) (te t) ≠ 0)).take (os.countP fun u => decide (tOrd (te u) (te t) < 0)) ++ [t] ++ (os.filter fun u => decide (tOrd (te u) (te t) ≠ 0)).drop (os.countP fun u => decide (tOrd (te u) (te t) < 0))
theorem plc_mem {os : Its} {t u : Addr × It} (so : ScI os) (st : tSc (te t)) : u ∈ plc os t ↔ u = t ∨ (u ∈ os ∧ ¬ tEq (te u) (te t)) := by
  unfold plc
  rw [List.append_assoc, List.mem_append, List.mem_append, List.mem_singleton]
  have h : u ∈ (os.filter fun u => decide (tOrd (te u) (te t) ≠ 0)) ↔ u ∈ os ∧ ¬ tEq (te u) (te t) := by
    rw [List.mem_filter, decide_eq_true_iff]
    refine ⟨fun z => ⟨z.1, fun w => z.2 ((tOrd_zero (so u z.1) st).mpr w)⟩, fun z => ⟨z.1, fun w => z.2 ((tOrd_zero (so u z.1) st).mp w)⟩⟩
  have g := (List.take_append_drop (os.countP fun u => decide (tOrd (te u) (te t) < 0)) (os.filter fun u => decide (tOrd (te u) (te t) ≠ 0)))
  rw [← h]
  generalize (os.filter fun u => decide (tOrd (te u) (te t) ≠ 0)) = fs at *
  have g2 : u ∈ fs ↔ u ∈ fs.take (os.countP fun u => decide (tOrd (te u) (te t) < 0)) ∨ u ∈ fs.drop (os.countP fun u => decide (tOrd (te u) (te t) < 0)) := by
    rw [← List.mem_append, g]
  rw [g2]
  refine ⟨fun z => ?_, fun z => ?_⟩
  · rcases z with z | z | z
    · exact .inr (.inl z)
    · exact .inl z
    · exact .inr (.inr z)
  · rcases z with z | z | z
    · exact .inr (.inl z)
    · exact .inl z
    · exact .inr (.inr z)
theorem plc_cut : ∀ {os : Its} {t : Addr × It}, KSrt os → ScI os → tSc (te t) →
    (∀ u ∈ (os.filter fun u => decide (tOrd (te u) (te t) ≠ 0)).take (os.countP fun u => decide (tOrd (te u) (te t) < 0)), tLt (te u) (te t)) ∧
    ∀ u ∈ (os.filter fun u => decide (tOrd (te u) (te t) ≠ 0)).drop (os.countP fun u => decide (tOrd (te u) (te t) < 0)), tLt (te t) (te u)
  | [], t, _, _, _ => by simp
  | y :: ys, t, ks, so, st => by
    have ks' := List.pairwise_cons.mp ks
    have so' : ScI ys := fun u m => so u (List.mem_cons_of_mem _ m)
    have sy := so y List.mem_cons_self
    by_cases h : tLt (te y) (te t)
    · have h0 : tOrd (te y) (te t) ≠ 0 := fun z => tEq_lt st ((tOrd_zero sy st).mp z) h
      have ih := plc_cut (os := ys) (t := t) ks'.2 so' st
      rw [List.filter_cons, if_pos (decide_eq_true h0), List.countP_cons, if_pos (decide_eq_true (show tOrd (te y) (te t) < 0 from h)), List.take_succ_cons, List.drop_succ_cons]
      refine ⟨fun u m => ?_, ih.2⟩
      rcases List.mem_cons.mp m with e | m
      · rw [e]; exact h
      · exact ih.1 u m
    · have c0 : (y :: ys).countP (fun u => decide (tOrd (te u) (te t) < 0)) = 0 := by
        rw [List.countP_eq_zero]
        intro u m z
        have z' : tLt (te u) (te t) := of_decide_eq_true z
        rcases List.mem_cons.mp m with e | m
        · rw [e] at z'; exact h z'
        · exact h (tLt_trans sy (so' u m) st (ks'.1 u m) z')
      rw [c0, List.take_zero, List.drop_zero]
      refine ⟨(fun _ m => by cases m), fun u m => ?_⟩
      rw [List.mem_filter, decide_eq_true_iff] at m
      have su := so u m.1
      rcases tLt_tot su st with c | c | c
      · rcases List.mem_cons.mp m.1 with e | m1
        · rw [e] at c; exact absurd c h
        · exact absurd (tLt_trans sy su st (ks'.1 u m1) c) h
      · exact absurd ((tOrd_zero su st).mpr c) m.2
      · exact c
theorem plc_srt {os : Its} {t : Addr × It} (ks : KSrt os) (so : ScI os) (st : tSc (te t)) : KSrt (plc os t) := by
  have h := plc_cut ks so st
  have pf : KSrt (os.filter fun u => decide (tOrd (te u) (te t) ≠ 0)) := List.Pairwise.filter _ ks
  have sf : ScI (os.filter fun u => decide (tOrd (te u) (te t) ≠ 0)) := fun u m => so u (List.mem_filter.mp m).1
  unfold plc
  generalize (os.filter fun u => decide (tOrd (te u) (te t) ≠ 0)) = fs at *
  generalize (os.countP fun u => decide (tOrd (te u) (te t) < 0)) = k at *
  unfold KSrt
  rw [List.append_assoc, List.pairwise_append]
  refine ⟨List.Pairwise.sublist (List.take_sublist _ _) pf, ?_, fun a ma b mb => ?_⟩
  · rw [List.singleton_append, List.pairwise_cons]
    exact ⟨h.2, List.Pairwise.sublist (List.drop_sublist _ _) pf⟩
  · rw [List.singleton_append] at mb
    rcases List.mem_cons.mp mb with e | mb
    · rw [e]; exact h.1 a ma
    · exact tLt_trans (sf a (List.mem_of_mem_take ma)) st (sf b (List.mem_of_mem_drop mb)) (h.1 a ma) (h.2 b mb)
def plcAll (its : Its) : Its := its.foldl plc []
theorem plcAll_snoc (its : Its) (t : Addr × It) : plcAll (its ++ [t]) = plc (plcAll its) t := by
  unfold plcAll
  rw [List.foldl_append]
  rfl
theorem plc_len (os : Its) (t : Addr × It) : (plc os t).length ≤ os.length + 1 := by
  unfold plc
  rw [List.append_assoc, List.length_append, List.length_append, List.length_take, List.length_drop]
  have := List.length_filter_le (fun u => decide (tOrd (te u) (te t) ≠ 0)) os
  show _ + (1 + _) ≤ _
  omega
theorem snoc_ind {α : Type} {P : List α → Prop} (h0 : P []) (hs : ∀ xs x, P xs → P (xs ++ [x])) (xs : List α) : P xs := by
  have h1 : ∀ ys : List α, P ys.reverse := fun ys => by
    induction ys with
    | nil => exact h0
    | cons y ys ih =>
      rw [List.reverse_cons]
      exact hs _ _ ih
  have h2 := h1 xs.reverse
  rw [List.reverse_reverse] at h2
  exact h2
theorem plcAll_ok : ∀ (its : Its), ScI its → KSrt (plcAll its) ∧ ScI (plcAll its) ∧ (plcAll its).length ≤ its.length ∧ ∀ u ∈ plcAll its, u ∈ its := by
  intro its
  refine snoc_ind (P := fun its => ScI its → KSrt (plcAll its) ∧ ScI (plcAll its) ∧ (plcAll its).length ≤ its.length ∧ ∀ u ∈ plcAll its, u ∈ its) (fun _ => ⟨.nil, (fun _ m => by cases m), Nat.le_refl _, fun _ m => by cases m⟩) (fun its t ih => ?_) its
  · intro so
    have so' : ScI its := fun u m => so u (List.mem_append_left _ m)
    have st : tSc (te t) := so t (List.mem_append_right _ (List.mem_singleton.mpr rfl))
    obtain ⟨k1, k2, k3, k4⟩ := ih so'
    rw [plcAll_snoc]
    refine ⟨plc_srt k1 k2 st, fun u m => ?_, ?_, fun u m => ?_⟩
    · rcases (plc_mem k2 st).mp m with e | ⟨m, _⟩
      · rw [e]; exact st
      · exact k2 u m
    · have := plc_len (plcAll its) t
      rw [List.length_append]
      show _ ≤ its.length + 1
      omega
    · rcases (plc_mem k2 st).mp m with e | ⟨m, _⟩
      · rw [e]; exact List.mem_append_right _ (List.mem_singleton.mpr rfl)
      · exact List.mem_append_left _ (k4 u m)
end K1
namespace K1
open PySem PySem.Spec PyProof.Rows L2 Ow Tlz
theorem valG_put {β : Type} (l : List (Str × β)) (k : Str) (b : β) (m : Str) : valG (putG l k b) m = if m = k then some b else valG l m := by
  unfold putG
  rw [any_val]
  cases e : valG l k with
  | none =>
    rw [if_neg (by simp)]
    unfold valG
    rw [List.find?_append]
    by_cases h : m = k
    · subst h
      rw [if_pos rfl]
      have : l.find? (fun e => decide (e.1 = m)) = none := by
        unfold valG at e
        cases z : l.find? (fun e => decide (e.1 = m)) with
        | none => rfl
        | some x => rw [z] at e; cases e
      rw [this]
      simp
    · rw [if_neg h]
      have : [(k, b)].find? (fun e => decide (e.1 = m)) = none := by
        rw [List.find?_cons, decide_eq_false (fun z => h z.symm)]
        rfl
      rw [this, Option.or_none]
  | some a =>
    rw [if_pos (show (some a).isSome = true from rfl)]
    unfold valG
    rw [List.find?_map]
    have ef : ((fun e : Str × β => decide (e.1 = m)) ∘ fun e => if e.1 = k then (e.1, b) else e) = fun e => decide (e.1 = m) := by
      funext e
      show decide ((if e.1 = k then (e.1, b) else e).1 = m) = _
      split <;> rfl
    rw [ef]
    by_cases h : m = k
    · subst h
      rw [if_pos rfl]
      unfold valG at e
      cases z : l.find? (fun e => decide (e.1 = m)) with
      | none => rw [z] at e; cases e
      | some x =>
        have hx0 := List.find?_some z
        have hx : x.1 = m := of_decide_eq_true hx0
        show some (if x.1 = m then (x.1, b) else x).2 = _
        rw [if_pos hx]
    · rw [if_neg h]
      cases z : l.find? (fun e => decide (e.1 = m)) with
      | none => rfl
      | some x =>
        have hx0 := List.find?_some z
        have hx : x.1 = m := of_decide_eq_true hx0
        show some (if x.1 = k then (x.1, b) else x).2 = some x.2
        rw [if_neg (fun w => h (hx.symm.trans w))]
theorem valG_key {β : Type} {l : List (Str × β)} {n : Str} : n ∈ l.map (·.1) ↔ (valG l n).isSome = true := by
  constructor
  · intro h
    cases e : valG l n with
    | none =>
      obtain ⟨x, mx, ex⟩ := List.mem_map.mp h
      exact absurd ex (valG_none e x mx)
    | some b => rfl
  · intro h
    cases e : valG l n with
    | none => rw [e] at h; cases h
    | some b => exact List.mem_map.mpr ⟨_, valG_mem e, rfl⟩
theorem valG_map {β γ : Type} (g : β → γ) (l : List (Str × β)) (n : Str) : valG (l.map fun e => (e.1, g e.2)) n = (valG l n).map g := by
  unfold valG
  rw [List.find?_map]
  cases z : l.find? (fun e => decide (e.1 = n)) with
  | none =>
    rw [show ((fun e : Str × γ => decide (e.1 = n)) ∘ fun e : Str × β => (e.1, g e.2)) = fun e => decide (e.1 = n) from rfl, z]
    rfl
  | some x =>
    rw [show ((fun e : Str × γ => decide (e.1 = n)) ∘ fun e : Str × β => (e.1, g e.2)) = fun e => decide (e.1 = n) from rfl, z]
    rfl
theorem keys_len {β γ : Type} {l : List (Str × β)} {l' : List (Str × γ)} (n1 : (l.map (·.1)).Nodup) (n2 : (l'.map (·.1)).Nodup) (h : ∀ n, (valG l n).isSome = (valG l' n).isSome) : l.length = l'.length := by
  have p : (l.map (·.1)).Perm (l'.map (·.1)) := (List.perm_ext_iff_of_nodup n1 n2).mpr fun n => by rw [valG_key, valG_key, h]
  have := p.length_eq
  rw [List.length_map, List.length_map] at this
  exact this
/-! what tables have -/
def Has (os : Its) (i : It) : Prop := ∃ a, (a, i) ∈ os
def SrtS (rs : List (Addr × List V)) : Prop := Srt rs ∧ ∀ t ∈ rs, ∀ x ∈ t.2, Scal x
structure Rep (os : Its) (R : Tb) (F : Fb) (S : Tb) (L : List (Str × V)) : Prop where
  r : ∀ n c, (∃ q, valG R n = some (q, c)) ↔ Has os (.rel n c)
  s : ∀ n c, (∃ q, valG S n = some (q, c)) ↔ Has os (.str n c)
  l : ∀ n v, valG L n = some v ↔ Has os (.lay n v)
  f : ∀ n row, (∃ q rs, valG F n = some (q, rs) ∧ ∃ r, (r, row) ∈ rs) ↔ ∃ r, Has os (.fact n r row)
  fn : ∀ n, (valG F n).isSome = true ↔ (∃ c, Has os (.rel n c)) ∨ ∃ r row, Has os (.fact n r row)
  fs : ∀ n q rs, valG F n = some (q, rs) → SrtS rs
  rn : (R.map (·.1)).Nodup
  sn : (S.map (·.1)).Nodup
  ln : (L.map (·.1)).Nodup
  fd : (F.map (·.1)).Nodup
theorem Rep.nil : Rep [] [] [] [] [] := by
  refine ⟨fun n c => ?_, fun n c => ?_, fun n v => ?_, fun n row => ?_, fun n => ?_, (fun n q rs h => by cases h), .nil, .nil, .nil, .nil⟩
  · exact ⟨fun ⟨q, h⟩ => (by cases h), fun ⟨a, h⟩ => by cases h⟩
  · exact ⟨fun ⟨q, h⟩ => (by cases h), fun ⟨a, h⟩ => by cases h⟩
  · exact ⟨fun h => (by cases h), fun ⟨a, h⟩ => by cases h⟩
  · exact ⟨fun ⟨q, rs, h, _⟩ => (by cases h), fun ⟨r, a, h⟩ => by cases h⟩
  · exact ⟨fun h => (by cases h), fun h => by rcases h with ⟨c, a, h⟩ | ⟨r, row, a, h⟩ <;> cases h⟩
theorem place_srt {rs : List (Addr × List V)} {row : List V} {r : Addr} {k : Nat} (h : SrtS rs) (sr : ∀ x ∈ row, Scal x) (lk : k ≤ rs.length) (pl : Place rs row k) (nk : ∀ t, rs[k]? = some t → t.2 ≠ row) :
    SrtS (rs.take k ++ [(r, row)] ++ rs.drop k) := by
  have bef : ∀ t ∈ rs.take k, Rlt t.2 row := fun t m => by
    obtain ⟨j, hj, e⟩ := List.mem_iff_getElem.mp m
    rw [List.length_take] at hj
    rw [List.getElem_take] at e
    exact pl.1 j t (by omega) (by rw [← e]; exact List.getElem?_eq_getElem (by omega))
  have aft : ∀ t ∈ rs.drop k, Rlt row t.2 := fun t m => by
    obtain ⟨j, hj, e⟩ := List.mem_iff_getElem.mp m
    rw [List.length_drop] at hj
    rw [List.getElem_drop] at e
    have et : rs[k + j]? = some t := by rw [← e]; exact List.getElem?_eq_getElem (by omega)
    have lk2 : k < rs.length := by omega
    have ek : rs[k]? = some rs[k] := List.getElem?_eq_getElem lk2
    have s0 := h.2 rs[k] (List.getElem_mem lk2)
    have h0 : Rlt row rs[k].2 := by
      rcases rlt_tot sr s0 with c | c | c
      · exact c
      · exact absurd c.symm (nk _ ek)
      · exact absurd c (pl.2 k _ (Nat.le_refl _) ek)
    by_cases hj0 : j = 0
    · subst hj0
      rw [Nat.add_zero, ek] at et
      rw [← Option.some.inj et]
      exact h0
    · exact rlt_trans sr s0 (h.2 t (List.mem_of_getElem? et)) h0 (srt_lt h.1 ek et (by omega))
  refine ⟨?_, fun t m => ?_⟩
  · unfold Srt
    rw [List.append_assoc, List.pairwise_append]
    refine ⟨List.Pairwise.sublist (List.take_sublist _ _) h.1, ?_, fun a ma b mb => ?_⟩
    · rw [List.singleton_append, List.pairwise_cons]
      exact ⟨aft, List.Pairwise.sublist (List.drop_sublist _ _) h.1⟩
    · rw [List.singleton_append] at mb
      rcases List.mem_cons.mp mb with e | mb
      · rw [e]; exact bef a ma
      · exact rlt_trans (h.2 a (List.mem_of_mem_take ma)) sr (h.2 b (List.mem_of_mem_drop mb)) (bef a ma) (aft b mb)
  · rw [List.append_assoc, List.mem_append, List.mem_append, List.mem_singleton] at m
    rcases m with m | m | m
    · exact h.2 t (List.mem_of_mem_take m)
    · rw [m]; exact sr
    · exact h.2 t (List.mem_of_mem_drop m)
theorem mem_cut {α : Type} {rs : List α} {x y : α} {k : Nat} : y ∈ rs.take k ++ [x] ++ rs.drop k ↔ y = x ∨ y ∈ rs := by
  have h : y ∈ rs ↔ y ∈ rs.take k ∨ y ∈ rs.drop k := by rw [← List.mem_append, List.take_append_drop]
  rw [List.append_assoc, List.mem_append, List.mem_append, List.mem_singleton, h]
  exact ⟨fun z => z.elim (fun w => .inr (.inl w)) fun w => w.elim .inl fun v => .inr (.inr v), fun z => z.elim (fun w => .inr (.inl w)) fun w => w.elim .inl fun v => .inr (.inr v)⟩
/-- what a put fact changes in the table of facts -/
theorem putF_rep {F F' : Fb} {n : Str} {r : Addr} {row : List V} (h : PutF F n r row F') (fs : ∀ m q rs, valG F m = some (q, rs) → SrtS rs) (fd : (F.map (·.1)).Nodup) (sr : ∀ x ∈ row, Scal x) :
    (∀ m row', (∃ q rs, valG F' m = some (q, rs) ∧ ∃ r, (r, row') ∈ rs) ↔ (m = n ∧ row' = row) ∨ ∃ q rs, valG F m = some (q, rs) ∧ ∃ r, (r, row') ∈ rs) ∧
    (∀ m, (valG F' m).isSome = true ↔ m = n ∨ (valG F m).isSome = true) ∧ (∀ m q rs, valG F' m = some (q, rs) → SrtS rs) ∧ (F'.map (·.1)).Nodup := by
  obtain ⟨q, rs, F1, k, how, lk, pl, h2⟩ := h
  -- the name is there
  have h1 : valG F1 n = some (q, rs) ∧ (∀ m, m ≠ n → valG F1 m = valG F m) ∧ (∀ row', (∃ q rs, valG F n = some (q, rs) ∧ ∃ r, (r, row') ∈ rs) ↔ ∃ r, (r, row') ∈ rs) ∧ SrtS rs ∧ (F1.map (·.1)).Nodup := by
    rcases how with ⟨e, ev⟩ | ⟨ev, e, e1⟩
    · subst e
      refine ⟨ev, fun _ _ => rfl, fun row' => ⟨fun ⟨q', rs', e', w⟩ => ?_, fun w => ⟨q, rs, ev, w⟩⟩, fs _ _ _ ev, fd⟩
      rw [ev] at e'
      cases e'
      exact w
    · subst e e1
      rw [← putG_new (q, ([] : List (Addr × List V))) ev]
      refine ⟨by rw [valG_put, if_pos rfl], fun m hm => by rw [valG_put, if_neg hm], fun row' => ⟨fun ⟨q', rs', e', w⟩ => ?_, fun ⟨r, w⟩ => by cases w⟩, ⟨.nil, (fun _ m => by cases m)⟩, putG_nodup fd⟩
      rw [ev] at e'
      cases e'
  obtain ⟨hv, ho, hm, hs, hd⟩ := h1
  rcases h2 with ⟨e, t, et, er⟩ | ⟨e, nk⟩
  · subst e
    refine ⟨fun m row' => ?_, fun m => ?_, fun m q' rs' ev => ?_, hd⟩
    · by_cases c : m = n
      · subst c
        rw [hm]
        refine ⟨fun ⟨q', rs', e', w⟩ => ?_, fun w => ?_⟩
        · rw [hv] at e'
          cases e'
          exact .inr w
        · refine ⟨q, rs, hv, ?_⟩
          rcases w with ⟨_, w⟩ | w
          · rw [w, ← er]
            exact ⟨t.1, List.mem_of_getElem? et⟩
          · exact w
      · rw [ho m c]
        exact ⟨.inr, fun w => w.elim (fun z => absurd z.1 c) id⟩
    · by_cases c : m = n
      · subst c
        rw [hv]
        exact ⟨fun _ => .inl rfl, fun _ => rfl⟩
      · rw [ho m c]
        exact ⟨.inr, fun w => w.elim (fun z => absurd z c) id⟩
    · by_cases c : m = n
      · subst c
        rw [hv] at ev
        cases ev
        exact hs
      · rw [ho m c] at ev
        exact fs _ _ _ ev
  · subst e
    have ps := place_srt (r := r) hs sr lk (pl hs.1) nk
    refine ⟨fun m row' => ?_, fun m => ?_, fun m q' rs' ev => ?_, putG_nodup hd⟩
    · rw [valG_put]
      by_cases c : m = n
      · subst c
        rw [if_pos rfl, hm]
        refine ⟨fun ⟨q', rs', e', r', w⟩ => ?_, fun w => ⟨_, _, rfl, ?_⟩⟩
        · cases e'
          rcases mem_cut.mp w with w | w
          · exact .inl ⟨rfl, congrArg Prod.snd w⟩
          · exact .inr ⟨_, w⟩
        · rcases w with ⟨_, w⟩ | ⟨r', w⟩
          · rw [w]
            exact ⟨r, mem_cut.mpr (.inl rfl)⟩
          · exact ⟨r', mem_cut.mpr (.inr w)⟩
      · rw [if_neg c, ho m c]
        exact ⟨.inr, fun w => w.elim (fun z => absurd z.1 c) id⟩
    · rw [valG_put]
      by_cases c : m = n
      · rw [if_pos c]
        exact ⟨fun _ => .inl c, fun _ => rfl⟩
      · rw [if_neg c, ho m c]
        exact ⟨.inr, fun w => w.elim (fun z => absurd z c) id⟩
    · rw [valG_put] at ev
      by_cases c : m = n
      · rw [if_pos c] at ev
        cases ev
        exact ps
      · rw [if_neg c, ho m c] at ev
        exact fs _ _ _ ev
theorem eq_rel {n m : Str} {c c' : List V} : tEq (ier (.rel n c)) (ier (.rel m c')) ↔ n = m := ⟨fun h => h.2.1, fun h => ⟨rfl, h, rfl⟩⟩
theorem eq_str {n m : Str} {c c' : List V} : tEq (ier (.str n c)) (ier (.str m c')) ↔ n = m := ⟨fun h => h.2.1, fun h => ⟨rfl, h, rfl⟩⟩
theorem eq_lay {n m : Str} {c c' : V} : tEq (ier (.lay n c)) (ier (.lay m c')) ↔ n = m := ⟨fun h => h.2.1, fun h => ⟨rfl, h, rfl⟩⟩
theorem eq_fact {n m : Str} {r r' : Addr} {c c' : List V} : tEq (ier (.fact n r c)) (ier (.fact m r' c')) ↔ n = m ∧ c = c' := ⟨fun h => h.2, fun h => ⟨rfl, h⟩⟩
/-- an item that is placed, and what the items have then -/
theorem has_plc {os : Its} {t : Addr × It} (so : ScI os) (st : tSc (te t)) (i : It) : Has (plc os t) i ↔ i = t.2 ∨ (Has os i ∧ ¬ tEq (ier i) (te t)) := by
  unfold Has
  constructor
  · rintro ⟨a, m⟩
    rcases (plc_mem so st).mp m with e | ⟨m, ne⟩
    · exact .inl (by rw [← e])
    · exact .inr ⟨⟨a, m⟩, ne⟩
  · rintro (e | ⟨⟨a, m⟩, ne⟩)
    · exact ⟨t.1, (plc_mem so st).mpr (.inl (by rw [e]))⟩
    · exact ⟨a, (plc_mem so st).mpr (.inr ⟨m, ne⟩)⟩
theorem sort_ne {i : It} {t : Addr × It} (h : (ier i).1 ≠ (te t).1) (os : Its) : (i = t.2 ∨ (Has os i ∧ ¬ tEq (ier i) (te t))) ↔ Has os i :=
  ⟨fun z => z.elim (fun e => absurd (by rw [e]; rfl) h) (·.1), fun z => .inr ⟨z, fun w => h w.1⟩⟩
theorem tab_put {T : Tb} {n : Str} {q : Addr} {c : List V} {P : Str → List V → Prop} (h : ∀ m c', (∃ q, valG T m = some (q, c')) ↔ P m c') (m : Str) (c' : List V) :
    (∃ q', valG (putG T n (q, c)) m = some (q', c')) ↔ (m = n ∧ c' = c) ∨ (P m c' ∧ ¬ m = n) := by
  rw [valG_put]
  by_cases e : m = n
  · rw [if_pos e]
    exact ⟨fun ⟨q', z⟩ => .inl ⟨e, by cases z; rfl⟩, fun z => z.elim (fun w => ⟨q, by rw [w.2]⟩) fun w => absurd e w.2⟩
  · rw [if_neg e, h]
    exact ⟨fun z => .inr ⟨z, e⟩, fun z => z.elim (fun w => absurd w.1 e) (·.1)⟩
theorem Rep.put {os : Its} {t : Addr × It} {R R' S S' : Tb} {F F' : Fb} {L L' : List (Str × V)} (h : Rep os R F S L) (p : PutI R F S L t.2 R' F' S' L') (so : ScI os) (st : tSc (te t)) : Rep (plc os t) R' F' S' L' := by
  obtain ⟨hr, hs, hl, hf, hfn, hfs, rn, sn, ln, fd⟩ := h
  have hp := has_plc so st
  obtain ⟨a, i⟩ := t
  cases i with
  | rel n c =>
    obtain ⟨⟨q, e1⟩, h2, e3, e4⟩ := p
    subst e1 e3 e4
    have hF : (∀ m row, (∃ q rs, valG F' m = some (q, rs) ∧ ∃ r, (r, row) ∈ rs) ↔ ∃ q rs, valG F m = some (q, rs) ∧ ∃ r, (r, row) ∈ rs) ∧ (∀ m, (valG F' m).isSome = true ↔ m = n ∨ (valG F m).isSome = true) ∧ (∀ m q rs, valG F' m = some (q, rs) → SrtS rs) ∧ (F'.map (·.1)).Nodup := by
      rcases h2 with ⟨sm, e⟩ | ⟨q', ev, e⟩
      · subst e
        exact ⟨fun _ _ => Iff.rfl, fun m => ⟨.inr, fun z => z.elim (fun w => by rw [w]; exact sm) id⟩, hfs, fd⟩
      · subst e
        rw [← putG_new (q', ([] : List (Addr × List V))) ev]
        refine ⟨fun m row => ?_, fun m => ?_, fun m q2 rs2 e2 => ?_, putG_nodup fd⟩
        · rw [valG_put]
          by_cases c : m = n
          · subst c
            rw [if_pos rfl, ev]
            exact ⟨fun ⟨_, _, z, r, w⟩ => (by cases z; cases w), fun ⟨_, _, z, _⟩ => (by cases z)⟩
          · rw [if_neg c]
        · rw [valG_put]
          by_cases c : m = n
          · rw [if_pos c]; exact ⟨fun _ => .inl c, fun _ => rfl⟩
          · rw [if_neg c]; exact ⟨.inr, fun z => z.elim (fun w => absurd w c) id⟩
        · rw [valG_put] at e2
          by_cases c : m = n
          · rw [if_pos c] at e2
            cases e2
            exact ⟨.nil, fun _ m => by cases m⟩
          · rw [if_neg c] at e2
            exact hfs _ _ _ e2
    obtain ⟨f1, f2, f3, f4⟩ := hF
    refine ⟨fun m c' => ?_, fun m c' => ?_, fun m v => ?_, fun m row => ?_, fun m => ?_, f3, putG_nodup rn, sn, ln, f4⟩
    · rw [tab_put hr, hp]
      show _ ↔ (It.rel m c' = It.rel n c ∨ (Has os (.rel m c') ∧ ¬ tEq (ier (.rel m c')) (ier (.rel n c))))
      rw [eq_rel, It.rel.injEq]
    · rw [hp, sort_ne (by show (2 : Int) ≠ 0; decide), hs]
    · rw [hp, sort_ne (by show (3 : Int) ≠ 0; decide), hl]
    · rw [f1, hf]
      refine exists_congr fun r => ?_
      rw [hp, sort_ne (by show (1 : Int) ≠ 0; decide)]
    · rw [f2, hfn]
      constructor
      · rintro (e | ⟨c', z⟩ | ⟨r, row, z⟩)
        · exact .inl ⟨c, (hp _).mpr (.inl (by rw [e]))⟩
        · by_cases e : m = n
          · exact .inl ⟨c, (hp _).mpr (.inl (by rw [e]))⟩
          · exact .inl ⟨c', (hp _).mpr (.inr ⟨z, fun w => e (eq_rel.mp w)⟩)⟩
        · exact .inr ⟨r, row, by rw [hp, sort_ne (by show (1 : Int) ≠ 0; decide)]; exact z⟩
      · rintro (⟨c', z⟩ | ⟨r, row, z⟩)
        · rcases (hp _).mp z with e | ⟨z, _⟩
          · exact .inl (It.rel.inj e).1
          · exact .inr (.inl ⟨c', z⟩)
        · rw [hp, sort_ne (by show (1 : Int) ≠ 0; decide)] at z
          exact .inr (.inr ⟨r, row, z⟩)
  | fact n r row =>
    obtain ⟨pf, e1, e3, e4⟩ := p
    subst e1 e3 e4
    obtain ⟨f1, f2, f3, f4⟩ := putF_rep pf hfs fd st
    refine ⟨fun m c' => ?_, fun m c' => ?_, fun m v => ?_, fun m row' => ?_, fun m => ?_, f3, rn, sn, ln, f4⟩
    · rw [hp, sort_ne (by show (0 : Int) ≠ 1; decide), hr]
    · rw [hp, sort_ne (by show (2 : Int) ≠ 1; decide), hs]
    · rw [hp, sort_ne (by show (3 : Int) ≠ 1; decide), hl]
    · rw [f1, hf]
      constructor
      · rintro (⟨e1, e2⟩ | ⟨r', z⟩)
        · exact ⟨r, (hp _).mpr (.inl (by rw [e1, e2]))⟩
        · by_cases e : m = n ∧ row' = row
          · exact ⟨r, (hp _).mpr (.inl (by rw [e.1, e.2]))⟩
          · exact ⟨r', (hp _).mpr (.inr ⟨z, fun w => e (eq_fact.mp w)⟩)⟩
      · rintro ⟨r', z⟩
        rcases (hp _).mp z with e | ⟨z, _⟩
        · exact .inl ⟨(It.fact.inj e).1, (It.fact.inj e).2.2⟩
        · exact .inr ⟨r', z⟩
    · rw [f2, hfn]
      constructor
      · rintro (e | ⟨c', z⟩ | ⟨r', row', z⟩)
        · exact .inr ⟨r, row, (hp _).mpr (.inl (by rw [e]))⟩
        · exact .inl ⟨c', by rw [hp, sort_ne (by show (0 : Int) ≠ 1; decide)]; exact z⟩
        · by_cases e : m = n ∧ row' = row
          · exact .inr ⟨r, row, (hp _).mpr (.inl (by rw [e.1]))⟩
          · exact .inr ⟨r', row', (hp _).mpr (.inr ⟨z, fun w => e (eq_fact.mp w)⟩)⟩
      · rintro (⟨c', z⟩ | ⟨r', row', z⟩)
        · rw [hp, sort_ne (by show (0 : Int) ≠ 1; decide)] at z
          exact .inr (.inl ⟨c', z⟩)
        · rcases (hp _).mp z with e | ⟨z, _⟩
          · exact .inl (It.fact.inj e).1
          · exact .inr (.inr ⟨r', row', z⟩)
  | str n c =>
    obtain ⟨⟨q, e1⟩, e2, e3, e4⟩ := p
    subst e1 e2 e3 e4
    refine ⟨fun m c' => ?_, fun m c' => ?_, fun m v => ?_, fun m row => ?_, fun m => ?_, hfs, rn, putG_nodup sn, ln, fd⟩
    · rw [hp, sort_ne (by show (0 : Int) ≠ 2; decide), hr]
    · rw [tab_put hs, hp]
      show _ ↔ (It.str m c' = It.str n c ∨ (Has os (.str m c') ∧ ¬ tEq (ier (.str m c')) (ier (.str n c))))
      rw [eq_str, It.str.injEq]
    · rw [hp, sort_ne (by show (3 : Int) ≠ 2; decide), hl]
    · rw [hf]
      exact exists_congr fun r => by rw [hp, sort_ne (by show (1 : Int) ≠ 2; decide)]
    · rw [hfn]
      exact or_congr (exists_congr fun c => by rw [hp, sort_ne (by show (0 : Int) ≠ 2; decide)]) (exists_congr fun r => exists_congr fun row => by rw [hp, sort_ne (by show (1 : Int) ≠ 2; decide)])
  | lay n v =>
    obtain ⟨e1, e2, e3, e4⟩ := p
    subst e1 e2 e3 e4
    refine ⟨fun m c' => ?_, fun m c' => ?_, fun m v' => ?_, fun m row => ?_, fun m => ?_, hfs, rn, sn, putG_nodup ln, fd⟩
    · rw [hp, sort_ne (by show (0 : Int) ≠ 3; decide), hr]
    · rw [hp, sort_ne (by show (2 : Int) ≠ 3; decide), hs]
    · rw [valG_put, hp]
      show _ ↔ (It.lay m v' = It.lay n v ∨ (Has os (.lay m v') ∧ ¬ tEq (ier (.lay m v')) (ier (.lay n v))))
      rw [eq_lay, It.lay.injEq]
      by_cases e : m = n
      · rw [if_pos e]
        exact ⟨fun z => .inl ⟨e, (Option.some.inj z).symm⟩, fun z => z.elim (fun w => by rw [w.2]) fun w => absurd e w.2⟩
      · rw [if_neg e, hl]
        exact ⟨fun z => .inr ⟨z, e⟩, fun z => z.elim (fun w => absurd w.1 e) (·.1)⟩
    · rw [hf]
      exact exists_congr fun r => by rw [hp, sort_ne (by show (1 : Int) ≠ 3; decide)]
    · rw [hfn]
      exact or_congr (exists_congr fun c => by rw [hp, sort_ne (by show (0 : Int) ≠ 3; decide)]) (exists_congr fun r => exists_congr fun row => by rw [hp, sort_ne (by show (1 : Int) ≠ 3; decide)])
theorem Puts.rep {is : List It} {R S : Tb} {F : Fb} {L : List (Str × V)} (h : Puts is R F S L) : ∀ its : Its, its.map (·.2) = is → ScI its → Rep (plcAll its) R F S L := by
  induction h with
  | nil =>
    intro its e _
    rw [List.map_eq_nil_iff.mp e]
    exact Rep.nil
  | snoc _ p ih =>
    intro its e so
    obtain ⟨l1, l2, e0, e1, e2⟩ := List.map_eq_append_iff.mp e
    obtain ⟨t, e3, e4⟩ := List.map_eq_singleton_iff.mp e2
    subst e3 e4
    subst e0
    have so' : ScI l1 := fun u m => so u (List.mem_append_left _ m)
    rw [plcAll_snoc]
    exact (ih l1 e1 so').put p (plcAll_ok l1 so').2.1 (so t (List.mem_append_right _ (List.mem_singleton.mpr rfl)))
/-! two tables of the same items -/
theorem rows_eq {rs rs' : List (Addr × List V)} (h : SrtS rs) (h' : SrtS rs') (e : ∀ row, (∃ r, (r, row) ∈ rs) ↔ ∃ r, (r, row) ∈ rs') : rs.map (·.2) = rs'.map (·.2) := by
  have mm : ∀ {ts : List (Addr × List V)} {row : List V}, row ∈ ts.map (·.2) ↔ ∃ r, (r, row) ∈ ts := fun {ts row} => by
    rw [List.mem_map]
    exact ⟨fun ⟨t, m, z⟩ => ⟨t.1, by rw [← z]; exact m⟩, fun ⟨r, m⟩ => ⟨_, m, rfl⟩⟩
  refine srt_uniq (lt := Rlt) (List.pairwise_map.mpr h.1) (List.pairwise_map.mpr h'.1) (fun x mx y my => ?_) fun row => by rw [mm, mm, e]
  obtain ⟨r, mr⟩ := mm.mp mx
  obtain ⟨r', mr'⟩ := mm.mp my
  exact rlt_asym (h.2 _ mr) (h.2 _ mr')
section
variable {os : Its} {R S R' S' : Tb} {F F' : Fb} {L L' : List (Str × V)}
theorem tab_some {T T' : Tb} {P : Str → List V → Prop} (h : ∀ m c', (∃ q, valG T m = some (q, c')) ↔ P m c') (h' : ∀ m c', (∃ q, valG T' m = some (q, c')) ↔ P m c') (n : Str) : (valG T n).isSome = (valG T' n).isSome := by
  cases e : valG T n with
  | none =>
    cases e' : valG T' n with
    | none => rfl
    | some b =>
      obtain ⟨q, z⟩ := (h n b.2).mpr ((h' n b.2).mp ⟨b.1, e'⟩)
      rw [e] at z
      cases z
  | some b =>
    obtain ⟨q, z⟩ := (h' n b.2).mpr ((h n b.2).mp ⟨b.1, e⟩)
    rw [z]
    rfl
theorem Rep.eqR (h : Rep os R F S L) (h' : Rep os R' F' S' L') : R.length = R'.length ∧ ∀ n q c, valG R' n = some (q, c) → ∃ q', valG R n = some (q', c) :=
  ⟨keys_len h.rn h'.rn (tab_some h.r h'.r), fun n q c e => (h.r n c).mpr ((h'.r n c).mp ⟨q, e⟩)⟩
theorem Rep.eqS (h : Rep os R F S L) (h' : Rep os R' F' S' L') : S.length = S'.length ∧ ∀ n q c, valG S' n = some (q, c) → ∃ q', valG S n = some (q', c) :=
  ⟨keys_len h.sn h'.sn (tab_some h.s h'.s), fun n q c e => (h.s n c).mpr ((h'.s n c).mp ⟨q, e⟩)⟩
theorem Rep.eqL (h : Rep os R F S L) (h' : Rep os R' F' S' L') : L.length = L'.length ∧ ∀ n v, valG L' n = some v → valG L n = some v := by
  refine ⟨keys_len h.ln h'.ln fun n => ?_, fun n v e => (h.l n v).mpr ((h'.l n v).mp e)⟩
  cases e : valG L n with
  | none =>
    cases e' : valG L' n with
    | none => rfl
    | some b =>
      have z := (h.l n b).mpr ((h'.l n b).mp e')
      rw [e] at z
      cases z
  | some b => rw [(h'.l n b).mpr ((h.l n b).mp e)]
theorem Rep.eqF (h : Rep os R F S L) (h' : Rep os R' F' S' L') : F.length = F'.length ∧ ∀ n q rs, valG F' n = some (q, rs) → ∃ q' rs', valG F n = some (q', rs') ∧ rs'.map (·.2) = rs.map (·.2) := by
  have sm : ∀ n, (valG F n).isSome = (valG F' n).isSome := fun n => Bool.eq_iff_iff.mpr (by rw [h.fn, h'.fn])
  refine ⟨keys_len h.fd h'.fd sm, fun n q rs e => ?_⟩
  have z := sm n
  rw [e] at z
  cases e2 : valG F n with
  | none => rw [e2] at z; cases z
  | some b =>
    refine ⟨b.1, b.2, rfl, rows_eq (h.fs _ _ _ e2) (h'.fs _ _ _ e) fun row => ?_⟩
    have a1 := h.f n row
    have a2 := h'.f n row
    rw [e2] at a1
    rw [e] at a2
    refine ⟨fun w => ?_, fun w => ?_⟩
    · obtain ⟨q3, rs3, e3, w3⟩ := a2.mpr (a1.mp ⟨_, _, rfl, w⟩)
      cases e3
      exact w3
    · obtain ⟨q3, rs3, e3, w3⟩ := a1.mpr (a2.mp ⟨_, _, rfl, w⟩)
      cases e3
      exact w3
theorem Rep.copyF (h : Rep os R F S L) (e : F'.map (fun x => (x.1, x.2.2)) = F.map fun x => (x.1, x.2.2)) : Rep os R F' S L := by
  have ev : ∀ n, (valG F' n).map (·.2) = (valG F n).map (·.2) := fun n => by
    rw [← valG_map (fun b : Addr × List (Addr × List V) => b.2), ← valG_map (fun b : Addr × List (Addr × List V) => b.2), e]
  have some_ : ∀ n rs, (∃ q, valG F' n = some (q, rs)) ↔ ∃ q, valG F n = some (q, rs) := fun n rs => by
    have z := ev n
    cases a : valG F' n with
    | none =>
      cases b : valG F n with
      | none => exact Iff.rfl
      | some y => rw [a, b] at z; cases z
    | some x =>
      cases b : valG F n with
      | none => rw [a, b] at z; cases z
      | some y =>
        rw [a, b] at z
        have z' : x.2 = y.2 := Option.some.inj z
        refine ⟨fun ⟨q, w⟩ => ⟨y.1, ?_⟩, fun ⟨q, w⟩ => ⟨x.1, ?_⟩⟩
        · cases w; rw [show rs = y.2 from z']
        · cases w; rw [show rs = x.2 from z'.symm]
  have sm : ∀ n, (valG F' n).isSome = (valG F n).isSome := fun n => by
    have z := congrArg Option.isSome (ev n)
    rw [Option.isSome_map, Option.isSome_map] at z
    exact z
  refine ⟨h.r, h.s, h.l, fun n row => ?_, fun n => by rw [sm, h.fn], fun n q rs e2 => ?_, h.rn, h.sn, h.ln, ?_⟩
  · rw [← h.f]
    refine ⟨fun ⟨q, rs, e2, w⟩ => ?_, fun ⟨q, rs, e2, w⟩ => ?_⟩
    · obtain ⟨q', e3⟩ := (some_ n rs).mp ⟨q, e2⟩
      exact ⟨q', rs, e3, w⟩
    · obtain ⟨q', e3⟩ := (some_ n rs).mpr ⟨q, e2⟩
      exact ⟨q', rs, e3, w⟩
  · obtain ⟨q', e3⟩ := (some_ n rs).mp ⟨q, e2⟩
    exact h.fs _ _ _ e3
  · have z := congrArg (List.map Prod.fst) e
    rw [List.map_map, List.map_map] at z
    have z2 : F'.map (·.1) = F.map (·.1) := z
    rw [z2]
    exact h.fd
end
end K1
namespace K1
open PySem PySem.Spec PyProof.Rows L2 Ow Tlz
abbrev s_law_is_integer : Stmt := topS 39
abbrev N_law_is_integer : List Str := ["actual"]
theorem sc_law_is_integer : FnScope N_law_is_integer ["actual"] (defScope s_law_is_integer) := ⟨rfl, rfl, rfl, by decide +kernel, rfl, by decide +kernel, by decide +kernel⟩
abbrev s_law_same : Stmt := topS 40
abbrev N_law_same : List Str := ["actual", "expected", "k"]
theorem sc_law_same : FnScope N_law_same ["actual", "expected"] (defScope s_law_same) := ⟨rfl, rfl, rfl, by decide +kernel, rfl, by decide +kernel, by decide +kernel⟩
/-! data of numbers, texts, truths, None, tuples and lists -/
mutual
def ist : PyData → Bool
  | .int _ => true
  | .str _ => true
  | .none => true
  | .bool _ => true
  | .tuple xs => decide (xs.length ≤ 1000) && ists xs
  | .list xs => decide (xs.length ≤ 2000000) && ists xs
  | _ => false
def ists : List PyData → Bool
  | [] => true
  | x :: xs => ist x && ists xs
end
theorem ists_at : ∀ {xs : List PyData}, ists xs = true → ∀ {i : Nat} {d : PyData}, xs[i]? = some d → ist d = true
  | [], _, i, d, h => by simp at h
  | x :: xs, h, i, d, e => by
    rw [ists, Bool.and_eq_true] at h
    cases i with
    | zero =>
      have z : x = d := Option.some.inj e
      rw [← z]; exact h.1
    | succ i => exact ists_at h.2 (i := i) e
theorem ists_all : ∀ {xs : List PyData}, (∀ x ∈ xs, ist x = true) → ists xs = true
  | [], _ => by rw [ists]
  | x :: xs, h => by
    rw [ists, h x List.mem_cons_self, ists_all fun y m => h y (List.mem_cons_of_mem _ m)]
    rfl
theorem ist_tup {xs : List PyData} (l : xs.length ≤ 1000) (h : ∀ x ∈ xs, ist x = true) : ist (.tuple xs) = true := by
  rw [ist, decide_eq_true l, ists_all h]
  rfl
theorem ist_lstB {xs : List PyData} (l : xs.length ≤ 2000000) (h : ∀ x ∈ xs, ist x = true) : ist (.list xs) = true := by
  rw [ist, decide_eq_true l, ists_all h]
  rfl
theorem ist_lst {xs : List PyData} (l : xs.length ≤ 1000) (h : ∀ x ∈ xs, ist x = true) : ist (.list xs) = true := ist_lstB (Nat.le_trans l (by decide)) h
mutual
theorem Dp.sm {K : PySem.W.Frag} {H H' : Hp} (t : Same H H') : ∀ (d : PyData) (v : V), Dp K H v d → Dp K H' v d
  | .none, _, .non => .non
  | .bool b, _, .bl _ => .bl b
  | .int i, _, .int _ => .int i
  | .str x, _, .str _ => .str x
  | .list xs, _, .lst s a => .lst (t.seq s) (DpAll.sm t xs _ a)
  | .tuple xs, _, .tup s a => .tup (Tk.same t _ _ s) (DpAll.sm t xs _ a)
theorem DpAll.sm {K : PySem.W.Frag} {H H' : Hp} (t : Same H H') : ∀ (ds : List PyData) (vs : List V), DpAll K H vs ds → DpAll K H' vs ds
  | [], _, .nil => .nil
  | d :: ds, _, .cons a b => .cons (Dp.sm t d _ a) (DpAll.sm t ds _ b)
end
theorem DpAll.len {K : PySem.W.Frag} {H : Hp} : ∀ {vs : List V} {ds : List PyData}, DpAll K H vs ds → vs.length = ds.length
  | _, _, .nil => rfl
  | _, _, .cons _ b => by rw [List.length_cons, List.length_cons, DpAll.len b]
theorem DpAll.get {K : PySem.W.Frag} {H : Hp} : ∀ {vs : List V} {ds : List PyData}, DpAll K H vs ds → ∀ {i : Nat} {d : PyData}, ds[i]? = some d → ∃ v, vs[i]? = some v ∧ Dp K H v d
  | _, _, .nil, i, d, h => by simp at h
  | _, _, .cons a b, 0, d, h => by
    have e := Option.some.inj h
    subst e
    exact ⟨_, rfl, a⟩
  | _, _, .cons a b, i + 1, d, h => DpAll.get b (i := i) h
theorem depth_at : ∀ {xs : List PyData} {n : Nat}, PyData.depthAll xs ≤ n → ∀ {i : Nat} {d : PyData}, xs[i]? = some d → d.depth ≤ n
  | [], _, _, i, d, h => by simp at h
  | x :: xs, n, h, i, d, e => by
    rw [PyData.depthAll] at h
    cases i with
    | zero =>
      have z : x = d := Option.some.inj e
      rw [← z]; exact Nat.le_trans (Nat.le_max_left _ _) h
    | succ i => exact depth_at (Nat.le_trans (Nat.le_max_right _ _) h) (i := i) e
def spIsInt : Sp := fun vs H Q _ => ∃ i : Int, vs = [.int i] ∧ Q (.bl true) H
/-- two equal data, less than n deep -/
def spSm (K : PySem.W.Frag) : Nat → Sp
  | 0 => fun _ _ _ _ => False
  | n + 1 => fun vs H Q _ => ∃ (x y : V) (d : PyData), vs = [x, y] ∧ Dp K H x d ∧ Dp K H y d ∧ ist d = true ∧ d.depth ≤ n ∧ Mak H Q fun z _ => z = .bl true
theorem lstT {K : PySem.W.Frag} {H : Hp} {a : Addr} {xs : List V} (h : SqL K H a xs) : TyX K H (.ref a) (.type "list") := by
  rcases h with (h | ⟨o, h⟩) | ⟨o, its, n, hk, hc, _⟩
  · exact .base (.lst h)
  · exact .base (.frz h)
  · exact .kList hk hc
theorem tupT2 {K : PySem.W.Frag} {H : Hp} {a : Addr} {xs : List V} (h : SqT K H a xs) : TyX K H (.ref a) (.type "tuple") := by
  rcases h with (h | ⟨o, h⟩) | ⟨o, its, n, hk, hc, _⟩
  · exact .base (.tup h)
  · exact .fTuple h
  · exact .kTuple hk hc
theorem kitI {K : PySem.W.Frag} : PySem.W.kitAny K (.type "int") [.type "list", .type "tuple"] = some false :=
  kitAny_cons (b := false) (kit_ty (by decide +kernel)) (fun _ => kitAny_cons (b := false) (kit_ty (by decide +kernel)) (fun _ => rfl) (fun h => Bool.noConfusion h)) (fun h => Bool.noConfusion h)
theorem kitS {K : PySem.W.Frag} : PySem.W.kitAny K (.type "str") [.type "list", .type "tuple"] = some false :=
  kitAny_cons (b := false) (kit_ty (by decide +kernel)) (fun _ => kitAny_cons (b := false) (kit_ty (by decide +kernel)) (fun _ => rfl) (fun h => Bool.noConfusion h)) (fun h => Bool.noConfusion h)
theorem kitN {K : PySem.W.Frag} : PySem.W.kitAny K (.type "NoneType") [.type "list", .type "tuple"] = some false :=
  kitAny_cons (b := false) (kit_ty (by decide +kernel)) (fun _ => kitAny_cons (b := false) (kit_ty (by decide +kernel)) (fun _ => rfl) (fun h => Bool.noConfusion h)) (fun h => Bool.noConfusion h)
theorem kitB {K : PySem.W.Frag} : PySem.W.kitAny K (.type "bool") [.type "list", .type "tuple"] = some false :=
  kitAny_cons (b := false) (kit_ty (by decide +kernel)) (fun _ => kitAny_cons (b := false) (kit_ty (by decide +kernel)) (fun _ => rfl) (fun h => Bool.noConfusion h)) (fun h => Bool.noConfusion h)
theorem kitL {K : PySem.W.Frag} : PySem.W.kitAny K (.type "list") [.type "list", .type "tuple"] = some true :=
  kitAny_cons (b := true) (kit_ty (by decide +kernel)) (fun h => Bool.noConfusion h) (fun _ => rfl)
theorem kitT {K : PySem.W.Frag} : PySem.W.kitAny K (.type "tuple") [.type "list", .type "tuple"] = some true :=
  kitAny_cons (b := false) (kit_ty (by decide +kernel)) (fun _ => kitAny_cons (b := true) (kit_ty (by decide +kernel)) (fun h => Bool.noConfusion h) (fun _ => rfl)) (fun h => Bool.noConfusion h)
section
variable {P : Program} {w : World} {K : PySem.W.Frag} {mg : Str → Option Value} {base : Heap}
theorem ok_isint {f : Addr} {fd : FuncData} (F : Fun K "_law_is_integer" "_law_is_integer" s_law_is_integer f fd) (T : Bl mg) :
    FnOk P w K mg base CX0 1 f fd ["actual"] spIsInt := by
  refine F.ok sc_law_is_integer (fun vs H Q E h => ?_) (fun cdv A outer s0 H vs Q E hr h => ?_)
  · obtain ⟨i, rfl, _⟩ := h
    rfl
  · obtain ⟨i, rfl, q⟩ := h
    refine ⟨_, (pss_one (ps_ret (pe_and (pe_callB call_isi (by rfl) T.isinstance (by decide +kernel) (pa_cons (pv 0) (pa_cons (pe_ty "int" (by rfl) T.int (by decide +kernel)) pa_nil))) (pe_one (pe_not (pe_callB call_isi (by rfl) T.isinstance (by decide +kernel) (pa_cons (pv 0) (pa_cons (pe_ty "bool" (by rfl) T.bool (by decide +kernel)) pa_nil)))))))), ?_⟩
    refine ⟨_, rfl, _, _, .type "int", .type "int", true, rfl, .ty _, .base (.int i), kit_ty (by decide +kernel), ?_⟩
    refine ⟨_, rfl, iteT ?_⟩
    refine ⟨_, rfl, _, _, .type "int", .type "bool", false, rfl, .ty _, .base (.int i), kit_ty (by decide +kernel), ?_⟩
    exact ⟨_, rfl, q⟩
theorem ok_smZ {f : Addr} {fd : FuncData} (F : Fun K "_law_same" "_law_same" s_law_same f fd) : FnOk P w K mg base CX0 1 f fd ["actual", "expected"] (spSm K 0) :=
  F.ok sc_law_same (fun vs H Q E h => h.elim) (fun cdv A outer s0 H vs Q E hr h => h.elim)
theorem ok_sm {f : Addr} {fd : FuncData} (F : Fun K "_law_same" "_law_same" s_law_same f fd) (T : Bl mg) {n : Nat}
    (D_law_is_integer : Kn P w K mg base 1 "_law_is_integer" ["actual"] spIsInt)
    (D_law_same : Kn P w K mg base (n + 1) "_law_same" ["actual", "expected"] (spSm K n)) :
    FnOk P w K mg base CX0 (n + 2) f fd ["actual", "expected"] (spSm K (n + 1)) := by
  refine F.ok sc_law_same (fun vs H Q E h => ?_) (fun cdv A outer s0 H vs Q E hr h => ?_)
  · obtain ⟨x, y, d, rfl, _⟩ := h
    rfl
  · obtain ⟨x, y, d, rfl, hx, hy, hi, hd, q⟩ := h
    refine ⟨_, (pss_cons (ps_if (pt_val (pe_callB call_isiT (by rfl) T.isinstance (by decide +kernel) (pa_cons (pv 1) (pa_cons (pe_tup (pa_cons (pe_ty "list" (by rfl) T.list (by decide +kernel)) (pa_cons (pe_ty "tuple" (by rfl) T.tuple (by decide +kernel)) pa_nil))) pa_nil)))) (pss_cons (ps_if (PW.pt (pw_or (pt_cmpR op_ne (pe_callB call_isi (by rfl) T.isinstance (by decide +kernel) (pa_cons (pv 1) (pa_cons (pe_ty "list" (by rfl) T.list (by decide +kernel)) pa_nil))) (pe_callB call_isi (by rfl) T.isinstance (by decide +kernel) (pa_cons (pv 0) (pa_cons (pe_ty "list" (by rfl) T.list (by decide +kernel)) pa_nil))) (nomark _)) (pw_or1 (pt_cmpR op_ne (pe_callB call_isi (by rfl) T.isinstance (by decide +kernel) (pa_cons (pv 1) (pa_cons (pe_ty "tuple" (by rfl) T.tuple (by decide +kernel)) pa_nil))) (pe_callB call_isi (by rfl) T.isinstance (by decide +kernel) (pa_cons (pv 0) (pa_cons (pe_ty "tuple" (by rfl) T.tuple (by decide +kernel)) pa_nil))) (nomark _))))) (pss_one (ps_ret pe_bl)) pss_nil)
      (pss_cons (ps_if (pt_cmpR op_ne (pe_callB call_len_seq (by rfl) T.len PySem.boot_len (pa_cons (pv 0) pa_nil)) (pe_callB call_len_seq (by rfl) T.len PySem.boot_len (pa_cons (pv 1) pa_nil)) (nomark _)) (pss_one (ps_ret pe_bl)) pss_nil)
      (pss_cons (ps_for PassesOwn.never rfl (pi_range1 (by rfl) T.range (pa_cons (pe_callB call_len_seq (by rfl) T.len PySem.boot_len (pa_cons (pv 1) pa_nil)) pa_nil)) (pg_name (i := 2) sc_law_same.nd rfl (.inl rfl)) (pss_one (ps_if (pt_not (pt_val (pe_kn D_law_same hr (pa_cons (pe_ix ix_seq (pv 0) (pv 2) (fun _ _ => rfl)) (pa_cons (pe_ix ix_seq (pv 1) (pv 2) (fun _ _ => rfl)) pa_nil)) (Nat.le_refl _)))) (pss_one (ps_ret pe_bl)) pss_nil)))
      (pss_one (ps_ret pe_bl))))) pss_nil)
      (pss_cons (ps_if (pt_cmpR op_isN (pv 1) pe_non (nomark _)) (pss_one (ps_ret (pe_cmpR op_isN (pv 0) pe_non (nomark _)))) pss_nil)
      (pss_cons (ps_if (pt_val (pe_callB call_isi (by rfl) T.isinstance (by decide +kernel) (pa_cons (pv 1) (pa_cons (pe_ty "bool" (by rfl) T.bool (by decide +kernel)) pa_nil)))) (pss_one (ps_ret (pe_and (pe_callB call_isi (by rfl) T.isinstance (by decide +kernel) (pa_cons (pv 0) (pa_cons (pe_ty "bool" (by rfl) T.bool (by decide +kernel)) pa_nil))) (pe_one (pe_cmpR op_eq (pv 0) (pv 1) (nomark _)))))) pss_nil)
      (pss_cons (ps_if (pt_val (pe_callB call_isi (by rfl) T.isinstance (by decide +kernel) (pa_cons (pv 1) (pa_cons (pe_ty "int" (by rfl) T.int (by decide +kernel)) pa_nil)))) (pss_one (ps_ret (pe_and (pe_kn D_law_is_integer hr (pa_cons (pv 0) pa_nil) (by omega)) (pe_one (pe_cmpR op_eq (pv 0) (pv 1) (nomark _)))))) pss_nil)
      (pss_one (ps_ret (pe_and (pe_callB call_isi (by rfl) T.isinstance (by decide +kernel) (pa_cons (pv 0) (pa_cons (pe_ty "str" (by rfl) T.str (by decide +kernel)) pa_nil))) (pe_one (pe_cmpR op_eq (pv 0) (pv 1) (nomark _)))))))))), ?_⟩
    cases hy with
    | int i =>
      cases hx
      refine ⟨_, rfl, sz 2, fun t nt => ?_⟩
      refine ⟨_, _, _, _, _, false, rfl, upd_same, .cons (.ty "list") (.cons (.ty "tuple") .nil), .base (.int i), kitI, ?_⟩
      refine ⟨_, rfl, iteF ?_⟩
      refine ⟨_, rfl, rfl, _, rfl, ite2 (fun e => absurd e (by simp)) (fun _ => ?_)⟩
      refine ⟨_, rfl, _, _, .type "int", .type "bool", false, rfl, .ty _, .base (.int i), kit_ty (by decide +kernel), ?_⟩
      refine ⟨_, rfl, iteF ?_⟩
      refine ⟨_, rfl, _, _, .type "int", .type "int", true, rfl, .ty _, .base (.int i), kit_ty (by decide +kernel), ?_⟩
      refine ⟨_, rfl, iteT ?_⟩
      refine ⟨_, rfl, i, rfl, _, rfl, iteT ?_⟩
      exact ⟨_, rfl, _, rfl, rfl, q _ _ (by rw [decide_eq_true rfl]) (Same.new nt)⟩
    | str z =>
      cases hx
      refine ⟨_, rfl, sz 2, fun t nt => ?_⟩
      refine ⟨_, _, _, _, _, false, rfl, upd_same, .cons (.ty "list") (.cons (.ty "tuple") .nil), .base (.str z), kitS, ?_⟩
      refine ⟨_, rfl, iteF ?_⟩
      refine ⟨_, rfl, rfl, _, rfl, ite2 (fun e => absurd e (by simp)) (fun _ => ?_)⟩
      refine ⟨_, rfl, _, _, .type "str", .type "bool", false, rfl, .ty _, .base (.str z), kit_ty (by decide +kernel), ?_⟩
      refine ⟨_, rfl, iteF ?_⟩
      refine ⟨_, rfl, _, _, .type "str", .type "int", false, rfl, .ty _, .base (.str z), kit_ty (by decide +kernel), ?_⟩
      refine ⟨_, rfl, iteF ?_⟩
      refine ⟨_, rfl, _, _, .type "str", .type "str", true, rfl, .ty _, .base (.str z), kit_ty (by decide +kernel), ?_⟩
      refine ⟨_, rfl, iteT ?_⟩
      exact ⟨_, rfl, _, rfl, rfl, q _ _ (by rw [decide_eq_true rfl]) (Same.new nt)⟩
    | bl b =>
      cases hx
      refine ⟨_, rfl, sz 2, fun t nt => ?_⟩
      refine ⟨_, _, _, _, _, false, rfl, upd_same, .cons (.ty "list") (.cons (.ty "tuple") .nil), .base (.bl b), kitB, ?_⟩
      refine ⟨_, rfl, iteF ?_⟩
      refine ⟨_, rfl, rfl, _, rfl, ite2 (fun e => absurd e (by simp)) (fun _ => ?_)⟩
      refine ⟨_, rfl, _, _, .type "bool", .type "bool", true, rfl, .ty _, .base (.bl b), kit_ty (by decide +kernel), ?_⟩
      refine ⟨_, rfl, iteT ?_⟩
      refine ⟨_, rfl, _, _, .type "bool", .type "bool", true, rfl, .ty _, .base (.bl b), kit_ty (by decide +kernel), ?_⟩
      refine ⟨_, rfl, iteT ?_⟩
      exact ⟨_, rfl, _, rfl, rfl, q _ _ (by rw [decide_eq_true rfl]) (Same.new nt)⟩
    | non =>
      cases hx
      refine ⟨_, rfl, sz 2, fun t nt => ?_⟩
      refine ⟨_, _, _, _, _, false, rfl, upd_same, .cons (.ty "list") (.cons (.ty "tuple") .nil), .base (.non), kitN, ?_⟩
      refine ⟨_, rfl, iteF ?_⟩
      refine ⟨_, rfl, rfl, _, rfl, ite2 (fun _ => ?_) (fun e => absurd (decide_eq_true rfl) e)⟩
      exact ⟨_, rfl, rfl, q _ _ (by rw [decide_eq_true rfl]) (Same.new nt)⟩
    | @tup b ys ds sy ay =>
      cases hx with
      | @tup a xs _ sx ax =>
        have lx := DpAll.len ax
        have ly := DpAll.len ay
        refine ⟨_, rfl, sz 2, fun t nt => ?_⟩
        have s1 := Same.new (o := .tup [.ty "list", .ty "tuple"]) nt
        have t1 : Tk K H _ := Tk.same s1
        have tx := tupT2 (K := K) (t1 _ _ sx)
        have ty := tupT2 (K := K) (t1 _ _ sy)
        refine ⟨_, _, _, _, _, true, rfl, upd_same, .cons (.ty "list") (.cons (.ty "tuple") .nil), ty, kitT, ?_⟩
        refine ⟨_, rfl, iteT ?_⟩
        refine ⟨_, rfl, _, _, .type "tuple", .type "list", false, rfl, .ty _, ty, kit_ty (by decide +kernel), ?_⟩
        refine ⟨_, rfl, _, _, .type "tuple", .type "list", false, rfl, .ty _, tx, kit_ty (by decide +kernel), ?_⟩
        refine ⟨rfl, _, rfl, ?_⟩
        refine iteF ?_
        refine ⟨_, rfl, _, _, .type "tuple", .type "tuple", true, rfl, .ty _, ty, kit_ty (by decide +kernel), ?_⟩
        refine ⟨_, rfl, _, _, .type "tuple", .type "tuple", true, rfl, .ty _, tx, kit_ty (by decide +kernel), ?_⟩
        refine ⟨rfl, _, rfl, ?_⟩
        refine iteF ?_
        refine ⟨_, rfl, a, xs, rfl, .inr (t1 _ _ sx), _, rfl, b, ys, rfl, .inr (t1 _ _ sy), rfl, _, rfl, ?_⟩
        rw [lx, ly]
        refine iteNS rfl ?_
        have bd : ds.length ≤ 1000 := by
          rw [K1.ist, Bool.and_eq_true] at hi
          exact of_decide_eq_true hi.1
        refine ⟨_, rfl, b, ys, rfl, .inr (t1 _ _ sy), (ys.length : Int), rfl, by omega, by omega, for_range (lo := 0) (n := (ys.length : Int).toNat) (fun i σ H4 => ∃ y2 : Option V, σ = [some (.ref a), some (.ref b), y2] ∧ Same H H4)
          ⟨none, rfl, s1⟩ (fun i σ H4 hi4 hP => ?_) (fun σ H4 hP => ?_)⟩
        · obtain ⟨y2, rfl, sm⟩ := hP
          have il : i < ds.length := by omega
          have ed := List.getElem?_eq_getElem il
          obtain ⟨u, eu, du⟩ := DpAll.get ax ed
          obtain ⟨v, ev, dv⟩ := DpAll.get ay ed
          have t4 : Tk K H H4 := Tk.same sm
          have id : ist ds[i] = true := ists_at (by rw [K1.ist, Bool.and_eq_true] at hi; exact hi.2) ed
          rw [PyData.depth] at hd
          have dd : PyData.depthAll ds ≤ n - 1 := by omega
          have d2 := depth_at dd ed
          cases n with
          | zero => omega
          | succ n =>
          refine ⟨_, rfl, _, rfl, (.inr (.inl ⟨a, xs, _, u, rfl, rfl, (t4 _ _ sx), at_of (j := i) (by omega) eu, _, rfl, _, rfl, (.inr (.inl ⟨b, ys, _, v, rfl, rfl, (t4 _ _ sy), at_of (j := i) (by omega) ev, u, v, ds[i], rfl,
            Dp.sm sm _ _ du, Dp.sm sm _ _ dv, id, d2, ?_⟩))⟩))⟩
          rintro z H5 rfl s5
          exact ⟨_, rfl, iteF ⟨_, rfl, sm.trans s5⟩⟩
        · obtain ⟨y2, rfl, sm⟩ := hP
          exact q _ _ rfl sm
    | @lst b ys ds sy ay =>
      cases hx with
      | @lst a xs _ sx ax =>
        have lx := DpAll.len ax
        have ly := DpAll.len ay
        refine ⟨_, rfl, sz 2, fun t nt => ?_⟩
        have s1 := Same.new (o := .tup [.ty "list", .ty "tuple"]) nt
        have t1 : Tk K H _ := Tk.same s1
        have tx := lstT (K := K) (s1.seq sx)
        have ty := lstT (K := K) (s1.seq sy)
        refine ⟨_, _, _, _, _, true, rfl, upd_same, .cons (.ty "list") (.cons (.ty "tuple") .nil), ty, kitL, ?_⟩
        refine ⟨_, rfl, iteT ?_⟩
        refine ⟨_, rfl, _, _, .type "list", .type "list", true, rfl, .ty _, ty, kit_ty (by decide +kernel), ?_⟩
        refine ⟨_, rfl, _, _, .type "list", .type "list", true, rfl, .ty _, tx, kit_ty (by decide +kernel), ?_⟩
        refine ⟨rfl, _, rfl, ?_⟩
        refine iteF ?_
        refine ⟨_, rfl, _, _, .type "list", .type "tuple", false, rfl, .ty _, ty, kit_ty (by decide +kernel), ?_⟩
        refine ⟨_, rfl, _, _, .type "list", .type "tuple", false, rfl, .ty _, tx, kit_ty (by decide +kernel), ?_⟩
        refine ⟨rfl, _, rfl, ?_⟩
        refine iteF ?_
        refine ⟨_, rfl, a, xs, rfl, .inl (s1.seq sx), _, rfl, b, ys, rfl, .inl (s1.seq sy), rfl, _, rfl, ?_⟩
        rw [lx, ly]
        refine iteNS rfl ?_
        have bd : ds.length ≤ 2000000 := by
          rw [K1.ist, Bool.and_eq_true] at hi
          exact of_decide_eq_true hi.1
        refine ⟨_, rfl, b, ys, rfl, .inl (s1.seq sy), (ys.length : Int), rfl, by omega, by omega, for_range (lo := 0) (n := (ys.length : Int).toNat) (fun i σ H4 => ∃ y2 : Option V, σ = [some (.ref a), some (.ref b), y2] ∧ Same H H4)
          ⟨none, rfl, s1⟩ (fun i σ H4 hi4 hP => ?_) (fun σ H4 hP => ?_)⟩
        · obtain ⟨y2, rfl, sm⟩ := hP
          have il : i < ds.length := by omega
          have ed := List.getElem?_eq_getElem il
          obtain ⟨u, eu, du⟩ := DpAll.get ax ed
          obtain ⟨v, ev, dv⟩ := DpAll.get ay ed
          have t4 : Tk K H H4 := Tk.same sm
          have id : ist ds[i] = true := ists_at (by rw [K1.ist, Bool.and_eq_true] at hi; exact hi.2) ed
          rw [PyData.depth] at hd
          have dd : PyData.depthAll ds ≤ n - 1 := by omega
          have d2 := depth_at dd ed
          cases n with
          | zero => omega
          | succ n =>
          refine ⟨_, rfl, _, rfl, (.inl ⟨a, xs, _, u, rfl, rfl, (sm.seq sx), at_of (j := i) (by omega) eu, _, rfl, _, rfl, (.inl ⟨b, ys, _, v, rfl, rfl, (sm.seq sy), at_of (j := i) (by omega) ev, u, v, ds[i], rfl,
            Dp.sm sm _ _ du, Dp.sm sm _ _ dv, id, d2, ?_⟩)⟩)⟩
          rintro z H5 rfl s5
          exact ⟨_, rfl, iteF ⟨_, rfl, sm.trans s5⟩⟩
        · obtain ⟨y2, rfl, sm⟩ := hP
          exact q _ _ rfl sm
    all_goals exact absurd hi (by simp [K1.ist])
end
end K1

namespace K1
open PySem PySem.Spec PyProof.Rows L2 Ow Tlz
theorem rising_pw : ∀ (r : List Str) (p : Str), risingS p r = true → (∀ x ∈ r, ¬ x.cps.toList < p.cps.toList) ∧ r.Pairwise fun a b => ¬ b.cps.toList < a.cps.toList
  | [], p, _ => ⟨(fun _ m => nomatch m), .nil⟩
  | x :: r, p, h => by
    rw [risingS, Bool.and_eq_true, ltCps_eq] at h
    have h1 : ¬ x.cps.toList < p.cps.toList := fun z => by
      rw [decide_eq_true z] at h
      exact absurd h.1 (by decide)
    obtain ⟨a, b⟩ := rising_pw r x h.2
    refine ⟨fun y m => ?_, List.pairwise_cons.mpr ⟨fun y m => a y m, b⟩⟩
    rcases List.mem_cons.mp m with rfl | m
    · exact h1
    · intro z
      have z1 := a y m
      have z2 := List.le_trans (show p.cps.toList ≤ x.cps.toList from h1) (show x.cps.toList ≤ y.cps.toList from z1)
      exact z2 z
theorem sortedS_pw : ∀ {xs : List Str}, sortedS xs = true → xs.Pairwise fun a b => ¬ b.cps.toList < a.cps.toList
  | [], _ => .nil
  | x :: r, h => List.pairwise_cons.mpr (rising_pw r x h)
theorem sortedS_one {xs ys : List Str} (hx : sortedS xs = true) (hy : sortedS ys = true) (p : xs.Perm ys) : xs = ys :=
  List.Perm.eq_of_pairwise (le := fun a b => ¬ b.cps.toList < a.cps.toList) (fun a b _ _ h1 h2 => by
    rcases str_tot a b with h | h | h
    · exact absurd h h2
    · exact h
    · exact absurd h h1) (sortedS_pw hx) (sortedS_pw hy) p
/-! places -/
theorem kvR_val (R : Tb) (n : Str) : valV (kvR R) (Sum.inr n) = (valG R n).map fun b => V.ref b.1 := kvG_val _ _ _
theorem kvR_keys (R : Tb) : (kvR R).map (·.1) = (R.map (·.1)).map Sum.inr := by
  unfold kvR kvG
  rw [List.map_map, List.map_map]
  rfl
theorem mem_val {R : Tb} {n : Str} (h : n ∈ R.map (·.1)) : ∃ q c, valG R n = some (q, c) ∧ (n, q, c) ∈ R := by
  cases e : valG R n with
  | none =>
    obtain ⟨x, mx, ex⟩ := List.mem_map.mp h
    exact absurd ex (valG_none e x mx)
  | some b => exact ⟨b.1, b.2, rfl, valG_mem e⟩
theorem dget_n {H : Hp} {d : Addr} {R : Tb} {n : Str} {q : Addr} {c : List V} (h : Rd H d (.dK (kvR R))) (e : valG R n = some (q, c)) : DGet H d (.str n) (some (.ref q)) := by
  refine .inl ⟨kvR R, Sum.inr n, h, rfl, ?_⟩
  rw [kvR_val, e]
  rfl
theorem ix_tup_K {X : Cx} {K : PySem.W.Frag} (e : X.K = K) : IxR X (rIxT K) := by
  subst e
  exact ix_tup
theorem pe_fld_K {X : Cx} {K : PySem.W.Frag} (e : X.K = K) {o : Expr} {ta : TE} {f : Str} {pos : Pos} (ha : PE X o ta) (hb : attributeBase o f X.env (eval o X.env) = eval o X.env) : PE X (.Attribute o f pos) (tFld K ta f) := by
  subst e
  exact pe_fld ha hb
theorem Same.lock {d : Addr} {od : Obj} {u : HO} {H H' : Hp} (hd : H d = some u) (s : Same (upd H d (.frz od u)) H') : Same H (upd H' d u) := fun b o e => by
  by_cases w : b = d
  · subst w
    rw [upd_same, ← hd, e]
  · rw [upd_ne w]
    exact s b o (by rw [upd_ne w]; exact e)
theorem kvR_at {R : Tb} {i : Nat} {k : Key} {v : V} (h : (kvR R)[i]? = some (k, v)) : ∃ e, R[i]? = some e ∧ k = Sum.inr e.1 ∧ v = .ref e.2.1 := by
  unfold kvR kvG at h
  rw [List.getElem?_map] at h
  cases z : R[i]? with
  | none => rw [z] at h; cases h
  | some e =>
    rw [z] at h
    have := Option.some.inj h
    exact ⟨e, rfl, (congrArg Prod.fst this).symm, (congrArg Prod.snd this).symm⟩
theorem ix_list_K {X : Cx} {K : PySem.W.Frag} (e : X.K = K) : IxR X (rIxL K) := by
  subst e
  exact ix_list
theorem op_catA_K {X : Cx} {K : PySem.W.Frag} (e : X.K = K) : OpR X (binaryOp .Add) (rCatA K) := by
  subst e
  exact op_catA
theorem kv_names (R : Tb) : (kvR R).map (fun kv => kV kv.1) = (R.map (·.1)).map V.str := by
  unfold kvR kvG
  rw [List.map_map, List.map_map]
  rfl
theorem kvF_names (F : Fb) : (kvF F).map (fun kv => kV kv.1) = (F.map (·.1)).map V.str := by
  unfold kvF kvG
  rw [List.map_map, List.map_map]
  rfl
theorem strs_get {ys : List Str} {i : Nat} {y : V} (h : (ys.map V.str)[i]? = some y) : ∃ n, ys[i]? = some n ∧ y = .str n := by
  rw [List.getElem?_map] at h
  cases e : ys[i]? with
  | none => rw [e] at h; cases h
  | some t => rw [e] at h; exact ⟨t, rfl, (Option.some.inj h).symm⟩
theorem take_snoc' {α : Type} {xs : List α} {i : Nat} {x : α} (h : xs[i]? = some x) : xs.take (i + 1) = xs.take i ++ [x] := by
  rw [List.take_add_one, h]
  rfl
theorem dgetF {H : Hp} {d : Addr} {F : Fb} {n : Str} {q : Addr} {c : List (Addr × List V)} (h : Rd H d (.dK (kvF F))) (e : valG F n = some (q, c)) : DGet H d (.str n) (some (.ref q)) := by
  refine .inl ⟨kvF F, Sum.inr n, h, rfl, ?_⟩
  rw [kvF_val, e]
  rfl
theorem Rng.tk {K : PySem.W.Frag} {d p : Addr} {H H' : Hp} (r : Rng d H p) (g : Gw p H H') : Tk K H H' := by
  obtain ⟨ds, k, h, _⟩ := r
  exact Tk.gw h g
theorem cut_take (xs : List V) {v : Int} (h : 0 ≤ v) : cutV xs none (some v) = xs.take v.toNat := by
  unfold cutV
  have e : v = ((v.toNat : Nat) : Int) := by omega
  have i2 : HT.sIx xs.length xs.length (some v) = min v.toNat xs.length := by
    have := HT.sIx_nat xs.length xs.length v.toNat
    rw [← e] at this
    exact this
  rw [HT.sIx_none, i2, List.drop_zero, Nat.sub_zero]
  by_cases hv : v.toNat ≤ xs.length
  · rw [Nat.min_eq_left hv]
  · rw [Nat.min_eq_right (by omega), List.take_length, List.take_of_length_le (by omega)]
def rTupK (K : PySem.W.Frag) : List V → Hp → VK → Prop := fun xs H Q => ∃ p ys, xs = [V.ref p] ∧ ((SqL K H p ys ∧ ∀ l, H l = none → Q (.ref l) (upd H l (.tup ys))) ∨ (SqT K H p ys ∧ Q (.ref p) H))
theorem call_tuple_K {X : Cx} {K : PySem.W.Frag} (e : X.K = K) : CallR X (.type "tuple") (rTupK K) := by
  subst e
  exact call_tuple_of
theorem hu65 {k : Nat} {A : Around} (hr : Room k A) : A.units + 65 < cLine := by have := hr.un; omega
end K1
namespace K1
open PySem PySem.Spec PyProof.Rows L2 Ow Tlz
/-! data that the law compares -/
structure Gd (k : Nat) (x : PyData) : Prop where
  i : ist x = true
  d : PyData.depth x ≤ k
  c : PyData.canLay0 x = true
theorem Gd.up {k j : Nat} {d : PyData} (h : Gd k d) (l : k ≤ j) : Gd j d := ⟨h.i, Nat.le_trans h.d l, h.c⟩
theorem Gd.tup {k : Nat} {ds : List PyData} (l : ds.length ≤ 1000) (h : ∀ d ∈ ds, Gd k d) : Gd (k + 1) (.tuple ds) := by
  refine ⟨ist_tup l fun x m => (h x m).i, ?_, ?_⟩
  · rw [PyData.depth]
    have := depthAll_le fun x m => (h x m).d
    omega
  · rw [PyData.canLay0]
    exact layAll fun x m => (h x m).c
theorem Gd.lst {k : Nat} {ds : List PyData} (l : ds.length ≤ 1000) (h : ∀ d ∈ ds, Gd k d) : Gd (k + 1) (.list ds) := by
  refine ⟨ist_lst l fun x m => (h x m).i, ?_, ?_⟩
  · rw [PyData.depth]
    have := depthAll_le fun x m => (h x m).d
    omega
  · rw [PyData.canLay0]
    exact layAll fun x m => (h x m).c
theorem Gd.int (i : Int) : Gd 0 (.int i) := ⟨by rw [ist], by simp [PyData.depth], by simp [PyData.canLay0]⟩
theorem Gd.bool (i : Bool) : Gd 0 (.bool i) := ⟨by rw [ist], by simp [PyData.depth], by simp [PyData.canLay0]⟩
theorem Gd.str {z : Str} (p : Pr z) : Gd 0 (.str z) := ⟨by rw [ist], by simp [PyData.depth], p.ok⟩
theorem Gd.sc {v : V} (h : Scal v) : Gd 0 (scD v) := by
  rcases h with ⟨i, rfl, _⟩ | ⟨z, rfl, p, _⟩
  · exact Gd.int i
  · exact Gd.str p
theorem Gd.row {xs : List V} (h : ∀ x ∈ xs, Scal x) (l : xs.length ≤ 1000) : Gd 1 (rowD xs) := by
  refine Gd.tup (by rw [List.length_map]; exact l) fun d m => ?_
  obtain ⟨x, mx, rfl⟩ := List.mem_map.mp m
  exact Gd.sc (h x mx)
theorem Gd.shaped {k : Nat} {d : PyData} (h : Gd k d) (l : k ≤ 60) : SeqAt.shaped d = true := shaped_of h.c h.d l
/-- some values with data -/
def CD (K : PySem.W.Frag) (H : Hp) (c : List V) : Prop := ∃ ds, DpAll K H c ds ∧ (∀ d ∈ ds, Gd 1 d) ∧ noLs ds = true
theorem CD.tk {K : PySem.W.Frag} {H H' : Hp} {c : List V} (t : Tk K H H') (h : CD K H c) : CD K H' c := by
  obtain ⟨ds, a, b, n⟩ := h
  exact ⟨ds, DpAll.tk t ds _ n a, b, n⟩
theorem CD.same {K : PySem.W.Frag} {H H' : Hp} {c : List V} (s : Same H H') (h : CD K H c) : CD K H' c := h.tk (Tk.same s)
theorem CD.cons {K : PySem.W.Frag} {H : Hp} {v : V} {c : List V} {d : PyData} (a : Dp K H v d) (g : Gd 1 d) (n : noL d = true) (h : CD K H c) : CD K H (v :: c) := by
  obtain ⟨ds, b, e, m⟩ := h
  refine ⟨d :: ds, .cons a b, fun x m => ?_, by rw [noLs, n, m]; rfl⟩
  rcases List.mem_cons.mp m with z | z
  · rw [z]; exact g
  · exact e x z
theorem CD.nil {K : PySem.W.Frag} {H : Hp} : CD K H [] := ⟨[], .nil, (fun _ m => by cases m), by rw [noLs]⟩
theorem CD.int {K : PySem.W.Frag} {H : Hp} {i : Int} {c : List V} (h : CD K H c) : CD K H (.int i :: c) := CD.cons (.int i) ((Gd.int i).up (by omega)) (by rw [noL] <;> simp) h
theorem CD.str {K : PySem.W.Frag} {H : Hp} {z : Str} {c : List V} (p : Pr z) (h : CD K H c) : CD K H (.str z :: c) := CD.cons (.str z) ((Gd.str p).up (by omega)) (by rw [noL] <;> simp) h
/-- texts -/
theorem strs_dp {K : PySem.W.Frag} {H : Hp} : ∀ {xs : List V}, (∀ x ∈ xs, ∃ z, x = .str z ∧ Pr z) → ∃ ds, DpAll K H xs ds ∧ (∀ d ∈ ds, Gd 0 d) ∧ noLs ds = true
  | [], _ => ⟨[], .nil, (fun _ m => by cases m), by rw [noLs]⟩
  | x :: xs, h => by
    obtain ⟨ds, a, b, n⟩ := strs_dp (K := K) (H := H) (xs := xs) fun y m => h y (List.mem_cons_of_mem _ m)
    obtain ⟨z, rfl, p⟩ := h x List.mem_cons_self
    refine ⟨.str z :: ds, .cons (.str z) a, fun d m => ?_, by rw [noLs, n]; simp [noL]⟩
    rcases List.mem_cons.mp m with e | m
    · rw [e]; exact Gd.str p
    · exact b d m
theorem CD.strs {K : PySem.W.Frag} {H : Hp} {a : Addr} {xs c : List V} (h : SqT K H a xs) (hx : ∀ x ∈ xs, ∃ z, x = .str z ∧ Pr z) (l : xs.length ≤ 1000) (t : CD K H c) : CD K H (.ref a :: c) := by
  obtain ⟨ds, b, e, n⟩ := strs_dp (K := K) (H := H) hx
  exact CD.cons (.tup h b) (Gd.tup (by rw [← DpAll.len b]; exact l) e) (by rw [noL]; exact n) t
/-! items with data -/
def itn : It → Str
  | .rel n _ => n
  | .fact n _ _ => n
  | .str n _ => n
  | .lay n _ => n
def cnt : It → List V
  | .rel _ c => c
  | .fact _ _ _ => []
  | .str _ c => c
  | .lay _ v => [v]
def cln : It → Nat
  | .rel _ _ => 2
  | .fact _ _ _ => 0
  | .str _ _ => 4
  | .lay _ _ => 1
structure ItG (K : PySem.W.Frag) (H : Hp) (a : Addr) (i : It) : Prop where
  at_ : ItAt K H a i
  n : Pr (itn i)
  c : CD K H (cnt i)
  l : (cnt i).length = cln i
theorem ItG.tk {K : PySem.W.Frag} {H H' : Hp} {a : Addr} {i : It} (t : Tk K H H') (h : ItG K H a i) : ItG K H' a i := ⟨h.at_.tk t, h.n, h.c.tk t, h.l⟩
theorem ItG.same {K : PySem.W.Frag} {H H' : Hp} {a : Addr} {i : It} (s : Same H H') (h : ItG K H a i) : ItG K H' a i := ⟨h.at_.tk (Tk.same s), h.n, h.c.same s, h.l⟩
def irf (its : Its) : List V := its.map fun t => .ref t.1
def ItsG (K : PySem.W.Frag) (H : Hp) (its : Its) : Prop := ∀ t ∈ its, ItG K H t.1 t.2
theorem ItsG.tk {K : PySem.W.Frag} {H H' : Hp} {its : Its} (s : Tk K H H') (h : ItsG K H its) : ItsG K H' its := fun t m => (h t m).tk s
theorem ItsG.same {K : PySem.W.Frag} {H H' : Hp} {its : Its} (s : Same H H') (h : ItsG K H its) : ItsG K H' its := fun t m => (h t m).same s
theorem ItsG.sc {K : PySem.W.Frag} {H : Hp} {its : Its} (h : ItsG K H its) : ScI its := fun t m => by
  have g := (h t m).at_
  obtain ⟨a, i⟩ := t
  cases i with
  | fact n r row => exact g.2.2.1
  | rel n c => exact fun _ m => by cases m
  | str n c => exact fun _ m => by cases m
  | lay n v => exact fun _ m => by cases m
theorem irf_get {its : Its} {i : Nat} {x : V} (h : (irf its)[i]? = some x) : ∃ t, its[i]? = some t ∧ x = .ref t.1 := by
  unfold irf at h
  rw [List.getElem?_map] at h
  cases e : its[i]? with
  | none => rw [e] at h; cases h
  | some t => rw [e] at h; exact ⟨t, rfl, (Option.some.inj h).symm⟩
theorem irf_len (its : Its) : (irf its).length = its.length := by unfold irf; rw [List.length_map]
theorem irf_app (its jts : Its) : irf (its ++ jts) = irf its ++ irf jts := by unfold irf; rw [List.map_append]
theorem ItsG.app {K : PySem.W.Frag} {H : Hp} {its jts : Its} (h : ItsG K H its) (g : ItsG K H jts) : ItsG K H (its ++ jts) := fun t m => by
  rcases List.mem_append.mp m with m | m
  · exact h t m
  · exact g t m
theorem ItsG.one {K : PySem.W.Frag} {H : Hp} {t : Addr × It} (h : ItG K H t.1 t.2) : ItsG K H [t] := fun u m => by rw [List.mem_singleton.mp m]; exact h
/-- the data of an item: what its key and its content tell -/
theorem it_data {K : PySem.W.Frag} {H : Hp} {a b : Addr} {i j : It} (h : ItG K H a i) (g : ItG K H b j) (e : ier i = ier j) : ∃ d, Dp K H (.ref a) d ∧ Dp K H (.ref b) d ∧ Gd 2 d := by
  have pw : ∀ w : String, (w = "relation" ∨ w = "fact" ∨ w = "structure" ∨ w = "layout") → Pr (PySem.Str.ofString w) := fun w hw => by
    rcases hw with rfl | rfl | rfl | rfl <;> decide +kernel
  have two : ∀ {w n : Str} {ds : List PyData} {c : List V}, Pr w → Pr n → DpAll K H c ds → (∀ d ∈ ds, Gd 1 d) → c.length ≤ 10 → Gd 2 (.tuple (.str w :: .str n :: ds)) := fun {w n ds c} p1 p2 a h l => by
    have := DpAll.len a
    refine Gd.tup (k := 1) (by rw [List.length_cons, List.length_cons]; omega) fun d m => ?_
    rcases List.mem_cons.mp m with z | m
    · rw [z]; exact (Gd.str p1).up (by omega)
    · rcases List.mem_cons.mp m with z | m
      · rw [z]; exact (Gd.str p2).up (by omega)
      · exact h d m
  cases i with
  | rel n c =>
    cases j with
    | rel m c' =>
      have e1 : n = m := congrArg (fun x => x.2.1) e
      have e2 : c = c' := congrArg (fun x => x.2.2.2) e
      subst e1 e2
      obtain ⟨ds, hd, hg, _⟩ := h.c
      have hd' : DpAll K H c ds := hd
      exact ⟨_, .tup h.at_ (.cons (.str _) (.cons (.str _) hd')), .tup g.at_ (.cons (.str _) (.cons (.str _) hd')), two (pw "relation" (.inl rfl)) h.n hd' hg (by have := h.l; simp [cnt, cln] at this; omega)⟩
    | _ => exact absurd (congrArg (fun x => x.1) e) (by simp [ier])
  | str n c =>
    cases j with
    | str m c' =>
      have e1 : n = m := congrArg (fun x => x.2.1) e
      have e2 : c = c' := congrArg (fun x => x.2.2.2) e
      subst e1 e2
      obtain ⟨ds, hd, hg, _⟩ := h.c
      have hd' : DpAll K H c ds := hd
      exact ⟨_, .tup h.at_ (.cons (.str _) (.cons (.str _) hd')), .tup g.at_ (.cons (.str _) (.cons (.str _) hd')), two (pw "structure" (.inr (.inr (.inl rfl)))) h.n hd' hg (by have := h.l; simp [cnt, cln] at this; omega)⟩
    | _ => exact absurd (congrArg (fun x => x.1) e) (by simp [ier])
  | lay n v =>
    cases j with
    | lay m v' =>
      have e1 : n = m := congrArg (fun x => x.2.1) e
      have e2 : [v] = [v'] := congrArg (fun x => x.2.2.2) e
      cases e2
      subst e1
      obtain ⟨ds, hd, hg, _⟩ := h.c
      have hd' : DpAll K H [v] ds := hd
      exact ⟨_, .tup h.at_ (.cons (.str _) (.cons (.str _) hd')), .tup g.at_ (.cons (.str _) (.cons (.str _) hd')), two (pw "layout" (.inr (.inr (.inr rfl)))) h.n hd' hg (by show 1 ≤ 10; decide)⟩
    | _ => exact absurd (congrArg (fun x => x.1) e) (by simp [ier])
  | fact n r row =>
    cases j with
    | fact m r' row' =>
      have e1 : n = m := congrArg (fun x => x.2.1) e
      have e2 : row = row' := congrArg (fun x => x.2.2.1) e
      subst e1 e2
      obtain ⟨h1, h2, h3, h4⟩ := h.at_
      obtain ⟨g1, g2, _, _⟩ := g.at_
      refine ⟨.tuple [.str "fact", .str n, rowD row], .tup h1 (.cons (.str _) (.cons (.str _) (.cons (.tup h2 (sc_dp h3)) .nil))), .tup g1 (.cons (.str _) (.cons (.str _) (.cons (.tup g2 (sc_dp h3)) .nil))), ?_⟩
      refine Gd.tup (by show 3 ≤ 1000; decide) fun d m => ?_
      simp only [List.mem_cons, List.not_mem_nil, or_false] at m
      rcases m with z | z | z
      · rw [z]; exact (Gd.str (pw "fact" (.inr (.inl rfl)))).up (by omega)
      · rw [z]; exact (Gd.str h.n).up (by omega)
      · rw [z]; exact Gd.row h3 (by omega)
    | _ => exact absurd (congrArg (fun x => x.1) e) (by simp [ier])
theorem its_data {K : PySem.W.Frag} {H : Hp} : ∀ {its jts : Its}, ItsG K H its → ItsG K H jts → its.map te = jts.map te → ∃ ds, DpAll K H (irf its) ds ∧ DpAll K H (irf jts) ds ∧ ∀ d ∈ ds, Gd 2 d
  | [], [], _, _, _ => ⟨[], .nil, .nil, fun _ m => by cases m⟩
  | [], _ :: _, _, _, e => by cases e
  | _ :: _, [], _, _, e => by cases e
  | t :: its, u :: jts, h, g, e => by
    rw [List.map_cons, List.map_cons] at e
    obtain ⟨ds, a, b, c⟩ := its_data (its := its) (jts := jts) (fun x m => h x (List.mem_cons_of_mem _ m)) (fun x m => g x (List.mem_cons_of_mem _ m)) (List.cons.inj e).2
    obtain ⟨d, p, q, r⟩ := it_data (h t List.mem_cons_self) (g u List.mem_cons_self) (List.cons.inj e).1
    refine ⟨d :: ds, .cons p a, .cons q b, fun x m => ?_⟩
    rcases List.mem_cons.mp m with z | m
    · rw [z]; exact r
    · exact c x m
/-! all items of tables, in their order -/
def cOf (R : Tb) (n : Str) : List V := match valG R n with
  | some (_, c) => c
  | none => []
def rOf (F : Fb) (n : Str) : List (Addr × List V) := match valG F n with
  | some (_, rs) => rs
  | none => []
def lOf (L : List (Str × V)) (n : Str) : V := match valG L n with
  | some v => v
  | none => .non
def allE (R : Tb) (F : Fb) (S : Tb) (L : List (Str × V)) (ys fs ss ls : List Str) : List Kt :=
  ys.map (fun n => ier (.rel n (cOf R n))) ++ (fs.flatMap fun n => (rOf F n).map fun t => ier (.fact n t.1 t.2)) ++ ss.map (fun n => ier (.str n (cOf S n))) ++ ls.map fun n => ier (.lay n (lOf L n))
theorem strict {ys : List Str} (nd : ys.Nodup) (h : sortedS ys = true) : ys.Pairwise fun a b => a.cps.toList < b.cps.toList := by
  refine (List.Pairwise.and (sortedS_pw h) nd).imp fun {a b} ⟨h1, h2⟩ => ?_
  rcases str_tot a b with z | z | z
  · exact z
  · exact absurd z h2
  · exact absurd z h1
theorem lt_rel {n m : Str} {c c' : List V} (h : n.cps.toList < m.cps.toList) : tLt (ier (.rel n c)) (ier (.rel m c')) := (tLt_iff (0, n, [], c) (0, m, [], c')).mpr (.inr ⟨rfl, .inl h⟩)
theorem lt_str {n m : Str} {c c' : List V} (h : n.cps.toList < m.cps.toList) : tLt (ier (.str n c)) (ier (.str m c')) := (tLt_iff (2, n, [], c) (2, m, [], c')).mpr (.inr ⟨rfl, .inl h⟩)
theorem lt_lay {n m : Str} {c c' : V} (h : n.cps.toList < m.cps.toList) : tLt (ier (.lay n c)) (ier (.lay m c')) := (tLt_iff (3, n, [], [c]) (3, m, [], [c'])).mpr (.inr ⟨rfl, .inl h⟩)
theorem lt_fact {n m : Str} {r r' : Addr} {c c' : List V} (h : n.cps.toList < m.cps.toList ∨ (n = m ∧ Rlt c c')) : tLt (ier (.fact n r c)) (ier (.fact m r' c')) := (tLt_iff (1, n, c, []) (1, m, c', [])).mpr (.inr ⟨rfl, h⟩)
theorem allE_eq {os : Its} {R S : Tb} {F : Fb} {L : List (Str × V)} {ys fs ss ls : List Str} (h : Rep os R F S L) (ks : KSrt os) (so : ScI os) (py : ys.Perm (R.map (·.1))) (sy : sortedS ys = true) (pf : fs.Perm (F.map (·.1))) (sf : sortedS fs = true)
    (ps : ss.Perm (S.map (·.1))) (ss' : sortedS ss = true) (pl : ls.Perm (L.map (·.1))) (sl : sortedS ls = true) : allE R F S L ys fs ss ls = os.map te := by
  have k1 := strict (py.nodup_iff.mpr h.rn) sy
  have k2 := strict (pf.nodup_iff.mpr h.fd) sf
  have k3 := strict (ps.nodup_iff.mpr h.sn) ss'
  have k4 := strict (pl.nodup_iff.mpr h.ln) sl
  have mt : ∀ x, x ∈ os.map te ↔ ∃ i, Has os i ∧ ier i = x := fun x => by
    rw [List.mem_map]
    exact ⟨fun ⟨t, m, e⟩ => ⟨t.2, ⟨t.1, m⟩, e⟩, fun ⟨i, ⟨a, m⟩, e⟩ => ⟨(a, i), m, e⟩⟩
  have rsc : ∀ n, ∀ t ∈ rOf F n, ∀ x ∈ t.2, Scal x := fun n => by
    unfold rOf
    cases e : valG F n with
    | none => exact fun _ m => by cases m
    | some b => exact (h.fs _ _ _ e).2
  have m1 : ∀ x, x ∈ ys.map (fun n => ier (.rel n (cOf R n))) ↔ ∃ n c, Has os (.rel n c) ∧ ier (.rel n c) = x := fun x => by
    rw [List.mem_map]
    constructor
    · rintro ⟨n, m, e⟩
      have z := valG_key.mp (py.mem_iff.mp m)
      cases ev : valG R n with
      | none => rw [ev] at z; cases z
      | some b =>
        have ec : cOf R n = b.2 := by unfold cOf; rw [ev]
        exact ⟨n, b.2, (h.r n b.2).mp ⟨b.1, ev⟩, by rw [← ec]; exact e⟩
    · rintro ⟨n, c, hs, e⟩
      obtain ⟨q, ev⟩ := (h.r n c).mpr hs
      have ec : cOf R n = c := by unfold cOf; rw [ev]
      exact ⟨n, py.mem_iff.mpr (valG_key.mpr (by rw [ev]; rfl)), by rw [ec]; exact e⟩
  have m3 : ∀ x, x ∈ ss.map (fun n => ier (.str n (cOf S n))) ↔ ∃ n c, Has os (.str n c) ∧ ier (.str n c) = x := fun x => by
    rw [List.mem_map]
    constructor
    · rintro ⟨n, m, e⟩
      have z := valG_key.mp (ps.mem_iff.mp m)
      cases ev : valG S n with
      | none => rw [ev] at z; cases z
      | some b =>
        have ec : cOf S n = b.2 := by unfold cOf; rw [ev]
        exact ⟨n, b.2, (h.s n b.2).mp ⟨b.1, ev⟩, by rw [← ec]; exact e⟩
    · rintro ⟨n, c, hs, e⟩
      obtain ⟨q, ev⟩ := (h.s n c).mpr hs
      have ec : cOf S n = c := by unfold cOf; rw [ev]
      exact ⟨n, ps.mem_iff.mpr (valG_key.mpr (by rw [ev]; rfl)), by rw [ec]; exact e⟩
  have m4 : ∀ x, x ∈ ls.map (fun n => ier (.lay n (lOf L n))) ↔ ∃ n v, Has os (.lay n v) ∧ ier (.lay n v) = x := fun x => by
    rw [List.mem_map]
    constructor
    · rintro ⟨n, m, e⟩
      have z := valG_key.mp (pl.mem_iff.mp m)
      cases ev : valG L n with
      | none => rw [ev] at z; cases z
      | some b =>
        have ec : lOf L n = b := by unfold lOf; rw [ev]
        exact ⟨n, b, (h.l n b).mp ev, by rw [← ec]; exact e⟩
    · rintro ⟨n, c, hs, e⟩
      have ev := (h.l n c).mpr hs
      have ec : lOf L n = c := by unfold lOf; rw [ev]
      exact ⟨n, pl.mem_iff.mpr (valG_key.mpr (by rw [ev]; rfl)), by rw [ec]; exact e⟩
  have m2 : ∀ x, x ∈ (fs.flatMap fun n => (rOf F n).map fun t => ier (.fact n t.1 t.2)) ↔ ∃ n r row, Has os (.fact n r row) ∧ ier (.fact n r row) = x := fun x => by
    rw [List.mem_flatMap]
    constructor
    · rintro ⟨n, m, mm⟩
      obtain ⟨t, mt, e⟩ := List.mem_map.mp mm
      have z := valG_key.mp (pf.mem_iff.mp m)
      cases ev : valG F n with
      | none => rw [ev] at z; cases z
      | some b =>
        have ec : rOf F n = b.2 := by unfold rOf; rw [ev]
        rw [ec] at mt
        obtain ⟨r, hr⟩ := (h.f n t.2).mp ⟨b.1, b.2, ev, t.1, mt⟩
        exact ⟨n, r, t.2, hr, e⟩
    · rintro ⟨n, r, row, hs, e⟩
      obtain ⟨q, rs, ev, r', mr⟩ := (h.f n row).mpr ⟨r, hs⟩
      have ec : rOf F n = rs := by unfold rOf; rw [ev]
      exact ⟨n, pf.mem_iff.mpr (valG_key.mpr (by rw [ev]; rfl)), List.mem_map.mpr ⟨(r', row), by rw [ec]; exact mr, e⟩⟩
  have lo : ∀ (a b : Kt), a.1 < b.1 → tLt a b := fun a b l => (tLt_iff a b).mpr (.inl l)
  have tsc : ∀ x ∈ allE R F S L ys fs ss ls, tSc x := fun x m => by
    unfold allE at m
    rw [List.mem_append, List.mem_append, List.mem_append, m1, m2, m3, m4] at m
    rcases m with ((⟨n, c, _, e⟩ | ⟨n, r, row, ⟨a, m⟩, e⟩) | ⟨n, c, _, e⟩) | ⟨n, v, _, e⟩
    · rw [← e]; exact fun _ m => by cases m
    · rw [← e]; exact so _ m
    · rw [← e]; exact fun _ m => by cases m
    · rw [← e]; exact fun _ m => by cases m
  refine srt_uniq (lt := tLt) ?_ (List.pairwise_map.mpr ks) (fun x mx y my => tLt_asym (tsc x mx) (tsc y my)) fun x => ?_
  · unfold allE
    rw [List.pairwise_append, List.pairwise_append, List.pairwise_append]
    refine ⟨⟨⟨?_, ?_, ?_⟩, ?_, ?_⟩, ?_, ?_⟩
    · exact List.pairwise_map.mpr (k1.imp fun h => lt_rel h)
    · rw [List.pairwise_flatMap]
      refine ⟨fun n _ => ?_, k2.imp fun {a b} hab x mx y my => ?_⟩
      · rw [List.pairwise_map]
        have : Srt (rOf F n) := by
          unfold rOf
          cases e : valG F n with
          | none => exact .nil
          | some b => exact (h.fs _ _ _ e).1
        exact this.imp fun h => lt_fact (.inr ⟨rfl, h⟩)
      · obtain ⟨t, _, e1⟩ := List.mem_map.mp mx
        obtain ⟨u, _, e2⟩ := List.mem_map.mp my
        rw [← e1, ← e2]
        exact lt_fact (.inl hab)
    · intro a ma b mb
      obtain ⟨n, c, _, e⟩ := (m1 a).mp ma
      obtain ⟨n', r, row, _, e'⟩ := (m2 b).mp mb
      rw [← e, ← e']
      exact lo _ _ (by show (0 : Int) < 1; decide)
    · exact List.pairwise_map.mpr (k3.imp fun h => lt_str h)
    · intro a ma b mb
      obtain ⟨n', c', _, e'⟩ := (m3 b).mp mb
      rw [← e']
      rcases List.mem_append.mp ma with ma | ma
      · obtain ⟨n, c, _, e⟩ := (m1 a).mp ma
        rw [← e]
        exact lo _ _ (by show (0 : Int) < 2; decide)
      · obtain ⟨n, r, row, _, e⟩ := (m2 a).mp ma
        rw [← e]
        exact lo _ _ (by show (1 : Int) < 2; decide)
    · exact List.pairwise_map.mpr (k4.imp fun h => lt_lay h)
    · intro a ma b mb
      obtain ⟨n', c', _, e'⟩ := (m4 b).mp mb
      rw [← e']
      rcases List.mem_append.mp ma with ma | ma
      · rcases List.mem_append.mp ma with ma | ma
        · obtain ⟨n, c, _, e⟩ := (m1 a).mp ma
          rw [← e]
          exact lo _ _ (by show (0 : Int) < 3; decide)
        · obtain ⟨n, r, row, _, e⟩ := (m2 a).mp ma
          rw [← e]
          exact lo _ _ (by show (1 : Int) < 3; decide)
      · obtain ⟨n, c, _, e⟩ := (m3 a).mp ma
        rw [← e]
        exact lo _ _ (by show (2 : Int) < 3; decide)
  · rw [mt]
    unfold allE
    rw [List.mem_append, List.mem_append, List.mem_append, m1, m2, m3, m4]
    constructor
    · rintro (((⟨n, c, hs, e⟩ | ⟨n, r, row, hs, e⟩) | ⟨n, c, hs, e⟩) | ⟨n, v, hs, e⟩)
      · exact ⟨_, hs, e⟩
      · exact ⟨_, hs, e⟩
      · exact ⟨_, hs, e⟩
      · exact ⟨_, hs, e⟩
    · rintro ⟨i, hs, e⟩
      cases i with
      | rel n c => exact .inl (.inl (.inl ⟨n, c, hs, e⟩))
      | fact n r row => exact .inl (.inl (.inr ⟨n, r, row, hs, e⟩))
      | str n c => exact .inl (.inr ⟨n, c, hs, e⟩)
      | lay n v => exact .inr ⟨n, v, hs, e⟩
end K1
namespace K1
open PySem PySem.Spec PyProof.Rows L2 Ow Tlz
/-! packs and rows as data -/
def secD (s : List Int) : PyData := .list (s.map .int)
def pkD (ss : List (List Int)) : PyData := .list (ss.map secD)
theorem ints_dp {K : PySem.W.Frag} {H : Hp} : ∀ s : List Int, DpAll K H (s.map V.int) (s.map PyData.int)
  | [] => .nil
  | x :: s => .cons (.int x) (ints_dp s)
theorem secs_dp {K : PySem.W.Frag} {H : Hp} : ∀ {ts : List (Addr × List Int)}, Parts H ts → DpAll K H (refs ts) ((ts.map (·.2)).map secD)
  | [], _ => .nil
  | t :: ts, h => .cons (.lst (SqL.of (h t List.mem_cons_self)) (ints_dp t.2)) (secs_dp (ts := ts) fun u m => h u (List.mem_cons_of_mem _ m))
theorem pk_dp {K : PySem.W.Frag} {H : Hp} {p : Addr} {ts : List (Addr × List Int)} {ss : List (List Int)} (h : H p = some (.lst (refs ts))) (pt : Parts H ts) (e : ts.map (·.2) = ss) : Dp K H (.ref p) (pkD ss) := by
  rw [← e]
  exact .lst (SqL.of h) (secs_dp pt)
theorem ists_ints : ∀ s : List Int, ists (s.map PyData.int) = true
  | [] => by simp [ists]
  | x :: s => by rw [List.map_cons, ists, ists_ints s]; simp [ist]
theorem depth_ints : ∀ s : List Int, PyData.depthAll (s.map PyData.int) = 0
  | [] => by simp [PyData.depthAll]
  | x :: s => by rw [List.map_cons, PyData.depthAll, depth_ints s]; simp [PyData.depth]
theorem pk_depth (ss : List (List Int)) : (pkD ss).depth ≤ 2 := by
  unfold pkD
  rw [PyData.depth]
  have : PyData.depthAll (ss.map secD) ≤ 1 := depthAll_le fun x m => by
    obtain ⟨s, _, rfl⟩ := List.mem_map.mp m
    unfold secD
    rw [PyData.depth, depth_ints]
    exact Nat.le_refl _
  omega
end K1
namespace K1
open PySem PySem.Spec PyProof.Rows L2 Ow
abbrev s_law_name : Stmt := topS 48
abbrev N_law_name : List Str := ["state"]
theorem sc_law_name : FnScope N_law_name ["state"] (defScope s_law_name) := ⟨rfl, rfl, rfl, by decide +kernel, rfl, by decide +kernel, by decide +kernel⟩
section
variable {P : Program} {w : World} {K : PySem.W.Frag} {mg : Str → Option Value} {base : Heap}
theorem ok_name {f : Addr} {fd : FuncData} (F : Fun K "_law_name" "_law_name" s_law_name f fd)
    (D_law_next : Kn P w K mg base 3 "_law_next" ["state", "limit"] spNext) :
    FnOk P w K mg base CX0 4 f fd ["state"] spName := by
  refine F.ok sc_law_name (fun vs H Q E h => ?_) (fun cdv A outer s H vs Q E hr h => ?_)
  · obtain ⟨p, d, rfl, _⟩ := h
    rfl
  · obtain ⟨p, d, rfl, rg, q⟩ := h
    refine ⟨_, (pss_one (ps_ret (pe_ix ix_list (pe_lst (pa_cons pe_str (pa_cons pe_str (pa_cons pe_str (pa_cons pe_str (pa_cons pe_str (pa_cons pe_str pa_nil))))))) (pe_kn D_law_next hr (pa_cons (pv 0) (pa_cons pe_int pa_nil))) (fun _ _ => rfl)))), ?_⟩
    refine ⟨by decide, fun o no => ⟨_, rfl, p, d, 6, rfl, by decide, rg.same (Same.new no), ?_⟩⟩
    rintro x H' ⟨v, rfl, v0, v1⟩ gw rg'
    obtain ⟨y, hy, my⟩ := at_in (xs := [V.str "a", .str "b", .str "a2", .str "long_name_12", .str "s_", .str "r"]) v0 v1
    refine ⟨o, _, v, y, rfl, rfl, SqL.of (gw.keep upd_same (rg.free no).1), hy, q _ _ ?_ (fun b u nb e => gw b u nb (Gw.new no b u nb e)) rg'⟩
    simp only [List.mem_cons, List.not_mem_nil, or_false] at my
    rcases my with rfl | rfl | rfl | rfl | rfl | rfl <;> exact ⟨_, rfl, by decide +kernel⟩
end
end K1

namespace K1
open PySem PySem.Spec PyProof.Rows L2 Ow
abbrev s_law_row : Stmt := topS 47
abbrev N_law_row : List Str := ["state", "width", "k"]
theorem sc_law_row : FnScope N_law_row ["state", "width"] (defScope s_law_row) := ⟨rfl, rfl, rfl, by decide +kernel, rfl, by decide +kernel, by decide +kernel⟩
section
variable {P : Program} {w : World} {K : PySem.W.Frag} {mg : Str → Option Value} {base : Heap}
theorem ok_row {f : Addr} {fd : FuncData} (F : Fun K "_law_row" "_law_row" s_law_row f fd) (T : Bl mg)
    (D_law_value : Kn P w K mg base 5 "_law_value" ["state"] spValue) :
    FnOk P w K mg base CX0 6 f fd ["state", "width"] spRow := by
  refine F.ok sc_law_row (fun vs H Q E h => ?_) (fun cdv A outer s H vs Q E hr h => ?_)
  · obtain ⟨p, d, n, rfl, _⟩ := h
    rfl
  · obtain ⟨p, d, n, rfl, hn, rg, q⟩ := h
    refine ⟨_, (pss_one (ps_ret (pe_callTy call_tuple_of (by rfl) T.tuple (by decide +kernel) (pa_cons (pe_lc (own := [("k", 2)]) (g := gName 2) rfl sc_law_row.nd (pi_range1 (by rfl) T.range (pa_cons (pv 1) pa_nil)) (blkOk_by (own := [("k", 2)]) (N := N_law_row) (sc := defScope s_law_row) (by decide +kernel)) (fun _ _ _ _ _ => pg_name (i := 2) sc_law_row.nd rfl (Or.inl rfl)) (fun _ _ _ _ _ => pts_nil) (fun _ _ _ _ _ => (pe_kn D_law_value hr (pa_cons (pv 0) pa_nil)))) pa_nil)))), ?_⟩
    refine ⟨_, rfl, (n : Int), rfl, by omega, by omega, fun D nD => lc_range (lo := 0) (n := (n : Int).toNat) (fun i H4 => ∃ ys : List V, H4 D = some (.lst ys) ∧
      ys.length = i ∧ (∀ y ∈ ys, Scal y) ∧ Gw p H H4 ∧ Rng d H4 p) ⟨[], upd_same, rfl, fun _ z => (nomatch z), Gw.new nD, rg.same (Same.new nD)⟩ (fun i H4 hi hP => ?_) (fun H4 hP => ?_)⟩
    · obtain ⟨ys, eD, ly, l1, gw4, rg4⟩ := hP
      refine ⟨rfl, ?_⟩
      refine ⟨_, rfl, p, d, rfl, rg4, ?_⟩
      rintro x H5 sx gw5 rg5
      refine ⟨ys, gw5.keep eD (rg.free nD).1, small (m := 1000) (by omega) (by decide), ys ++ [x], upd_same, by rw [List.length_append, ly]; rfl, fun y hy => ?_, Gw.over (gw4.trans gw5) nD, rg5.upd (rg.free nD)⟩
      rcases List.mem_append.mp hy with h | h
      · exact l1 y h
      · rw [List.mem_singleton.mp h]
        exact sx
    · obtain ⟨ys, eD, ly, l1, gw4, rg4⟩ := hP
      exact ⟨D, ys, rfl, .inl ⟨SqL.of eD, fun l nl => q _ _ ⟨l, ys, rfl, upd_same, by omega, l1⟩ (Gw.over gw4 (gw4.free nl (rg4.free nl).1)) (rg4.upd (rg4.free nl))⟩⟩
end
end K1

namespace K1
open PySem PySem.Spec PyProof.Rows L2 Ow Tlz
abbrev s_law_key : Stmt := topS 51
abbrev N_law_key : List Str := ["item"]
theorem sc_law_key : FnScope N_law_key ["item"] (defScope s_law_key) := ⟨rfl, rfl, rfl, by decide +kernel, rfl, by decide +kernel, by decide +kernel⟩
abbrev sortTab : List (Key × V) := mergeK [] [(Sum.inr "relation", .int 0), (Sum.inr "structure", .int 2), (Sum.inr "layout", .int 3)]
theorem tab0 : valV sortTab (Sum.inr "relation") = some (.int 0) := by decide +kernel
theorem tab2 : valV sortTab (Sum.inr "structure") = some (.int 2) := by decide +kernel
theorem tab3 : valV sortTab (Sum.inr "layout") = some (.int 3) := by decide +kernel
section
variable {P : Program} {w : World} {K : PySem.W.Frag} {mg : Str → Option Value} {base : Heap}
/-- the key as a new tuple -/
theorem key_new {H H1 : Hp} {Q : VK} {s : Int} {n : Str} {row : List V} {r : Addr} (q : Mak H Q fun y H' => KeyAt K H' y s n row) (sm : Same H H1) (hr : SqT K H1 r row) (pn : Pr n)
    (sr : ∀ y ∈ row, Scal y) (lr : row.length ≤ 1000) : ∀ p, H1 p = none → Q (.ref p) (upd H1 p (.tup [.int s, .str n, .ref r])) := fun p np =>
  q _ _ ⟨p, r, rfl, SqT.of upd_same, Tk.same (Same.new np) _ _ hr, pn, sr, lr⟩ (sm.trans (Same.new np))
theorem ok_lkey {f : Addr} {fd : FuncData} (F : Fun K "_law_key" "_law_key" s_law_key f fd) :
    FnOk P w K mg base CX0 1 f fd ["item"] (spLKey K) := by
  refine F.ok sc_law_key (fun vs H Q E h => ?_) (fun cdv A outer s0 H vs Q E hr h => ?_)
  · obtain ⟨x, s, n, row, rfl, _⟩ := h
    rfl
  · obtain ⟨x, s, n, row, rfl, ⟨a, xs, rfl, hx, pn, sr, lr, hc⟩, q⟩ := h
    refine ⟨_, (pss_cons (ps_if (pt_cmpR op_eq (pe_ix ix_tup (pv 0) pe_int (fun _ _ => rfl)) pe_str (nomark _)) (pss_one (ps_ret (pe_tup (pa_cons pe_int (pa_cons (pe_ix ix_tup (pv 0) pe_int (fun _ _ => rfl)) (pa_cons (pe_ix ix_tup (pv 0) pe_int (fun _ _ => rfl)) pa_nil)))))) pss_nil)
      (pss_one (ps_ret (pe_tup (pa_cons (pe_dget (hu_of hr) (pe_disp (pps_cons pe_str pe_int (pps_cons pe_str pe_int (pps_cons pe_str pe_int pps_nil))) (by rfl) (by rfl) (fun z => by cases z) (by decide)) (pe_ix ix_tup (pv 0) pe_int (fun _ _ => rfl)) (fun _ _ => rfl)) (pa_cons (pe_ix ix_tup (pv 0) pe_int (fun _ _ => rfl)) (pa_cons (pe_tup pa_nil) pa_nil))))))), ?_⟩
    rcases hc with ⟨rest, rfl, rfl, rfl⟩ | ⟨rest, rfl, rfl, rfl⟩ | ⟨rest, rfl, rfl, rfl⟩ | ⟨r, rfl, rfl, hrw⟩
    · refine ⟨_, rfl, a, _, 0, .str "relation", rfl, rfl, hx, at_of (j := 0) rfl rfl, rfl, _, rfl, ite2 (fun e => absurd e (by decide +kernel)) (fun _ => ?_)⟩
      refine fun t nt => ⟨upd_same, [(Sum.inr "relation", .int 0), (Sum.inr "structure", .int 2), (Sum.inr "layout", .int 3)], rfl, by decide, ?_⟩
      have s1 : Same H (upd (upd H t (.dK [])) t (.dK sortTab)) := Same.over (Same.new nt) nt
      refine ⟨_, rfl, a, _, 0, .str "relation", rfl, rfl, Tk.same s1 _ _ hx, at_of (j := 0) rfl rfl, t, .int 0, rfl, tab0 ▸ DGet.k (k := Sum.inr "relation") upd_same, ?_⟩
      refine ⟨_, rfl, a, _, 1, .str n, rfl, rfl, Tk.same s1 _ _ hx, at_of (j := 1) rfl rfl, sz 0, fun u nu => ⟨sz 3, ?_⟩⟩
      exact key_new q (s1.trans (Same.new nu)) (SqT.of upd_same) pn sr lr
    · refine ⟨_, rfl, a, _, 0, .str "structure", rfl, rfl, hx, at_of (j := 0) rfl rfl, rfl, _, rfl, ite2 (fun e => absurd e (by decide +kernel)) (fun _ => ?_)⟩
      refine fun t nt => ⟨upd_same, [(Sum.inr "relation", .int 0), (Sum.inr "structure", .int 2), (Sum.inr "layout", .int 3)], rfl, by decide, ?_⟩
      have s1 : Same H (upd (upd H t (.dK [])) t (.dK sortTab)) := Same.over (Same.new nt) nt
      refine ⟨_, rfl, a, _, 0, .str "structure", rfl, rfl, Tk.same s1 _ _ hx, at_of (j := 0) rfl rfl, t, .int 2, rfl, tab2 ▸ DGet.k (k := Sum.inr "structure") upd_same, ?_⟩
      refine ⟨_, rfl, a, _, 1, .str n, rfl, rfl, Tk.same s1 _ _ hx, at_of (j := 1) rfl rfl, sz 0, fun u nu => ⟨sz 3, ?_⟩⟩
      exact key_new q (s1.trans (Same.new nu)) (SqT.of upd_same) pn sr lr
    · refine ⟨_, rfl, a, _, 0, .str "layout", rfl, rfl, hx, at_of (j := 0) rfl rfl, rfl, _, rfl, ite2 (fun e => absurd e (by decide +kernel)) (fun _ => ?_)⟩
      refine fun t nt => ⟨upd_same, [(Sum.inr "relation", .int 0), (Sum.inr "structure", .int 2), (Sum.inr "layout", .int 3)], rfl, by decide, ?_⟩
      have s1 : Same H (upd (upd H t (.dK [])) t (.dK sortTab)) := Same.over (Same.new nt) nt
      refine ⟨_, rfl, a, _, 0, .str "layout", rfl, rfl, Tk.same s1 _ _ hx, at_of (j := 0) rfl rfl, t, .int 3, rfl, tab3 ▸ DGet.k (k := Sum.inr "layout") upd_same, ?_⟩
      refine ⟨_, rfl, a, _, 1, .str n, rfl, rfl, Tk.same s1 _ _ hx, at_of (j := 1) rfl rfl, sz 0, fun u nu => ⟨sz 3, ?_⟩⟩
      exact key_new q (s1.trans (Same.new nu)) (SqT.of upd_same) pn sr lr
    · refine ⟨_, rfl, a, _, 0, .str "fact", rfl, rfl, hx, at_of (j := 0) rfl rfl, rfl, _, rfl, ite2 (fun _ => ?_) (fun e => absurd (by decide +kernel) e)⟩
      refine ⟨_, rfl, a, _, 1, .str n, rfl, rfl, hx, at_of (j := 1) rfl rfl, _, rfl, a, _, 2, .ref r, rfl, rfl, hx, at_of (j := 2) rfl rfl, sz 3, ?_⟩
      exact key_new q (Same.refl H) hrw pn sr lr
end
end K1

namespace K1
open PySem PySem.Spec PyProof.Rows L2 Ow Tlz
abbrev s_law_key_order : Stmt := topS 52
abbrev N_law_key_order : List Str := ["first", "second"]
theorem sc_law_key_order : FnScope N_law_key_order ["first", "second"] (defScope s_law_key_order) := ⟨rfl, rfl, rfl, by decide +kernel, rfl, by decide +kernel, by decide +kernel⟩
theorem cutp2 (a b c : V) : cutV [a, b, c] none (some 2) = [a, b] := rfl
theorem lay2 {s : Int} {n : Str} (p : Pr n) : (kd2 s n).canLay0 = true := by
  have a := p.ok
  unfold kd2
  rw [PyData.canLay0, PyData.canLayAll0, PyData.canLayAll0, PyData.canLayAll0, a]
  simp [PyData.canLay0]
theorem deep2 (s : Int) (n : Str) : (kd2 s n).depth ≤ 1 := by
  simp [kd2, PyData.depth, PyData.depthAll]
theorem ok2 (s s' : Int) (n n' : Str) : okD 1 (kd2 s n) (kd2 s' n') = true := by
  simp only [kd2, okD, okL]
  split
  · split <;> rfl
  · rfl
section
variable {P : Program} {w : World} {K : PySem.W.Frag} {mg : Str → Option Value} {base : Heap}
theorem ok_lord {f : Addr} {fd : FuncData} (F : Fun K "_law_key_order" "_law_key_order" s_law_key_order f fd) (T : Bl mg)
    (D_law_order : Kn P w K mg base 2 "_law_order" ["first", "second"] (spOrder K)) :
    FnOk P w K mg base CX0 3 f fd ["first", "second"] (spLOrd K) := by
  refine F.ok sc_law_key_order (fun vs H Q E h => ?_) (fun cdv A outer s0 H vs Q E hr h => ?_)
  · obtain ⟨x, y, s, s', n, n', row, row', rfl, _⟩ := h
    rfl
  · obtain ⟨x, y, s, s', n, n', row, row', rfl, ⟨a, r, rfl, ha, hrw, pn, sr, lr⟩, ⟨b, r', rfl, hb, hrw', pn', sr', lr'⟩, q⟩ := h
    refine ⟨_, (pss_cons (ps_if (pt_cmpR (op_neD (hu64 hr)) (pe_slice sl_tupA (pv 0) po_none (po_some pe_int)) (pe_slice sl_tupA (pv 1) po_none (po_some pe_int)) (nomark _)) (pss_one (ps_ret (pe_ix ix_list (pe_lst (pa_cons pe_int (pa_cons (pe_un un_neg pe_int) pa_nil))) (pe_callTy call_int1 (by rfl) T.int (by decide +kernel) (pa_cons (pe_cmpR (op_ltK hr) (pe_slice sl_tupA (pv 0) po_none (po_some pe_int)) (pe_slice sl_tupA (pv 1) po_none (po_some pe_int)) (nomark _)) pa_nil)) (fun _ _ => rfl)))) pss_nil)
      (pss_one (ps_ret (pe_kn D_law_order hr (pa_cons (pe_ix ix_tup (pv 0) pe_int (fun _ _ => rfl)) (pa_cons (pe_ix ix_tup (pv 1) pe_int (fun _ _ => rfl)) pa_nil)))))), ?_⟩
    refine ⟨_, rfl, 2, rfl, a, _, rfl, ha, fun z => absurd (show (2 : Nat) = 3 from z.2) (by decide), fun _ t1 n1 => ?_⟩
    have s1 : Same H (upd H t1 (.tup (cutV [.int s, .str n, .ref r] none (some 2)))) := Same.new n1
    refine ⟨_, rfl, 2, rfl, b, _, rfl, Tk.same s1 _ _ hb, fun z => absurd (show (2 : Nat) = 3 from z.2) (by decide), fun _ t2 n2 => ?_⟩
    have s2 := Same.new (o := .tup (cutV [.int s', .str n', .ref r'] none (some 2))) n2
    have s12 := s1.trans s2
    refine ⟨kd2 s n, kd2 s' n', .tup (Tk.same s2 _ _ (SqT.of upd_same)) (.cons (.int s) (.cons (.str n) .nil)), .tup (SqT.of upd_same) (.cons (.int s') (.cons (.str n') .nil)),
      shaped_of (lay2 pn) (deep2 s n) (by decide), shaped_of (lay2 pn') (deep2 s' n') (by decide), _, rfl, ite2 (fun e => ?_) (fun e => ?_)⟩
    · refine ⟨1, rfl, by decide, fun o no => ?_⟩
      have s3 := Same.new (o := .lst [V.int 1, V.int (-1)]) no
      have s13 := s12.trans s3
      refine ⟨_, rfl, 2, rfl, a, _, rfl, Tk.same s13 _ _ ha, fun z => absurd (show (2 : Nat) = 3 from z.2) (by decide), fun _ t4 n4 => ?_⟩
      have s4 := Same.new (o := .tup (cutV [.int s, .str n, .ref r] none (some 2))) n4
      have s14 := s13.trans s4
      refine ⟨_, rfl, 2, rfl, b, _, rfl, Tk.same s14 _ _ hb, fun z => absurd (show (2 : Nat) = 3 from z.2) (by decide), fun _ t5 n5 => ?_⟩
      have s5 := Same.new (o := .tup (cutV [.int s', .str n', .ref r'] none (some 2))) n5
      refine ⟨1, kd2 s n, kd2 s' n', ⟨.tup (Tk.same s5 _ _ (SqT.of upd_same)) (.cons (.int s) (.cons (.str n) .nil)), .tup (SqT.of upd_same) (.cons (.int s') (.cons (.str n') .nil)),
        lay2 pn, lay2 pn', deep2 s n, deep2 s' n', ok2 s s' n n', by decide⟩, .inr ⟨_, rfl, ?_⟩⟩
      have eo := s5 _ _ (s4 _ _ (upd_same (H := _) (a := o) (o := .lst [V.int 1, V.int (-1)])))
      have fin : ∀ H', Same H H' → Q (.int (if ltD 1 (kd2 s n) (kd2 s' n') = true then -1 else 1)) H' := fun H' sm => q _ _ (by
        unfold keyOrd
        rw [if_pos e]) sm
      have s15 := s14.trans s5
      cases hl : ltD 1 (kd2 s n) (kd2 s' n') with
      | true =>
        rw [hl] at fin
        exact ⟨o, _, 1, .int (-1), rfl, rfl, SqL.of eo, at_of (j := 1) rfl rfl, fin _ s15⟩
      | false =>
        rw [hl] at fin
        exact ⟨o, _, 0, .int 1, rfl, rfl, SqL.of eo, at_of (j := 0) rfl rfl, fin _ s15⟩
    · refine ⟨_, rfl, a, _, 2, .ref r, rfl, rfl, Tk.same s12 _ _ ha, at_of (j := 2) rfl rfl, _, rfl, b, _, 2, .ref r', rfl, rfl, Tk.same s12 _ _ hb, at_of (j := 2) rfl rfl,
        r, r', row, row', rfl, Tk.same s12 _ _ hrw, Tk.same s12 _ _ hrw', lr, sr, sr', q _ _ ?_ s12⟩
      unfold keyOrd
      rw [if_neg e]
end
end K1
namespace K1
open PySem PySem.Spec PyProof.Rows L2 Ow Tlz
abbrev s_law_item : Stmt := topS 53
abbrev N_law_item : List Str := ["state", "pick", "name", "columns"]
theorem sc_law_item : FnScope N_law_item ["state"] (defScope s_law_item) := ⟨rfl, rfl, rfl, by decide +kernel, rfl, by decide +kernel, by decide +kernel⟩
def spItemG (K : PySem.W.Frag) : Sp := fun vs H Q _ => ∃ p d : Addr, vs = [.ref p] ∧ Rng d H p ∧
  Drw p d H Q fun x H' => ∃ (a : Addr) (i : It), x = .ref a ∧ ItG K H' a i
theorem take_strs {ws : List Str} (h : ∀ w ∈ ws, Pr w) (z : Int) (z0 : 0 ≤ z) : ∀ x ∈ cutV (ws.map V.str) none (some z), ∃ w, x = .str w ∧ Pr w := fun x m => by
  rw [cut_take _ z0] at m
  obtain ⟨w, mw, e⟩ := List.mem_map.mp (List.mem_of_mem_take m)
  exact ⟨w, e.symm, h w mw⟩
theorem take_len {xs : List V} (z : Int) (z0 : 0 ≤ z) (l : xs.length ≤ 4) : (cutV xs none (some z)).length ≤ 1000 := by
  rw [cut_take _ z0, List.length_take]
  omega
section
variable {P : Program} {w : World} {K : PySem.W.Frag} {mg : Str → Option Value} {base : Heap}
theorem ok_item {f : Addr} {fd : FuncData} (F : Fun K "_law_item" "_law_item" s_law_item f fd) (T : Bl mg)
    (D_law_next : Kn P w K mg base 3 "_law_next" ["state", "limit"] spNext)
    (D_law_name : Kn P w K mg base 4 "_law_name" ["state"] spName)
    (D_law_row : Kn P w K mg base 6 "_law_row" ["state", "width"] spRow) :
    FnOk P w K mg base CX0 7 f fd ["state"] (spItemG K) := by
  refine F.ok sc_law_item (fun vs H Q E h => ?_) (fun cdv A outer s0 H vs Q E hr h => ?_)
  · obtain ⟨p, d, rfl, _⟩ := h
    rfl
  · obtain ⟨p, d, rfl, rg, q⟩ := h
    refine ⟨_, (pss_cons (ps_set (i := 1) sc_law_item.nd rfl (.inl rfl) (pe_kn D_law_next hr (pa_cons (pv 0) (pa_cons pe_int pa_nil))))
      (pss_cons (ps_set (i := 2) sc_law_item.nd rfl (.inl rfl) (pe_kn D_law_name hr (pa_cons (pv 0) pa_nil)))
      (pss_cons (ps_set (i := 3) sc_law_item.nd rfl (.inl rfl) (pe_callTy call_tuple_of (by rfl) T.tuple (by decide +kernel) (pa_cons (pe_slice sl_list (pe_lst (pa_cons pe_str (pa_cons pe_str (pa_cons pe_str (pa_cons pe_str pa_nil))))) po_none (po_some (pe_op op_add pe_int (pe_kn D_law_next hr (pa_cons (pv 0) (pa_cons pe_int pa_nil)))))) pa_nil)))
      (pss_cons (ps_if (pt_cmpR op_lt (pv 1) pe_int (nomark _)) (pss_one (ps_ret (pe_tup (pa_cons pe_str (pa_cons (pv 2) (pa_cons (pv 3) (pa_cons (pe_op op_add pe_int (pe_kn D_law_next hr (pa_cons (pv 0) (pa_cons pe_int pa_nil)))) pa_nil))))))) pss_nil)
      (pss_cons (ps_if (pt_cmpR op_lt (pv 1) pe_int (nomark _)) (pss_one (ps_ret (pe_tup (pa_cons pe_str (pa_cons (pv 2) (pa_cons (pe_kn D_law_row hr (pa_cons (pv 0) (pa_cons (pe_op op_add pe_int (pe_kn D_law_next hr (pa_cons (pv 0) (pa_cons pe_int pa_nil)))) pa_nil))) pa_nil)))))) pss_nil)
      (pss_cons (ps_if (pt_cmpR op_lt (pv 1) pe_int (nomark _)) (pss_one (ps_ret (pe_tup (pa_cons pe_str (pa_cons (pv 2) (pa_cons (pe_kn D_law_name hr (pa_cons (pv 0) pa_nil)) (pa_cons (pv 3) (pa_cons (pe_op op_add pe_int (pe_kn D_law_next hr (pa_cons (pv 0) (pa_cons pe_int pa_nil)))) (pa_cons (pe_op op_add pe_int (pe_kn D_law_next hr (pa_cons (pv 0) (pa_cons pe_int pa_nil)))) pa_nil))))))))) pss_nil)
      (pss_one (ps_ret (pe_tup (pa_cons pe_str (pa_cons (pv 2) (pa_cons (pe_callTy call_tuple_of (by rfl) T.tuple (by decide +kernel) (pa_cons (pe_slice sl_list (pe_lst (pa_cons pe_str (pa_cons pe_str (pa_cons pe_str (pa_cons pe_str pa_nil))))) po_none (po_some (pe_kn D_law_next hr (pa_cons (pv 0) (pa_cons pe_int pa_nil))))) pa_nil)) pa_nil)))))))))))), ?_⟩
    -- pick, name
    refine ⟨_, rfl, p, d, 9, rfl, by decide, rg, ?_⟩
    rintro x1 H1 ⟨b, rfl, b0, b1⟩ gw1 rg1
    refine ⟨_, rfl, p, d, rfl, rg1, ?_⟩
    rintro x2 H2 ⟨n, rfl, pn⟩ gw2 rg2
    have gw12 : Gw p H H2 := gw1.trans gw2
    -- columns
    refine ⟨sz 4, fun o no => ?_⟩
    refine ⟨_, rfl, p, d, 4, rfl, by decide, rg2.same (Same.new no), ?_⟩
    rintro x3 H3 ⟨c, rfl, c0, c1⟩ gw3 rg3
    have eo := gw3.keep upd_same (rg2.free no).1
    refine ⟨1, c, rfl, rfl, _, rfl, o, _, rfl, SqL.of eo, fun o2 no2 => ?_⟩
    refine ⟨o2, _, rfl, .inl ⟨SqL.of upd_same, fun t nt => ?_⟩⟩
    have gw3' : Gw p H H3 := (gw12.trans (Gw.new no)).trans gw3
    have gw4 : ∀ u, Gw p H (upd _ t u) := fun u => (gw3'.trans (Gw.new no2)).trans (Gw.new nt)
    have rg4 : ∀ u, Rng d (upd _ t u) p := fun u => (rg3.same (Same.new no2)).same (Same.new nt)
    have hcs := take_strs (ws := ["x", "y", "column_of_12", "z1"]) (by decide +kernel) (1 + c) (by omega)
    have hcl := take_len (xs := (["x", "y", "column_of_12", "z1"] : List Str).map V.str) (1 + c) (by omega) (by decide)
    have ht : ∀ {H9 : Hp}, Gw p (upd _ t (.tup (cutV ((["x", "y", "column_of_12", "z1"] : List Str).map V.str) none (some (1 + c))))) H9 → SqT K H9 t (cutV ((["x", "y", "column_of_12", "z1"] : List Str).map V.str) none (some (1 + c))) := fun {H9} g => Rng.tk (rg4 _) g _ _ (SqT.of upd_same)
    -- relation
    refine ⟨_, rfl, _, _, rfl, rfl, _, rfl, ite2 (fun e => ?_) (fun e => ?_)⟩
    · refine ⟨_, rfl, _, rfl, _, rfl, p, d, 40, rfl, by decide, rg4 _, ?_⟩
      rintro x5 H5 ⟨z, rfl, z0, z1⟩ gw5 rg5
      refine ⟨1, z, rfl, rfl, sz 4, fun u nu => q _ _ ⟨u, .rel n _, rfl, SqT.of upd_same, pn, (CD.strs (Tk.same (Same.new nu) _ _ (ht gw5)) hcs hcl (CD.int CD.nil)), rfl⟩ (((gw4 _).trans gw5).trans (Gw.new nu)) (rg5.same (Same.new nu))⟩
    -- fact
    refine ⟨_, rfl, _, _, rfl, rfl, _, rfl, ite2 (fun e => ?_) (fun e => ?_)⟩
    · refine ⟨_, rfl, _, rfl, _, rfl, p, d, 3, rfl, by decide, rg4 _, ?_⟩
      rintro x5 H5 ⟨z, rfl, z0, z1⟩ gw5 rg5
      have ez : (1 + z : Int) = (((1 + z).toNat : Nat) : Int) := by omega
      refine ⟨1, z, rfl, rfl, p, d, (1 + z).toNat, congrArg (fun t => [V.ref p, V.int t]) ez, by omega, rg5, ?_⟩
      rintro x6 H6 ⟨r, xs, rfl, er, lx, sx⟩ gw6 rg6
      refine ⟨sz 3, fun u nu => q _ _ ⟨u, .fact n r xs, rfl, ⟨SqT.of upd_same, Tk.same (Same.new nu) _ _ (SqT.of er), sx, by omega⟩, pn, CD.nil, rfl⟩ ((((gw4 _).trans gw5).trans gw6).trans (Gw.new nu)) (rg6.same (Same.new nu))⟩
    -- structure
    refine ⟨_, rfl, _, _, rfl, rfl, _, rfl, ite2 (fun e => ?_) (fun e => ?_)⟩
    · refine ⟨_, rfl, _, rfl, p, d, rfl, rg4 _, ?_⟩
      rintro x5 H5 ⟨m, rfl, pm⟩ gw5 rg5
      refine ⟨_, rfl, _, rfl, p, d, 16, rfl, by decide, rg5, ?_⟩
      rintro x6 H6 ⟨z, rfl, z0, z1⟩ gw6 rg6
      refine ⟨1, z, rfl, rfl, _, rfl, p, d, 8, rfl, by decide, rg6, ?_⟩
      rintro x7 H7 ⟨y, rfl, y0, y1⟩ gw7 rg7
      refine ⟨1, y, rfl, rfl, sz 6, fun u nu => q _ _ ⟨u, .str n _, rfl, SqT.of upd_same, pn, (CD.str pm (CD.strs (Tk.same (Same.new nu) _ _ (ht ((gw5.trans gw6).trans gw7))) hcs hcl (CD.int (CD.int CD.nil)))), rfl⟩ (((((gw4 _).trans gw5).trans gw6).trans gw7).trans (Gw.new nu)) (rg7.same (Same.new nu))⟩
    -- layout
    · refine ⟨_, rfl, sz 4, fun o5 no5 => ?_⟩
      refine ⟨_, rfl, p, d, 5, rfl, by decide, (rg4 _).same (Same.new no5), ?_⟩
      rintro x6 H6 ⟨z, rfl, z0, z1⟩ gw6 rg6
      refine ⟨_, rfl, o5, _, rfl, SqL.of (gw6.keep upd_same ((rg4 _).free no5).1), fun o7 no7 => ?_⟩
      refine ⟨o7, _, rfl, .inl ⟨SqL.of upd_same, fun t8 nt8 => ?_⟩⟩
      refine ⟨sz 3, fun u nu => q _ _ ⟨u, .lay n _, rfl, SqT.of upd_same, pn, (CD.strs (Tk.same (Same.new nu) _ _ (SqT.of upd_same)) (take_strs (ws := ["s1", "s2", "a", "b"]) (by decide +kernel) z z0) (take_len z z0 (by decide)) CD.nil), rfl⟩
        ((((((gw4 _).trans (Gw.new no5)).trans gw6).trans (Gw.new no7)).trans (Gw.new nt8)).trans (Gw.new nu)) (((rg6.same (Same.new no7)).same (Same.new nt8)).same (Same.new nu))⟩
end
end K1
namespace K1
open PySem PySem.Spec PyProof.Rows L2 Ow Tlz
theorem ItG.key {K : PySem.W.Frag} {H : Hp} {a : Addr} {i : It} (h : ItG K H a i) : ItemAt K H (.ref a) (ier i).1 (ier i).2.1 (ier i).2.2.1 := by
  have g := h.at_
  cases i with
  | rel n c => exact ⟨a, _, rfl, g, h.n, (fun _ m => by cases m), Nat.zero_le _, .inl ⟨c, rfl, rfl, rfl⟩⟩
  | fact n r row => exact ⟨a, _, rfl, g.1, h.n, g.2.2.1, Nat.le_trans g.2.2.2 (by show 10 ≤ 1000; decide), .inr (.inr (.inr ⟨r, rfl, rfl, g.2.1⟩))⟩
  | str n c => exact ⟨a, _, rfl, g, h.n, (fun _ m => by cases m), Nat.zero_le _, .inr (.inl ⟨c, rfl, rfl, rfl⟩)⟩
  | lay n v => exact ⟨a, _, rfl, g, h.n, (fun _ m => by cases m), Nat.zero_le _, .inr (.inr (.inl ⟨[v], rfl, rfl, rfl⟩))⟩
theorem cut_drop (xs : List V) (k : Nat) : cutV xs (some (k : Int)) none = xs.drop k := by
  unfold cutV
  rw [HT.sIx_nat, HT.sIx_none]
  by_cases h : k ≤ xs.length
  · rw [Nat.min_eq_left h]
    exact List.take_of_length_le (by rw [List.length_drop]; omega)
  · rw [List.drop_of_length_le (l := xs) (i := k) (by omega), List.drop_of_length_le (by omega), List.take_nil]
theorem cut_upto (xs : List V) (k : Nat) : cutV xs none (some (k : Int)) = xs.take k := by
  rw [cut_take _ (by omega)]
  rfl
def spPlaced (K : PySem.W.Frag) : Sp := fun vs H Q _ => ∃ (l a : Addr) (i : It) (os : Its), vs = [.ref l, .ref a] ∧ SqL K H l (irf os) ∧ ItsG K H os ∧ ItG K H a i ∧ os.length ≤ 300 ∧
  ∀ p H', Same H H' → H p = none → H' p = some (.lst (irf (plc os (a, i)))) → Q (.ref p) H'
abbrev s_law_placed : Stmt := topS 54
abbrev N_law_placed : List Str := ["items", "item", "found", "at", "other", "order"]
theorem sc_law_placed : FnScope N_law_placed ["items", "item"] (defScope s_law_placed) := ⟨rfl, rfl, rfl, by decide +kernel, rfl, by decide +kernel, by decide +kernel⟩
abbrev s_law_some_items : Stmt := topS 55
abbrev N_law_some_items : List Str := ["state", "most", "items", "ordered", "item", "k"]
theorem sc_law_some_items : FnScope N_law_some_items ["state", "most"] (defScope s_law_some_items) := ⟨rfl, rfl, rfl, by decide +kernel, rfl, by decide +kernel, by decide +kernel⟩
section
variable {P : Program} {w : World} {K : PySem.W.Frag} {mg : Str → Option Value} {base : Heap}
theorem ok_placed {f : Addr} {fd : FuncData} (F : Fun K "_law_placed" "_law_placed" s_law_placed f fd) (T : Bl mg)
    (D_law_key : Kn P w K mg base 1 "_law_key" ["item"] (spLKey K))
    (D_law_key_order : Kn P w K mg base 3 "_law_key_order" ["first", "second"] (spLOrd K)) :
    FnOk P w K mg base CX0 4 f fd ["items", "item"] (spPlaced K) := by
  refine F.ok sc_law_placed (fun vs H Q E h => ?_) (fun cdv A outer s0 H vs Q E hr h => ?_)
  · obtain ⟨l, a, i, os, rfl, _⟩ := h
    rfl
  · obtain ⟨l, a, i, os, rfl, hl, hos, hi, lo, q⟩ := h
    refine ⟨_, (pss_cons (ps_set (i := 2) sc_law_placed.nd rfl (.inl rfl) (pe_lst pa_nil))
      (pss_cons (ps_set (i := 3) sc_law_placed.nd rfl (.inl rfl) pe_int)
      (pss_cons (ps_for PassesOwn.never rfl (pi_list (pv 0)) (pg_name (i := 4) sc_law_placed.nd rfl (.inl rfl)) (pss_cons (ps_set (i := 5) sc_law_placed.nd rfl (.inl rfl) (pe_kn D_law_key_order hr (pa_cons (pe_kn D_law_key hr (pa_cons (pv 4) pa_nil)) (pa_cons (pe_kn D_law_key hr (pa_cons (pv 1) pa_nil)) pa_nil))))
      (pss_one (ps_if (pt_cmpR op_ne (pv 5) pe_int (nomark _)) (pss_cons (ps_expr (pe_bm PySem.F.plainAttrs_list PySem.F.slot_list_append PySem.F.type_list_append mt_append (pv 2) (pa_cons (pv 4) pa_nil)))
      (pss_one (ps_set (i := 3) sc_law_placed.nd rfl (.inl rfl) (pe_op op_add (pv 3) (pe_callTy call_int1 (by rfl) T.int (by decide +kernel) (pa_cons (pe_cmpR op_lt (pv 5) pe_int (nomark _)) pa_nil)))))) pss_nil))))
      (pss_one (ps_ret (pe_op op_cat (pe_op op_cat (pe_slice sl_list (pv 2) po_none (po_some (pv 3))) (pe_lst (pa_cons (pv 1) pa_nil))) (pe_slice sl_list (pv 2) (po_some (pv 3)) po_none))))))), ?_⟩
    refine ⟨sz 0, fun o no => ?_⟩
    have s1 := Same.new (o := .lst []) no
    have e1 := upd_same (H := H) (a := o) (o := .lst [])
    generalize (upd H o (.lst [])) = H1 at *
    refine ⟨_, rfl, l, rfl, ⟨_, s1.seq hl⟩, for_list (K := K) (a := l) (xs := irf os) (fun j σ H4 => ∃ y4 y5 : Option V, σ = [some (.ref l), some (.ref a), some (.ref o), some (.int (((os.take j).countP fun u => decide (tOrd (te u) (te (a, i)) < 0) : Nat) : Int)), y4, y5] ∧ Same H H4 ∧
        H4 o = some (.lst (irf ((os.take j).filter fun u => decide (tOrd (te u) (te (a, i)) ≠ 0)))))
      ⟨none, none, rfl, s1, e1⟩ (fun j σ H4 _ hP => ?_) (fun j y σ H4 hy hP => ?_) (fun σ H4 hP => ?_)⟩
    · obtain ⟨_, _, _, s4, _⟩ := hP
      exact s4.seq hl
    · obtain ⟨y4, y5, rfl, s4, eo⟩ := hP
      obtain ⟨t, et, rfl⟩ := irf_get hy
      have jl : j < os.length := (List.getElem?_eq_some_iff.mp et).1
      have ht := (hos t (List.mem_of_getElem? et)).same s4
      have e2 : os.take (j + 1) = os.take j ++ [t] := take_snoc' et
      have lf : ((os.take j).filter fun u => decide (tOrd (te u) (te (a, i)) ≠ 0)).length ≤ 300 := by
        have := List.length_filter_le (fun u => decide (tOrd (te u) (te (a, i)) ≠ 0)) (os.take j)
        rw [List.length_take] at this
        omega
      refine ⟨_, rfl, _, _, _, _, rfl, ht.key, fun k1 H5 hk1 s5 => ?_⟩
      refine ⟨_, rfl, _, _, _, _, rfl, (hi.same (s4.trans s5)).key, fun k2 H6 hk2 s6 => ?_⟩
      refine ⟨k1, k2, _, _, _, _, _, _, rfl, hk1.tk (Tk.same s6), hk2, fun z H7 ez s7 => ?_⟩
      subst ez
      have s47 := (s5.trans s6).trans s7
      have eo7 := s47 _ _ eo
      have s07 := s4.trans s47
      have eord : keyOrd (ier t.2).1 (ier t.2).2.1 (ier t.2).2.2.1 (ier i).1 (ier i).2.1 (ier i).2.2.1 = tOrd (te t) (te (a, i)) := rfl
      rw [eord]
      rw [e2, List.filter_append, List.countP_append, List.filter_cons, List.countP_cons, List.filter_nil, List.countP_nil]
      generalize tOrd (te t) (te (a, i)) = z at *
      refine ⟨_, rfl, rfl, _, rfl, ite2 (fun e => ?_) (fun e => ?_)⟩
      · have ne : z ≠ 0 := fun w => by rw [w] at e; simp at e
        rw [if_pos (decide_eq_true ne), irf_app]
        refine ⟨_, rfl, .inl ⟨rfl, _, SqL.of eo7⟩, _, rfl, o, _, _, rfl, rfl, eo7, by rw [irf_len]; exact small (m := 1000) (by omega) (by decide), ?_⟩
        have s8 : Same H (upd H7 o (.lst (irf ((os.take j).filter fun u => decide (tOrd (te u) (te (a, i)) ≠ 0)) ++ [.ref t.1]))) := Same.over s07 no
        refine ⟨_, rfl, _, rfl, _, _, rfl, rfl, .inr ⟨_, rfl, _, _, rfl, rfl, ?_⟩⟩
        refine ⟨some (.ref t.1), some (.int z), ?_, s8, upd_same⟩
        cases hz : decide (z < 0) with
        | true => rfl
        | false => rfl
      · have ne : z = 0 := by
          by_cases w : z = 0
          · exact w
          · exact absurd (by simp [w]) e
        subst ne
        refine ⟨some (.ref t.1), some (.int 0), ?_, s07, ?_⟩
        · simp
        rw [eo7]
        simp
    · obtain ⟨y4, y5, rfl, s4, eo⟩ := hP
      rw [irf_len, List.take_length] at eo ⊢
      have lf := List.length_filter_le (fun u => decide (tOrd (te u) (te (a, i)) ≠ 0)) os
      have pd : plc os (a, i) = (os.filter fun u => decide (tOrd (te u) (te (a, i)) ≠ 0)).take (os.countP fun u => decide (tOrd (te u) (te (a, i)) < 0)) ++ [(a, i)] ++ (os.filter fun u => decide (tOrd (te u) (te (a, i)) ≠ 0)).drop (os.countP fun u => decide (tOrd (te u) (te (a, i)) < 0)) := rfl
      rw [pd] at q
      generalize (os.filter fun u => decide (tOrd (te u) (te (a, i)) ≠ 0)) = fs at *
      generalize (os.countP fun u => decide (tOrd (te u) (te (a, i)) < 0)) = k at *
      refine ⟨_, rfl, _, rfl, (k : Int), rfl, o, _, rfl, SqL.of eo, fun p1 n1 => ?_⟩
      rw [cut_upto]
      have s5 := Same.new (o := .lst ((irf fs).take k)) n1
      have e5 := upd_same (H := H4) (a := p1) (o := .lst ((irf fs).take k))
      generalize (upd H4 p1 (.lst ((irf fs).take k))) = H5 at *
      refine ⟨_, rfl, sz 1, fun p2 n2 => ?_⟩
      have s6 := Same.new (o := .lst [V.ref a]) n2
      have e6 := upd_same (H := H5) (a := p2) (o := .lst [V.ref a])
      generalize (upd H5 p2 (.lst [V.ref a])) = H6 at *
      refine ⟨p1, p2, _, _, rfl, rfl, s6 _ _ e5, e6, sz _ (by rw [List.length_take, irf_len]; show _ + 1 ≤ 1000; omega), fun p3 n3 => ?_⟩
      have s7 := Same.new (o := .lst ((irf fs).take k ++ [V.ref a])) n3
      have e7 := upd_same (H := H6) (a := p3) (o := .lst ((irf fs).take k ++ [V.ref a]))
      generalize (upd H6 p3 (.lst ((irf fs).take k ++ [V.ref a]))) = H7 at *
      have s47 := (s5.trans s6).trans s7
      refine ⟨_, rfl, _, rfl, (k : Int), rfl, o, _, rfl, SqL.of (s47 _ _ eo), fun p4 n4 => ?_⟩
      rw [cut_drop]
      have s8 := Same.new (o := .lst ((irf fs).drop k)) n4
      have e8 := upd_same (H := H7) (a := p4) (o := .lst ((irf fs).drop k))
      generalize (upd H7 p4 (.lst ((irf fs).drop k))) = H8 at *
      refine ⟨p3, p4, _, _, rfl, rfl, s8 _ _ e7, e8, sz _ (by rw [List.length_append, List.length_take, List.length_drop, irf_len]; show _ + 1 + _ ≤ 1000; omega), fun p5 n5 => ?_⟩
      have s08 := (s4.trans s47).trans s8
      refine q p5 _ (s08.trans (Same.new n5)) (s08.free n5) ?_
      rw [upd_same, irf_app, irf_app]
      unfold irf
      rw [List.map_take, List.map_drop]
      rfl
def spSome (K : PySem.W.Frag) : Sp := fun vs H Q _ => ∃ (p d : Addr) (m : Nat), vs = [.ref p, .int (m : Int)] ∧ m ≤ 30 ∧ Rng d H p ∧
  Drw p d H Q fun x H' => ∃ (q l o : Addr) (its : Its), x = .ref q ∧ H' q = some (.lst [.ref l, .ref o]) ∧ H' l = some (.lst (irf its)) ∧ H' o = some (.lst (irf (plcAll its))) ∧ ItsG K H' its ∧ its.length ≤ 40 ∧ l ≠ o ∧ l ≠ p ∧ o ≠ p ∧ l ≠ d ∧ o ≠ d
theorem ok_some {f : Addr} {fd : FuncData} (F : Fun K "_law_some_items" "_law_some_items" s_law_some_items f fd) (T : Bl mg)
    (D_law_next : Kn P w K mg base 3 "_law_next" ["state", "limit"] spNext)
    (D_law_item : Kn P w K mg base 7 "_law_item" ["state"] (spItemG K))
    (D_law_placed : Kn P w K mg base 4 "_law_placed" ["items", "item"] (spPlaced K)) :
    FnOk P w K mg base CX0 8 f fd ["state", "most"] (spSome K) := by
  refine F.ok sc_law_some_items (fun vs H Q E h => ?_) (fun cdv A outer s0 H vs Q E hr h => ?_)
  · obtain ⟨p, d, m, rfl, _⟩ := h
    rfl
  · obtain ⟨p, d, m, rfl, lm, rg, q⟩ := h
    refine ⟨_, (pss_cons (ps_setLc (i := 2) (own := [("k", 5)]) (g := gName 5) rfl sc_law_some_items.nd rfl rfl (sw_true rfl rfl rfl (by decide +kernel)) (pi_range1 (by rfl) T.range (pa_cons (pe_kn D_law_next hr (pa_cons (pv 0) (pa_cons (pe_op op_add (pv 1) pe_int) pa_nil))) pa_nil)) (blkOk_by (own := [("k", 5)]) (N := N_law_some_items) (sc := defScope s_law_some_items) (by decide +kernel)) (fun _ _ _ _ _ => pg_name (i := 5) sc_law_some_items.nd rfl (Or.inl rfl)) (fun _ _ _ _ _ => pts_nil) (fun _ _ _ _ _ => (pe_kn D_law_item hr (pa_cons (pv 0) pa_nil))))
      (pss_cons (ps_set (i := 3) sc_law_some_items.nd rfl (.inl rfl) (pe_lst pa_nil))
      (pss_cons (ps_for PassesOwn.never rfl (pi_list (pv 2)) (pg_name (i := 4) sc_law_some_items.nd rfl (.inl rfl)) (pss_one (ps_set (i := 3) sc_law_some_items.nd rfl (.inl rfl) (pe_kn D_law_placed hr (pa_cons (pv 3) (pa_cons (pv 4) pa_nil))))))
      (pss_one (ps_ret (pe_lst (pa_cons (pv 2) (pa_cons (pv 3) pa_nil)))))))), ?_⟩
    refine ⟨_, rfl, _, rfl, _, _, rfl, rfl, p, d, (m : Int) + 1, rfl, by omega, rg, ?_⟩
    rintro x1 H1 ⟨v, rfl, v0, v1⟩ gw1 rg1
    refine ⟨v, rfl, by omega, by omega, fun D nD => lc_range (lo := 0) (n := v.toNat) (fun j H4 => ∃ its : Its, H4 D = some (.lst (irf its)) ∧ its.length = j ∧ ItsG K H4 its ∧ Gw p H H4 ∧ Rng d H4 p)
      ⟨[], upd_same, rfl, (fun _ m => by cases m), gw1.trans (Gw.new nD), rg1.same (Same.new nD)⟩ (fun j H4 hj hP => ?_) (fun H4 hP => ?_)⟩
    · obtain ⟨its, eD, li, ig, gw4, rg4⟩ := hP
      refine ⟨rfl, ?_⟩
      refine ⟨_, rfl, p, d, rfl, rg4, ?_⟩
      rintro x H5 ⟨a, i, rfl, hi⟩ gw5 rg5
      have dn := rg1.free nD
      have eD5 := gw5.keep eD dn.1
      have tD : Tk K H5 (upd H5 D (.lst (irf its ++ [.ref a]))) := Tk.put eD5
      refine ⟨irf its, eD5, by rw [irf_len]; exact small (m := 1000) (by omega) (by decide), its ++ [(a, i)], by rw [upd_same, irf_app]; rfl, by rw [List.length_append, li]; rfl, ((ig.tk (Rng.tk rg4 gw5)).tk tD).app (ItsG.one (t := (a, i)) (hi.tk tD)), ?_, rg5.upd dn⟩
      exact Gw.over (gw4.trans gw5) (gw1.free nD dn.1)
    · obtain ⟨its, eD, li, ig, gw4, rg4⟩ := hP
      have dn := rg1.free nD
      refine ⟨sz 0, fun o no => ?_⟩
      have s5 := Same.new (o := .lst []) no
      have e5 := upd_same (H := H4) (a := o) (o := .lst [])
      have noD : o ≠ D := fun z => by rw [z, eD] at no; cases no
      have nop := rg4.free no
      generalize (upd H4 o (.lst [])) = H5 at *
      refine ⟨_, rfl, D, rfl, ⟨_, SqL.of (s5 _ _ eD)⟩, for_list (K := K) (a := D) (xs := irf its) (fun j σ H6 => ∃ (o : Addr) (y4 : Option V), σ = [some (.ref p), some (.int (m : Int)), some (.ref D), some (.ref o), y4, none] ∧ Same H4 H6 ∧ o ≠ D ∧ (o ≠ p ∧ o ≠ d) ∧
          H6 o = some (.lst (irf (plcAll (its.take j)))))
        ⟨o, none, rfl, s5, noD, nop, e5⟩ (fun j σ H6 _ hP => ?_) (fun j y σ H6 hy hP => ?_) (fun σ H6 hP => ?_)⟩
      · obtain ⟨_, _, _, s6, _⟩ := hP
        exact SqL.of (s6 _ _ eD)
      · obtain ⟨o, y4, rfl, s6, no1, no2, eo⟩ := hP
        obtain ⟨t, et, rfl⟩ := irf_get hy
        have jl : j < its.length := (List.getElem?_eq_some_iff.mp et).1
        have ig6 := ig.same s6
        have sub : ItsG K H6 (its.take j) := fun u m => ig6 u (List.mem_of_mem_take m)
        obtain ⟨_, _, ln, mm⟩ := plcAll_ok (its.take j) sub.sc
        refine ⟨_, rfl, _, rfl, o, t.1, t.2, plcAll (its.take j), rfl, SqL.of eo, (fun u m => sub u (mm u m)), ig6 t (List.mem_of_getElem? et), ?_, fun p7 H7 s7 n7 e7 => ?_⟩
        · rw [List.length_take] at ln
          omega
        · refine ⟨p7, _, rfl, s6.trans s7, (fun z => by rw [z, s6 _ _ eD] at n7; cases n7), (rg4.same s6).free n7, ?_⟩
          rw [take_snoc' et, plcAll_snoc]
          exact e7
      · obtain ⟨o, y4, rfl, s6, no1, no2, eo⟩ := hP
        rw [irf_len, List.take_length] at eo
        refine ⟨_, rfl, _, rfl, sz 2, fun u nu => q _ _ ⟨u, D, o, its, rfl, upd_same, Same.new nu _ _ (s6 _ _ eD), Same.new nu _ _ eo, (ig.same s6).same (Same.new nu), by omega, no1.symm, dn.1, no2.1, dn.2, no2.2⟩ ?_ ((rg4.same s6).same (Same.new nu))⟩
        exact (gw4.trans (Gw.same s6)).trans (Gw.new nu)
end
end K1
namespace K1
open PySem PySem.Spec PyProof.Rows L2 Ow Tlz
/-- the tables' content has data -/
structure TabG (K : PySem.W.Frag) (H : Hp) (R : Tb) (F : Fb) (S : Tb) (L : List (Str × V)) : Prop where
  r : ∀ n q c, valG R n = some (q, c) → Pr n ∧ c.length = 2 ∧ CD K H c
  s : ∀ n q c, valG S n = some (q, c) → Pr n ∧ c.length = 4 ∧ CD K H c
  l : ∀ n v, valG L n = some v → Pr n ∧ CD K H [v]
  f : ∀ n, (valG F n).isSome = true → Pr n
theorem TabG.same {K : PySem.W.Frag} {H H' : Hp} {R S : Tb} {F : Fb} {L : List (Str × V)} (s : Same H H') (h : TabG K H R F S L) : TabG K H' R F S L :=
  ⟨fun n q c e => ⟨(h.r n q c e).1, (h.r n q c e).2.1, (h.r n q c e).2.2.same s⟩, fun n q c e => ⟨(h.s n q c e).1, (h.s n q c e).2.1, (h.s n q c e).2.2.same s⟩, fun n v e => ⟨(h.l n v e).1, (h.l n v e).2.same s⟩, h.f⟩
theorem TabG.of {K : PySem.W.Frag} {H : Hp} {R S : Tb} {F : Fb} {L : List (Str × V)} {os : Its} (h : Rep os R F S L) (g : ItsG K H os) : TabG K H R F S L := by
  refine ⟨fun n q c e => ?_, fun n q c e => ?_, fun n v e => ?_, fun n e => ?_⟩
  · obtain ⟨a, m⟩ := (h.r n c).mp ⟨q, e⟩
    exact ⟨(g _ m).n, (g _ m).l, (g _ m).c⟩
  · obtain ⟨a, m⟩ := (h.s n c).mp ⟨q, e⟩
    exact ⟨(g _ m).n, (g _ m).l, (g _ m).c⟩
  · obtain ⟨a, m⟩ := (h.l n v).mp e
    exact ⟨(g _ m).n, (g _ m).c⟩
  · rcases (h.fn n).mp e with ⟨c, a, m⟩ | ⟨r, row, a, m⟩
    · exact (g _ m).n
    · exact (g _ m).n
def spAll (K : PySem.W.Frag) (C : Addr) : Sp := fun vs H Q _ => ∃ (x dr df ds dl : Addr) (Z : Addr → Prop) (R S : Tb) (F : Fb) (L : List (Str × V)) (b : Nat), vs = [.ref x] ∧ StAt K C Z H x dr df ds dl R F S L b ∧ b ≤ 300 ∧ TabG K H R F S L ∧
  R.length < 64 ∧ F.length < 64 ∧ S.length < 64 ∧ L.length < 64 ∧
  ∀ (its : Its) (p : Addr) (ys fs ss ls : List Str) H', ys.Perm (R.map (·.1)) → sortedS ys = true → fs.Perm (F.map (·.1)) → sortedS fs = true → ss.Perm (S.map (·.1)) → sortedS ss = true → ls.Perm (L.map (·.1)) → sortedS ls = true →
    its.map te = allE R F S L ys fs ss ls → Same H H' → H p = none → H' p = some (.lst (irf its)) → ItsG K H' its → Q (.ref p) H'
abbrev sAll : Stmt := inClass sState 1
abbrev NAll : List Str := ["self", "name", "items", "row"]
theorem scAll : FnScope NAll ["self"] (defScope sAll) := ⟨rfl, rfl, rfl, by decide +kernel, rfl, by decide +kernel, by decide +kernel⟩
theorem pa_star_K {X : Cx} {K : PySem.W.Frag} (h : X.K = K) {e : Expr} {p : Pos} {es : List Expr} {te : TE} {t : TA} (he : PE X e te) (hr : PA X es t) : PA X (.Starred e p :: es) (StX.tStar K te t) := by
  subst h
  exact StX.pa_star he hr
theorem key_some {β : Type} {l : List (Str × β)} {ys : List Str} {n : Str} {i : Nat} (p : ys.Perm (l.map (·.1))) (e : ys[i]? = some n) : ∃ b, valG l n = some b := by
  have h := valG_key.mp (p.mem_iff.mp (List.mem_of_getElem? e))
  cases z : valG l n with
  | none => rw [z] at h; cases h
  | some b => exact ⟨b, rfl⟩
theorem dgetL {H : Hp} {d : Addr} {L : List (Str × V)} {n : Str} {v : V} (h : Rd H d (.dK (kvG id L))) (e : valG L n = some v) : DGet H d (.str n) (some v) := by
  refine .inl ⟨kvG id L, Sum.inr n, h, rfl, ?_⟩
  rw [kvG_val, e]
  rfl
theorem cOf_eq {R : Tb} {n : Str} {q : Addr} {c : List V} (e : valG R n = some (q, c)) : cOf R n = c := by unfold cOf; rw [e]
theorem rOf_eq {F : Fb} {n : Str} {q : Addr} {c : List (Addr × List V)} (e : valG F n = some (q, c)) : rOf F n = c := by unfold rOf; rw [e]
theorem lOf_eq {L : List (Str × V)} {n : Str} {v : V} (e : valG L n = some v) : lOf L n = v := by unfold lOf; rw [e]
theorem kvL_keys (L : List (Str × V)) : (kvG id L).map (·.1) = (L.map (·.1)).map Sum.inr := by
  unfold kvG
  rw [List.map_map, List.map_map]
  rfl
theorem kvF_keys (F : Fb) : (kvF F).map (·.1) = (F.map (·.1)).map Sum.inr := by
  unfold kvF kvG
  rw [List.map_map, List.map_map]
  rfl
theorem te_app (its jts : Its) : (its ++ jts).map te = its.map te ++ jts.map te := List.map_append
section
variable {P : Program} {w : World} {K : PySem.W.Frag} {mg : Str → Option Value} {base : Heap} {C : Addr}
theorem ok_all {f : Addr} {fd : FuncData} (F0 : Fun K "all_items" "State.all_items" sAll f fd) (T : Bl mg) (X : Txt K mg C) :
    FnOk P w K mg base CX0 1 f fd ["self"] (spAll K C) := by
  refine F0.ok scAll (fun vs H Q E h => ?_) (fun cdv A outer s H vs Q E hr h => ?_)
  · obtain ⟨x, dr, df, ds, dl, Z, R, S, F, L, b, rfl, _⟩ := h
    rfl
  · obtain ⟨x, dr, df, ds, dl, Z, R, S, F, L, b, rfl, st, hb, tg, lR, lF, lS, lL, q⟩ := h
    have hu := hu_of hr
    refine ⟨_, (pss_cons (ps_setLc (i := 2) (own := [("name", 1)]) (g := gName 1) rfl scAll.nd rfl rfl (sw_true rfl rfl rfl (by decide +kernel)) (pi_list (pe_callB (call_sortedD rfl) (by rfl) T.sorted (by decide +kernel) (pa_cons (pe_fld (pv 0) rfl) pa_nil))) (blkOk_by (own := [("name", 1)]) (N := NAll) (sc := defScope sAll) (by decide +kernel)) (fun _ _ _ _ _ => pg_name (i := 1) scAll.nd rfl (Or.inl rfl)) (fun _ _ _ _ _ => pts_nil)
        (fun _ _ _ _ _ => (pe_tup (pa_cons pe_str (pa_cons (pv 1) (pa_star_K (K := K) rfl (pe_dget hu (pe_fld_K (K := K) rfl (pv 0) rfl) (pv 1) (fun _ _ => rfl)) pa_nil))))))
      (pss_cons (ps_for PassesOwn.never rfl (pi_list (pe_callB (call_sortedD rfl) (by rfl) T.sorted (by decide +kernel) (pa_cons (pe_fld (pv 0) rfl) pa_nil))) (pg_name (i := 1) scAll.nd rfl (.inr rfl)) (pss_one (ps_expr (pe_bm PySem.F.plainAttrs_list PySem.F.slot_list_extend PySem.F.type_list_extend mt_extend (pv 2) (pa_cons (pe_lc (own := [("row", 3)]) (g := gName 3) rfl scAll.nd (pi_list (pe_dget hu (pe_fld (pv 0) rfl) (pv 1) (fun _ _ => rfl))) (blkOk_by (own := [("row", 3)]) (N := NAll) (sc := defScope sAll) (by decide +kernel)) (fun _ _ _ _ _ => pg_name (i := 3) scAll.nd rfl (Or.inl rfl)) (fun _ _ _ _ _ => pts_nil) (fun _ _ _ _ _ => (pe_tup (pa_cons pe_str (pa_cons (pv 1) (pa_cons (pv 3) pa_nil)))))) pa_nil)))))
      (pss_cons (ps_for PassesOwn.never rfl (pi_list (pe_callB (call_sortedD rfl) (by rfl) T.sorted (by decide +kernel) (pa_cons (pe_fld (pv 0) rfl) pa_nil))) (pg_name (i := 1) scAll.nd rfl (.inr rfl)) (pss_one (ps_expr (pe_bm PySem.F.plainAttrs_list PySem.F.slot_list_append PySem.F.type_list_append mt_append (pv 2) (pa_cons (pe_tup (pa_cons pe_str (pa_cons (pv 1) (StX.pa_star (pe_dget hu (pe_fld (pv 0) rfl) (pv 1) (fun _ _ => rfl)) pa_nil)))) pa_nil)))))
      (pss_cons (ps_for PassesOwn.never rfl (pi_list (pe_callB (call_sortedD rfl) (by rfl) T.sorted (by decide +kernel) (pa_cons (pe_fld (pv 0) rfl) pa_nil))) (pg_name (i := 1) scAll.nd rfl (.inr rfl)) (pss_one (ps_expr (pe_bm PySem.F.plainAttrs_list PySem.F.slot_list_append PySem.F.type_list_append mt_append (pv 2) (pa_cons (pe_tup (pa_cons pe_str (pa_cons (pv 1) (pa_cons (pe_dget hu (pe_fld (pv 0) rfl) (pv 1) (fun _ _ => rfl)) pa_nil)))) pa_nil)))))
      (pss_one (ps_ret (pv 2))))))), ?_⟩
    obtain ⟨dx, ob⟩ := st.ob
    -- the relations
    refine ⟨_, rfl, x, C, dx, _, _, rfl, ob, X.cl, X.nR, flds_r _ _ _ _, dr, kvR R, R.map (·.1), rfl, .inl st.r, kvR_keys R, by rw [List.length_map]; exact lR, fun ys yp py sy nyp => ?_⟩
    have s1 := Same.new (o := .lst (ys.map V.str)) nyp
    have e1 := upd_same (H := H) (a := yp) (o := .lst (ys.map V.str))
    generalize (upd H yp (.lst (ys.map V.str))) = H1 at *
    have lys : ys.length < 64 := by rw [py.length_eq, List.length_map]; exact lR
    refine ⟨yp, rfl, ⟨_, SqL.of e1⟩, fun D nD => lc_list (K := K) (a := yp) (xs := ys.map V.str) (fun i H4 => ∃ its : Its, Same H1 H4 ∧ H4 D = some (.lst (irf its)) ∧ ItsG K H4 its ∧ its.length = i ∧ its.map te = (ys.take i).map fun n => ier (.rel n (cOf R n)))
      ⟨[], Same.new nD, upd_same, (fun _ m => nomatch m), rfl, rfl⟩ (fun i H4 _ hP => ?_) (fun i y H4 hy hP => ?_) (fun H4 hP => ?_)⟩
    · obtain ⟨_, s4, _⟩ := hP
      exact SqL.of (s4 _ _ e1)
    · obtain ⟨its, s4, eD, io, li, er⟩ := hP
      obtain ⟨n, en, rfl⟩ := strs_get hy
      have il : i < ys.length := (List.getElem?_eq_some_iff.mp en).1
      obtain ⟨⟨qa, c⟩, ec⟩ := key_some py en
      obtain ⟨pn, lc, cd⟩ := tg.r n qa c ec
      have s04 := s1.trans s4
      have st4 := st.same s04
      refine ⟨rfl, ?_⟩
      refine ⟨_, rfl, _, rfl, x, C, dx, _, _, rfl, s04 _ _ ob, X.cl, X.nR, flds_r _ _ _ _, _, rfl, dr, _, rfl, dget_n (.inl st4.r) ec, qa, c, rfl, .inl (st4.rt _ (valG_mem ec)), ?_, fun u nu => ?_⟩
      · show (V.str _ :: V.str n :: (c ++ [])).length ≤ sizeLine
        rw [List.append_nil, List.length_cons, List.length_cons, lc]
        exact sz 4
      have s6 := Same.new (o := .tup (V.str "relation" :: V.str n :: (c ++ []))) nu
      have e6 := upd_same (H := H4) (a := u) (o := .tup (V.str "relation" :: V.str n :: (c ++ [])))
      rw [List.append_nil] at s6 e6
      have eu : (upd H4 u (.tup (V.str "relation" :: V.str n :: (c ++ [])))) = (upd H4 u (.tup (V.str "relation" :: V.str n :: c))) := by rw [List.append_nil]
      refine eu ▸ ?_
      generalize (upd H4 u (.tup (V.str "relation" :: V.str n :: c))) = H6 at *
      have eD6 := s6 _ _ eD
      have tD : Tk K H6 (upd H6 D (.lst (irf its ++ [.ref u]))) := Tk.put eD6
      refine ⟨irf its, eD6, by rw [irf_len]; exact small (m := 1000) (by omega) (by decide), its ++ [(u, .rel n c)], Same.over (s4.trans s6) nD, by rw [upd_same, irf_app]; rfl, ((io.same s6).tk tD).app (ItsG.one (t := (u, It.rel n c)) ⟨tD _ _ (SqT.of e6), pn, (cd.same (s04.trans s6)).tk tD, lc⟩), by rw [List.length_append, li]; rfl, ?_⟩
      rw [te_app, take_snoc' en, List.map_append, ← er]
      show _ = _ ++ [ier (.rel n (cOf R n))]
      rw [cOf_eq ec]
      rfl
    obtain ⟨its, s4, eD, io, li, er⟩ := hP
    rw [List.length_map] at li
    rw [List.length_map, List.take_length] at er
    have s04 := s1.trans s4
    have nDH : H D = none := s1.free nD
    clear e1 s1 nyp s4
    have st4 := st.same s04
    -- the facts
    refine ⟨_, rfl, x, C, dx, _, _, rfl, s04 _ _ ob, X.cl, X.nF, flds_f _ _ _ _, df, kvF F, F.map (·.1), rfl, .inl st4.f, kvF_keys F, by rw [List.length_map]; exact lF, fun fs fp pf sf nfp => ?_⟩
    have s5 := s04.trans (Same.new (o := .lst (fs.map V.str)) nfp)
    have e5 := upd_same (H := H4) (a := fp) (o := .lst (fs.map V.str))
    have eD5 := (Same.new (o := .lst (fs.map V.str)) nfp) _ _ eD
    have io5 := io.same (K := K) (Same.new (o := .lst (fs.map V.str)) nfp)
    have nfD : fp ≠ D := fun z => by rw [z, eD] at nfp; cases nfp
    generalize (upd H4 fp (.lst (fs.map V.str))) = H5 at *
    have lfs : fs.length < 64 := by rw [pf.length_eq, List.length_map]; exact lF
    refine ⟨fp, rfl, ⟨_, SqL.of e5⟩, for_list (K := K) (a := fp) (xs := fs.map V.str) (fun i σ H7 => ∃ (y1 : Option V) (its : Its), σ = [some (.ref x), y1, some (.ref D), none] ∧ Same H H7 ∧ H7 fp = some (.lst (fs.map V.str)) ∧ H7 D = some (.lst (irf its)) ∧ ItsG K H7 its ∧ its.length ≤ 64 + 300 * i ∧
        its.map te = ys.map (fun n => ier (.rel n (cOf R n))) ++ (fs.take i).flatMap fun n => (rOf F n).map fun t => ier (.fact n t.1 t.2))
      ⟨none, its, rfl, s5, e5, eD5, io5, by omega, by rw [List.take_zero, List.flatMap_nil, List.append_nil]; exact er⟩ (fun i σ H7 _ hP => ?_) (fun i y σ H7 hy hP => ?_) (fun σ H7 hP => ?_)⟩
    · obtain ⟨_, _, _, _, h, _⟩ := hP
      exact SqL.of h
    · obtain ⟨y1, its, rfl, s7, ef7, eD, io, li, er⟩ := hP
      obtain ⟨n, en, rfl⟩ := strs_get hy
      have il : i < fs.length := (List.getElem?_eq_some_iff.mp en).1
      obtain ⟨⟨qa, rs⟩, ec⟩ := key_some pf en
      have pn := tg.f n (by rw [ec]; rfl)
      have st7 := st.same s7
      obtain ⟨hqa, ro, lrs⟩ := st7.ft _ (valG_mem ec)
      have hqa' : H7 qa = some (.lst (rrefs rs)) := hqa
      have ro' : RowsOk K H7 rs := ro
      have lrs' : rs.length ≤ b := lrs
      refine ⟨_, rfl, .inl ⟨rfl, _, SqL.of eD⟩, _, rfl, x, C, dx, _, _, rfl, s7 _ _ ob, X.cl, X.nF, flds_f _ _ _ _, _, rfl, df, _, rfl, dgetF (.inl st7.f) ec, qa, rfl, ⟨_, SqL.of hqa'⟩, fun E2 nE => lc_list (K := K) (a := qa) (xs := rrefs rs) (fun j H8 => ∃ jts : Its, Same H7 H8 ∧ H8 E2 = some (.lst (irf jts)) ∧ ItsG K H8 jts ∧ jts.length = j ∧ jts.map te = (rs.take j).map fun t => ier (.fact n t.1 t.2))
        ⟨[], Same.new nE, upd_same, (fun _ m => nomatch m), rfl, rfl⟩ (fun j H8 _ hP => ?_) (fun j y H8 hy hP => ?_) (fun H8 hP => ?_)⟩
      · obtain ⟨_, s8, _⟩ := hP
        exact SqL.of (s8 _ _ hqa')
      · obtain ⟨jts, s8, eE, jo, lj, jr⟩ := hP
        obtain ⟨t, et, rfl⟩ := rrefs_get hy
        obtain ⟨ht, st', lt⟩ := (ro'.same s8) t (List.mem_of_getElem? et)
        have jl : j < rs.length := (List.getElem?_eq_some_iff.mp et).1
        refine ⟨rfl, ?_⟩
        refine ⟨_, rfl, _, rfl, sz 3, fun u nu => ?_⟩
        have s9 := Same.new (o := .tup [V.str "fact", .str n, .ref t.1]) nu
        have e9 := upd_same (H := H8) (a := u) (o := .tup [V.str "fact", .str n, .ref t.1])
        generalize (upd H8 u (.tup [V.str "fact", .str n, .ref t.1])) = H9 at *
        have eE9 := s9 _ _ eE
        have tE : Tk K H9 (upd H9 E2 (.lst (irf jts ++ [.ref u]))) := Tk.put eE9
        refine ⟨irf jts, eE9, by rw [irf_len]; exact small (m := 1000) (by omega) (by decide), jts ++ [(u, .fact n t.1 t.2)], Same.over (s8.trans s9) nE, by rw [upd_same, irf_app]; rfl, ((jo.same s9).tk tE).app (ItsG.one (t := (u, It.fact n t.1 t.2)) ⟨⟨tE _ _ (SqT.of e9), tE _ _ (Tk.same s9 _ _ ht), st', lt⟩, pn, CD.nil, rfl⟩), by rw [List.length_append, lj]; rfl, ?_⟩
        rw [te_app, take_snoc' et, List.map_append, ← jr]
        rfl
      · obtain ⟨jts, s8, eE, jo, lj, jr⟩ := hP
        rw [rrefs_len] at lj
        rw [rrefs_len, List.take_length] at jr
        have eD8 := s8 _ _ eD
        have nDE : E2 ≠ D := fun z => by rw [z, eD] at nE; cases nE
        refine ⟨D, E2, irf its, irf jts, rfl, rfl, eD8, eE, ?_, ?_⟩
        · rw [irf_len, irf_len]
          exact Nat.le_trans (show its.length + jts.length ≤ 30000 by omega) (by decide)
        · have tD : Tk K H8 (upd H8 D (.lst (irf its ++ irf jts))) := Tk.put eD8
          refine ⟨_, its ++ jts, rfl, Same.over (s7.trans s8) nDH, by rw [upd_ne nfD]; exact s8 _ _ ef7, by rw [upd_same, irf_app], ((io.same s8).tk tD).app (jo.tk tD), by rw [List.length_append]; omega, ?_⟩
          rw [te_app, take_snoc' en, List.flatMap_append, er, jr, List.append_assoc]
          show _ = _ ++ (_ ++ List.flatMap _ [n])
          rw [List.flatMap_cons, List.flatMap_nil, List.append_nil, rOf_eq ec]
    obtain ⟨y1, its, rfl, s7, _, eD, io, li, er⟩ := hP
    rw [List.length_map] at li
    rw [List.length_map, List.take_length] at er
    clear s5 e5 eD5 io5 nfp nfD st4 s04
    have st7 := st.same s7
    -- the structures
    refine ⟨_, rfl, x, C, dx, _, _, rfl, s7 _ _ ob, X.cl, X.nS, flds_s _ _ _ _, ds, kvR S, S.map (·.1), rfl, .inl st7.s, kvR_keys S, by rw [List.length_map]; exact lS, fun ss sp ps ss' nsp => ?_⟩
    have s8 := s7.trans (Same.new (o := .lst (ss.map V.str)) nsp)
    have e8 := upd_same (H := H7) (a := sp) (o := .lst (ss.map V.str))
    have eD8 := (Same.new (o := .lst (ss.map V.str)) nsp) _ _ eD
    have io8 := io.same (K := K) (Same.new (o := .lst (ss.map V.str)) nsp)
    have nsD : sp ≠ D := fun z => by rw [z, eD] at nsp; cases nsp
    generalize (upd H7 sp (.lst (ss.map V.str))) = H8 at *
    have lss : ss.length < 64 := by rw [ps.length_eq, List.length_map]; exact lS
    refine ⟨sp, rfl, ⟨_, SqL.of e8⟩, for_list (K := K) (a := sp) (xs := ss.map V.str) (fun i σ H9 => ∃ (y1 : Option V) (its : Its), σ = [some (.ref x), y1, some (.ref D), none] ∧ Same H H9 ∧ H9 sp = some (.lst (ss.map V.str)) ∧ H9 D = some (.lst (irf its)) ∧ ItsG K H9 its ∧ its.length ≤ 20000 + i ∧
        its.map te = ys.map (fun n => ier (.rel n (cOf R n))) ++ (fs.flatMap fun n => (rOf F n).map fun t => ier (.fact n t.1 t.2)) ++ (ss.take i).map fun n => ier (.str n (cOf S n)))
      ⟨_, its, rfl, s8, e8, eD8, io8, by omega, by rw [List.take_zero, List.map_nil, List.append_nil]; exact er⟩ (fun i σ H9 _ hP => ?_) (fun i y σ H9 hy hP => ?_) (fun σ H9 hP => ?_)⟩
    · obtain ⟨_, _, _, _, h, _⟩ := hP
      exact SqL.of h
    · obtain ⟨y1, its, rfl, s9, es9, eD, io, li, er⟩ := hP
      obtain ⟨n, en, rfl⟩ := strs_get hy
      have il : i < ss.length := (List.getElem?_eq_some_iff.mp en).1
      obtain ⟨⟨qa, c⟩, ec⟩ := key_some ps en
      obtain ⟨pn, lc, cd⟩ := tg.s n qa c ec
      have st9 := st.same s9
      refine ⟨_, rfl, .inl ⟨rfl, _, SqL.of eD⟩, _, rfl, _, rfl, x, C, dx, _, _, rfl, s9 _ _ ob, X.cl, X.nS, flds_s _ _ _ _, _, rfl, ds, _, rfl, dget_n (.inl st9.s) ec, qa, c, rfl, .inl (st9.st _ (valG_mem ec)), ?_, fun u nu => ?_⟩
      · show (V.str _ :: V.str n :: (c ++ [])).length ≤ sizeLine
        rw [List.append_nil, List.length_cons, List.length_cons, lc]
        exact sz 6
      have eu : (upd H9 u (.tup (V.str "structure" :: V.str n :: (c ++ [])))) = (upd H9 u (.tup (V.str "structure" :: V.str n :: c))) := by rw [List.append_nil]
      refine eu ▸ ?_
      have s6 := Same.new (o := .tup (V.str "structure" :: V.str n :: c)) nu
      have e6 := upd_same (H := H9) (a := u) (o := .tup (V.str "structure" :: V.str n :: c))
      generalize (upd H9 u (.tup (V.str "structure" :: V.str n :: c))) = H6 at *
      have eD6 := s6 _ _ eD
      have tD : Tk K H6 (upd H6 D (.lst (irf its ++ [.ref u]))) := Tk.put eD6
      refine ⟨D, irf its, _, rfl, rfl, eD6, by rw [irf_len]; exact Nat.lt_of_le_of_lt (show its.length ≤ 30000 by omega) (by decide), ?_⟩
      refine ⟨_, its ++ [(u, .str n c)], rfl, Same.over (s9.trans s6) nDH, by rw [upd_ne nsD]; exact s6 _ _ es9, by rw [upd_same, irf_app]; rfl, ((io.same s6).tk tD).app (ItsG.one (t := (u, It.str n c)) ⟨tD _ _ (SqT.of e6), pn, (cd.same (s9.trans s6)).tk tD, lc⟩), by rw [List.length_append]; show _ + 1 ≤ _; omega, ?_⟩
      rw [te_app, take_snoc' en, List.map_append, er, List.append_assoc]
      show _ = _ ++ (_ ++ [ier (.str n (cOf S n))])
      rw [cOf_eq ec]
      rfl
    obtain ⟨y1, its, rfl, s9, _, eD, io, li, er⟩ := hP
    rw [List.length_map] at li
    rw [List.length_map, List.take_length] at er
    clear s8 e8 eD8 io8 nsp nsD st7 s7
    have st9 := st.same s9
    -- the layouts
    refine ⟨_, rfl, x, C, dx, _, _, rfl, s9 _ _ ob, X.cl, X.nL, flds_l _ _ _ _, dl, kvG id L, L.map (·.1), rfl, .inl st9.l, kvL_keys L, by rw [List.length_map]; exact lL, fun ls lp pl sl nlp => ?_⟩
    have s10 := s9.trans (Same.new (o := .lst (ls.map V.str)) nlp)
    have e10 := upd_same (H := H9) (a := lp) (o := .lst (ls.map V.str))
    have eD10 := (Same.new (o := .lst (ls.map V.str)) nlp) _ _ eD
    have io10 := io.same (K := K) (Same.new (o := .lst (ls.map V.str)) nlp)
    have nlD : lp ≠ D := fun z => by rw [z, eD] at nlp; cases nlp
    generalize (upd H9 lp (.lst (ls.map V.str))) = H10 at *
    have lls : ls.length < 64 := by rw [pl.length_eq, List.length_map]; exact lL
    refine ⟨lp, rfl, ⟨_, SqL.of e10⟩, for_list (K := K) (a := lp) (xs := ls.map V.str) (fun i σ H11 => ∃ (y1 : Option V) (its : Its), σ = [some (.ref x), y1, some (.ref D), none] ∧ Same H H11 ∧ H11 lp = some (.lst (ls.map V.str)) ∧ H11 D = some (.lst (irf its)) ∧ ItsG K H11 its ∧ its.length ≤ 25000 + i ∧
        its.map te = ys.map (fun n => ier (.rel n (cOf R n))) ++ (fs.flatMap fun n => (rOf F n).map fun t => ier (.fact n t.1 t.2)) ++ ss.map (fun n => ier (.str n (cOf S n))) ++ (ls.take i).map fun n => ier (.lay n (lOf L n)))
      ⟨_, its, rfl, s10, e10, eD10, io10, by omega, by rw [List.take_zero, List.map_nil, List.append_nil]; exact er⟩ (fun i σ H11 _ hP => ?_) (fun i y σ H11 hy hP => ?_) (fun σ H11 hP => ?_)⟩
    · obtain ⟨_, _, _, _, h, _⟩ := hP
      exact SqL.of h
    · obtain ⟨y1, its, rfl, s11, es11, eD, io, li, er⟩ := hP
      obtain ⟨n, en, rfl⟩ := strs_get hy
      have il : i < ls.length := (List.getElem?_eq_some_iff.mp en).1
      obtain ⟨v, ec⟩ := key_some pl en
      obtain ⟨pn, cd⟩ := tg.l n v ec
      have st11 := st.same s11
      refine ⟨_, rfl, .inl ⟨rfl, _, SqL.of eD⟩, _, rfl, _, rfl, x, C, dx, _, _, rfl, s11 _ _ ob, X.cl, X.nL, flds_l _ _ _ _, _, rfl, dl, _, rfl, dgetL (.inl st11.l) ec, sz 3, fun u nu => ?_⟩
      have s6 := Same.new (o := .tup [V.str "layout", V.str n, v]) nu
      have e6 := upd_same (H := H11) (a := u) (o := .tup [V.str "layout", V.str n, v])
      generalize (upd H11 u (.tup [V.str "layout", V.str n, v])) = H6 at *
      have eD6 := s6 _ _ eD
      have tD : Tk K H6 (upd H6 D (.lst (irf its ++ [.ref u]))) := Tk.put eD6
      refine ⟨D, irf its, _, rfl, rfl, eD6, by rw [irf_len]; exact Nat.lt_of_le_of_lt (show its.length ≤ 30000 by omega) (by decide), ?_⟩
      refine ⟨_, its ++ [(u, .lay n v)], rfl, Same.over (s11.trans s6) nDH, by rw [upd_ne nlD]; exact s6 _ _ es11, by rw [upd_same, irf_app]; rfl, ((io.same s6).tk tD).app (ItsG.one (t := (u, It.lay n v)) ⟨tD _ _ (SqT.of e6), pn, (cd.same (s11.trans s6)).tk tD, rfl⟩), by rw [List.length_append]; show _ + 1 ≤ _; omega, ?_⟩
      rw [te_app, take_snoc' en, List.map_append, er, List.append_assoc]
      show _ = _ ++ (_ ++ [ier (.lay n (lOf L n))])
      rw [lOf_eq ec]
      rfl
    · obtain ⟨y1, its, rfl, s11, _, eD, io, li, er⟩ := hP
      rw [List.length_map, List.take_length] at er
      exact ⟨_, rfl, q its D ys fs ss ls _ py sy pf sf ps ss' pl sl er s11 nDH eD io⟩
end
end K1
namespace K1
open PySem PySem.Spec PyProof.Rows L2 Ow Tlz
structure Sta (P : Program) (w : World) (K : PySem.W.Frag) (mg : Str → Option Value) (base : Heap) (C : Addr) : Prop where
  ex : ∃ (f : Addr) (fd : FuncData) (a0 : Addr) (ds : List Value), Mk K C f ∧ FnOk P w K mg base CX0 6 f fd ["self", "items"] (spInit K C) ∧ FnOk P w K mg base CX0 6 f fd ["self", "items"] (spInit0 K C) ∧
    Binds K fd ["self", "items"] [] ∧ Binds K fd ["self", "items"] ds ∧ Vals [V.ref a0] ds ∧ ∀ H : Hp, SqT K H a0 []
theorem same_make {H : Hp} {x dx C : Addr} (hx : H x = none) (hd : H dx = none) : Same H (upd (upd H dx (.own x)) x (.ins C dx [])) := fun b o e => by
  rw [upd_ne (ne_of_none e hx), upd_ne (ne_of_none e hd)]
  exact e
theorem same_made {H H' : Hp} {x dx C : Addr} (hx : H x = none) (hd : H dx = none) (g : Gw x (upd (upd H dx (.own x)) x (.ins C dx [])) H') : Same H H' := fun b o e =>
  g b o (ne_of_none e hx) (same_make hx hd b o e)
abbrev NHas : List Str := ["self", "relation", "row", "rows", "at"]
def HasRow (F : Fb) (n : Str) (row : List V) : Prop := ∃ q rs, valG F n = some (q, rs) ∧ ∃ r, (r, row) ∈ rs
def spHas (K : PySem.W.Frag) (C : Addr) : Sp := fun vs H Q _ => ∃ (x r : Addr) (n : Str) (row : List V) (dr df ds dl : Addr) (Z : Addr → Prop) (R S : Tb) (F : Fb) (L : List (Str × V)) (b : Nat), vs = [.ref x, .str n, .ref r] ∧
  StAt K C Z H x dr df ds dl R F S L b ∧ b ≤ 900 ∧ SqT K H r row ∧ (∀ v ∈ row, Scal v) ∧ row.length ≤ 10 ∧ (∀ m q rs, valG F m = some (q, rs) → SrtS rs) ∧
  ∀ k H', (k = true ↔ HasRow F n row) → Same H H' → Q (.bl k) H'
theorem place_has {rs : List (Addr × List V)} {row : List V} {k : Nat} (h : SrtS rs) (sr : ∀ x ∈ row, Scal x) (pl : Place rs row k) : (∃ t, rs[k]? = some t ∧ t.2 = row) ↔ ∃ r, (r, row) ∈ rs := by
  constructor
  · rintro ⟨t, e, er⟩
    refine ⟨t.1, ?_⟩
    rw [← er]
    exact List.mem_of_getElem? e
  · rintro ⟨r, m⟩
    obtain ⟨j, e⟩ := List.mem_iff_getElem?.mp m
    rcases Nat.lt_trichotomy j k with c | c | c
    · exact (rlt_irr sr (pl.1 j _ c e)).elim
    · exact ⟨_, by rw [← c]; exact e, rfl⟩
    · have lk : k < rs.length := by have := (List.getElem?_eq_some_iff.mp e).1; omega
      have ek : rs[k]? = some rs[k] := List.getElem?_eq_getElem lk
      exact absurd (srt_lt h.1 ek e c) (pl.2 k _ (Nat.le_refl _) ek)
abbrev NCopy : List Str := ["self", "made", "name"]
def erF (F : Fb) : List (Str × List (Addr × List V)) := F.map fun x => (x.1, x.2.2)
def spCopy (K : PySem.W.Frag) (C : Addr) : Sp := fun vs H Q _ => ∃ (x dr df ds dl : Addr) (Z : Addr → Prop) (R S : Tb) (F : Fb) (L : List (Str × V)) (b : Nat), vs = [.ref x] ∧ StAt K C Z H x dr df ds dl R F S L b ∧ b ≤ 300 ∧
  ∀ (x' dr' df' ds' dl' : Addr) (F' : Fb) H', Same H H' → H x' = none → erF F' = erF F → StAt K C (fun a => H a = none ∧ a ≠ x') H' x' dr' df' ds' dl' R F' S L 300 → Q (.ref x') H'
theorem n_rf : ¬ (PySem.Str.ofString "relations" = PySem.Str.ofString "facts") := by decide +kernel
theorem n_rs : ¬ (PySem.Str.ofString "relations" = PySem.Str.ofString "structures") := by decide +kernel
theorem n_rl : ¬ (PySem.Str.ofString "relations" = PySem.Str.ofString "layouts") := by decide +kernel
theorem n_fs : ¬ (PySem.Str.ofString "facts" = PySem.Str.ofString "structures") := by decide +kernel
theorem n_fl : ¬ (PySem.Str.ofString "facts" = PySem.Str.ofString "layouts") := by decide +kernel
theorem n_sl : ¬ (PySem.Str.ofString "structures" = PySem.Str.ofString "layouts") := by decide +kernel
theorem flds_eq (a b c d : V) : flds a b c d = ([(PySem.Str.ofString "relations", a), (PySem.Str.ofString "facts", b), (PySem.Str.ofString "structures", c), (PySem.Str.ofString "layouts", d)] : List (Str × V)) := by
  simp only [flds, putF, if_neg n_rf, if_neg n_rs, if_neg n_rl, if_neg n_fs, if_neg n_fl, if_neg n_sl]
theorem flds_putR (v a b c d : V) : putF "relations" v (flds a b c d) = flds v b c d := by
  rw [flds_eq, flds_eq]
  simp only [putF, if_true]
theorem flds_putF (v a b c d : V) : putF "facts" v (flds a b c d) = flds a v c d := by
  rw [flds_eq, flds_eq]
  simp only [putF, if_true, if_neg n_rf]
theorem flds_putS (v a b c d : V) : putF "structures" v (flds a b c d) = flds a b v d := by
  rw [flds_eq, flds_eq]
  simp only [putF, if_true, if_neg n_rs, if_neg n_fs]
theorem flds_putL (v a b c d : V) : putF "layouts" v (flds a b c d) = flds a b c v := by
  rw [flds_eq, flds_eq]
  simp only [putF, if_true, if_neg n_rl, if_neg n_fl, if_neg n_sl]
theorem flds_few (a b c d : V) : (flds a b c d).length < 1000 := by
  have a1 := putF_len "layouts" d (putF "structures" c (putF "facts" b (putF "relations" a [])))
  have a2 := putF_len "structures" c (putF "facts" b (putF "relations" a []))
  have a3 := putF_len "facts" b (putF "relations" a [])
  have a4 := putF_len "relations" a []
  have a5 : ([] : List (Str × V)).length = 0 := rfl
  show (putF "layouts" d (putF "structures" c (putF "facts" b (putF "relations" a [])))).length < 1000
  omega
theorem call_list_K {X : Cx} {K : PySem.W.Frag} (e : X.K = K) : CallR X (.type "list") (fun xs H Q => ∃ p ys, xs = [.ref p] ∧ (SqL K H p ys ∨ SqT K H p ys) ∧ ∀ l, H l = none → Q (.ref l) (upd H l (.lst ys))) := by
  subst e
  exact call_list_of
theorem dc_it {J : L2.It} {n : Nat} {G : Hp → Prop} {Y : Nat → Hp → V → Hp → Prop} (w : Walk J n G Y) {g : TG} {tt : TT} {tk tv : TE} {vs : List Nat} {σ : L2.St} {H1 : Hp} {D : Addr} {Qd : Hp → Prop} (Pv : Nat → Hp → Prop) (h0 : Pv 0 (upd H1 D (.dK []))) (hG : ∀ i H, i ≤ n → Pv i H → G H)
    (hs : ∀ i x H H', i < n → Pv i H → Y i H x H' → g x (wipe σ vs) H' fun σ2 H2 => wipe σ2 vs = wipe σ vs ∧ tt σ2 H2 fun b H3 =>
      if b = true then tk σ2 H3 fun y H4 => tv σ2 H4 fun z H5 => ∃ kvs k, y = kV k ∧ H5 D = some (.dK kvs) ∧ kvs.length < sizeLine ∧ Pv (i + 1) (upd H5 D (.dK (putK kvs k z))) else Pv (i + 1) H3) (hd : ∀ H, Pv n H → Qd H) :
    ∃ W : Nat → Nat → Hp → Prop, (∃ m, W 0 m (upd H1 D (.dK []))) ∧ ∀ i m H, W i m H →
      (J.stop i H ∧ Qd H) ∨ (J.go i H ∧ ∃ Nx : Hp → Prop, (∀ H', Nx H' → ∃ m', m' < m ∧ W (i + 1) m' H') ∧ ∀ x H', J.yld i H x H' → g x (wipe σ vs) H' fun σ2 H2 => wipe σ2 vs = wipe σ vs ∧ tt σ2 H2 fun b H3 =>
        if b = true then tk σ2 H3 fun y H4 => tv σ2 H4 fun z H5 => ∃ kvs k, y = kV k ∧ H5 D = some (.dK kvs) ∧ kvs.length < sizeLine ∧ Nx (upd H5 D (.dK (putK kvs k z))) else Nx H3) := by
  refine ⟨fun i m H => m = n - i ∧ i ≤ n ∧ Pv i H, ⟨n, by simp, Nat.zero_le _, h0⟩, ?_⟩
  rintro i m H ⟨rfl, hi, p⟩
  have q := hG i H hi p
  by_cases hlt : i < n
  · refine .inr ⟨w.goes i H hlt q, Pv (i + 1), fun H' p' => ⟨n - (i + 1), by omega, rfl, hlt, p'⟩, fun x H' y => hs i x H H' hlt p (w.yields i H x H' hlt q y)⟩
  · have e : i = n := by omega
    subst e
    exact .inl ⟨w.stops H q, hd H p⟩
theorem kvF_at {F : Fb} {i : Nat} {k : Key} {v : V} (h : (kvF F)[i]? = some (k, v)) : ∃ e, F[i]? = some e ∧ k = Sum.inr e.1 ∧ v = .ref e.2.1 := by
  unfold kvF kvG at h
  rw [List.getElem?_map] at h
  cases e : F[i]? with
  | none => rw [e] at h; cases h
  | some t =>
    rw [e] at h
    have z := Option.some.inj h
    exact ⟨t, rfl, (congrArg Prod.fst z).symm, (congrArg Prod.snd z).symm⟩
section
variable {P : Program} {w : World} {K : PySem.W.Frag} {mg : Str → Option Value} {base : Heap} {C : Addr}
end
end K1
namespace K1
open PySem PySem.Spec PyProof.Rows L2 Ow Tlz
abbrev s_law_is_dict : Stmt := topS 41
abbrev N_law_is_dict : List Str := ["actual", "expected", "key"]
theorem sc_law_is_dict : FnScope N_law_is_dict ["actual", "expected"] (defScope s_law_is_dict) := ⟨rfl, rfl, rfl, by decide +kernel, rfl, by decide +kernel, by decide +kernel⟩
def spIsD (K : PySem.W.Frag) : Sp := fun vs H Q _ => ∃ (a b : Addr) (kvs kvs' : List (Key × V)), vs = [.ref a, .ref b] ∧ H a = some (.dK kvs) ∧ H b = some (.dK kvs') ∧ a ≠ b ∧ kvs.length = kvs'.length ∧
  (∀ k v, valV kvs' k = some v → ∃ v' d, valV kvs k = some v' ∧ Dp K H v' d ∧ Dp K H v d ∧ Gd 2 d) ∧ Mak H Q fun z _ => z = .bl true
mutual
theorem Dp.mv {K : PySem.W.Frag} {H H' : Hp} (l : ∀ a xs, SqL K H a xs → SqL K H' a xs) (t : Tk K H H') : ∀ (d : PyData) (v : V), Dp K H v d → Dp K H' v d
  | .none, _, .non => .non
  | .bool b, _, .bl _ => .bl b
  | .int i, _, .int _ => .int i
  | .str x, _, .str _ => .str x
  | .list xs, _, .lst s a => .lst (l _ _ s) (DpAll.mv l t xs _ a)
  | .tuple xs, _, .tup s a => .tup (t _ _ s) (DpAll.mv l t xs _ a)
theorem DpAll.mv {K : PySem.W.Frag} {H H' : Hp} (l : ∀ a xs, SqL K H a xs → SqL K H' a xs) (t : Tk K H H') : ∀ (ds : List PyData) (vs : List V), DpAll K H vs ds → DpAll K H' vs ds
  | [], _, .nil => .nil
  | d :: ds, _, .cons a b => .cons (Dp.mv l t d _ a) (DpAll.mv l t ds _ b)
end
theorem SqL.dK {K : PySem.W.Frag} {H : Hp} {p : Addr} {kvs : List (Key × V)} {o : HO} (e : H p = some (.dK kvs)) : ∀ a xs, SqL K H a xs → SqL K (upd H p o) a xs := fun a xs h => by
  rcases h with (h | ⟨u, h⟩) | h
  · exact .inl (.inl (by rw [upd_ne (fun z => by rw [z, e] at h; cases h)]; exact h))
  · exact .inl (.inr ⟨u, by rw [upd_ne (fun z => by rw [z, e] at h; cases h)]; exact h⟩)
  · exact .inr h
theorem valV_memK {kvs : List (Key × V)} {k : Key} {v : V} (h : (k, v) ∈ kvs) : ∃ v', valV kvs k = some v' := by
  unfold valV
  cases e : kvs.find? fun kv => decide (kv.1 = k) with
  | none =>
    have := List.find?_eq_none.mp e _ h
    exact absurd (decide_eq_true rfl) this
  | some x => exact ⟨x.2, rfl⟩
section
variable {P : Program} {w : World} {K : PySem.W.Frag} {mg : Str → Option Value} {base : Heap} {C : Addr}
theorem ok_isd {f : Addr} {fd : FuncData} (F0 : Fun K "_law_is_dict" "_law_is_dict" s_law_is_dict f fd) (T : Bl mg)
    (D_law_same : Kn P w K mg base 4 "_law_same" ["actual", "expected"] (spSm K 3)) :
    FnOk P w K mg base CX0 5 f fd ["actual", "expected"] (spIsD K) := by
  refine F0.ok sc_law_is_dict (fun vs H Q E h => ?_) (fun cdv A outer s H vs Q E hr h => ?_)
  · obtain ⟨a, b, kvs, kvs', rfl, _⟩ := h
    rfl
  · obtain ⟨a, b, kvs, kvs', rfl, ha, hb, ab, ln, hn, q⟩ := h
    have hu := hu_of hr
    refine ⟨_, (pss_cons (ps_if (PW.pt (pw_or (pt_not (pt_val (pe_callB call_isi (by rfl) T.isinstance (by decide +kernel) (pa_cons (pv 0) (pa_cons (pe_ty "dict" (by rfl) T.dict (by decide +kernel)) pa_nil))))) (pw_or1 (pt_cmpR op_ne (pe_callB call_lenD (by rfl) T.len PySem.boot_len (pa_cons (pv 0) pa_nil)) (pe_callB call_lenD (by rfl) T.len PySem.boot_len (pa_cons (pv 1) pa_nil)) (nomark _))))) (pss_one (ps_ret pe_bl)) pss_nil)
      (pss_cons (ps_lock (ps_for PassesOwn.never rfl (pi_keys (pv 1)) (pg_name (i := 2) sc_law_is_dict.nd rfl (.inl rfl)) (pss_one (ps_if (PW.pt (pw_or (pt_cmp (pc_dnotin hu (pv 2) (pv 0))) (pw_or1 (pt_not (pt_val (pe_kn D_law_same hr (pa_cons (pe_dget hu (pv 0) (pv 2) (fun _ _ => rfl)) (pa_cons (pe_dget hu (pv 1) (pv 2) (fun _ _ => rfl)) pa_nil)))))))) (pss_one (ps_ret pe_bl)) pss_nil))))
      (pss_one (ps_ret pe_bl)))), ?_⟩
    refine ⟨_, rfl, _, _, .type "dict", .type "dict", true, rfl, .ty _, .base (.dK ha), kit_ty (by decide +kernel), ?_⟩
    refine ⟨_, rfl, ?_⟩
    refine iteF ?_
    refine ⟨_, rfl, a, kvs, rfl, ha, _, rfl, b, kvs', rfl, hb, rfl, _, rfl, ?_⟩
    rw [ln]
    refine iteNS rfl ?_
    refine ⟨b, .dK kvs', hb, True.intro, fun od => ?_⟩
    have frb : (upd H b (.frz od (.dK kvs'))) b = some (.frz od (.dK kvs')) := upd_same
    have hal : (upd H b (.frz od (.dK kvs'))) a = some (.dK kvs) := by rw [upd_ne ab]; exact ha
    have ml := SqL.dK (K := K) (o := .frz od (.dK kvs')) hb
    have mt : Tk K H (upd H b (.frz od (.dK kvs'))) := Tk.dK hb
    refine ⟨_, rfl, b, od, rfl, .inl ⟨kvs', frb, for_it walk_keys (fun i σ H4 => ∃ y2 : Option V, σ = [some (.ref a), some (.ref b), y2] ∧ Same (upd H b (.frz od (.dK kvs'))) H4)
      ⟨none, rfl, Same.refl _⟩ (fun i σ H4 _ hP => ?_) (fun i y σ H4 H5 hi hP hY => ?_) (fun σ H4 hP => ?_)⟩⟩
    · obtain ⟨_, _, s4⟩ := hP
      exact s4 _ _ frb
    · obtain ⟨y2, rfl, s4⟩ := hP
      obtain ⟨rfl, k, v0, ek, rfl⟩ := hY
      obtain ⟨v, ev⟩ := valV_memK (List.mem_of_getElem? ek)
      obtain ⟨v', d, ev', dp', dp, gd⟩ := hn k v ev
      have d1 : DGet H5 a (kV k) (some v') := ev' ▸ DGet.k (k := k) (s4 _ _ hal)
      have d2 : DGet H5 b (kV k) (some v) := .inl ⟨kvs', k, .inr ⟨od, s4 _ _ frb⟩, rfl, ev.symm⟩
      refine ⟨_, rfl, _, rfl, a, _, rfl, d1, _, rfl, ?_⟩
      refine iteF ?_
      refine ⟨_, rfl, _, rfl, a, _, rfl, d1, _, rfl, _, rfl, b, _, rfl, d2, _, _, d, rfl, Dp.sm s4 _ _ (Dp.mv ml mt _ _ dp'), Dp.sm s4 _ _ (Dp.mv ml mt _ _ dp), gd.i, gd.d, ?_⟩
      rintro z6 H6 rfl s6
      exact ⟨_, rfl, iteF ⟨_, rfl, s4.trans s6⟩⟩
    · obtain ⟨y2, rfl, s4⟩ := hP
      refine ⟨s4 _ _ frb, ?_⟩
      exact q _ _ rfl (Same.lock hb s4)
end
/-! the tables that the law makes -/
structure DueAt (K : PySem.W.Frag) (H : Hp) (e0 e1 e2 e3 : Addr) (R : Tb) (F : Fb) (S : Tb) (L : List (Str × V)) (b : Nat) : Prop where
  r : H e0 = some (.dK (kvR R))
  rt : ∀ n q c, valG R n = some (q, c) → SqT K H q c
  f : H e1 = some (.dK (kvF F))
  ft : ∀ n q rs, valG F n = some (q, rs) → H q = some (.lst (rrefs rs)) ∧ RowsOk K H rs ∧ rs.length ≤ b
  s : H e2 = some (.dK (kvR S))
  st : ∀ n q c, valG S n = some (q, c) → SqT K H q c
  l : H e3 = some (.dK (kvG id L))
  ne : e0 ≠ e1 ∧ e0 ≠ e2 ∧ e0 ≠ e3 ∧ e1 ≠ e2 ∧ e1 ≠ e3 ∧ e2 ≠ e3
section
variable {K : PySem.W.Frag} {H H' : Hp} {e0 e1 e2 e3 : Addr} {R S : Tb} {F : Fb} {L : List (Str × V)} {b : Nat}
theorem DueAt.same (h : DueAt K H e0 e1 e2 e3 R F S L b) (s : Same H H') : DueAt K H' e0 e1 e2 e3 R F S L b :=
  ⟨s _ _ h.r, fun n q c e => Tk.same s _ _ (h.rt n q c e), s _ _ h.f, fun n q rs e => ⟨s _ _ (h.ft n q rs e).1, (h.ft n q rs e).2.1.same s, (h.ft n q rs e).2.2⟩, s _ _ h.s, fun n q c e => Tk.same s _ _ (h.st n q c e), s _ _ h.l, h.ne⟩
theorem DueAt.up {c : Nat} (h : DueAt K H e0 e1 e2 e3 R F S L b) (l : b ≤ c) : DueAt K H e0 e1 e2 e3 R F S L c :=
  ⟨h.r, h.rt, h.f, fun n q rs e => ⟨(h.ft n q rs e).1, (h.ft n q rs e).2.1, Nat.le_trans (h.ft n q rs e).2.2 l⟩, h.s, h.st, h.l, h.ne⟩
theorem DueAt.fl {p : Addr} {kvs : List (Key × V)} {o : HO} (h : DueAt K H e0 e1 e2 e3 R F S L b) (e : H p = some (.dK kvs)) : ∀ n q rs, valG F n = some (q, rs) → (upd H p o) q = some (.lst (rrefs rs)) ∧ RowsOk K (upd H p o) rs ∧ rs.length ≤ b := fun n q rs ev => by
  obtain ⟨h1, h2, h3⟩ := h.ft n q rs ev
  exact ⟨by rw [upd_ne (fun z => by rw [z, e] at h1; cases h1)]; exact h1, h2.tk (Tk.dK e), h3⟩
theorem DueAt.rel {n : Str} {q : Addr} {c : List V} (h : DueAt K H e0 e1 e2 e3 R F S L b) (hq : SqT K H q c) : DueAt K (upd H e0 (.dK (putK (kvR R) (Sum.inr n) (.ref q)))) e0 e1 e2 e3 (putG R n (q, c)) F S L b := by
  have tk : Tk K H (upd H e0 (.dK (putK (kvR R) (Sum.inr n) (.ref q)))) := Tk.dK h.r
  obtain ⟨n1, n2, n3, n4, n5, n6⟩ := h.ne
  refine ⟨?_, fun m q' c' e => ?_, by rw [upd_ne n1.symm]; exact h.f, h.fl h.r, by rw [upd_ne n2.symm]; exact h.s, fun m q' c' e => tk _ _ (h.st m q' c' e), by rw [upd_ne n3.symm]; exact h.l, h.ne⟩
  · rw [upd_same]
    exact congrArg (fun t => some (HO.dK t)) (kvG_put (fun b : Addr × List V => V.ref b.1) R n (q, c))
  · rw [valG_put] at e
    split at e
    · cases e; exact tk _ _ hq
    · exact tk _ _ (h.rt m q' c' e)
theorem DueAt.stru {n : Str} {q : Addr} {c : List V} (h : DueAt K H e0 e1 e2 e3 R F S L b) (hq : SqT K H q c) : DueAt K (upd H e2 (.dK (putK (kvR S) (Sum.inr n) (.ref q)))) e0 e1 e2 e3 R F (putG S n (q, c)) L b := by
  have tk : Tk K H (upd H e2 (.dK (putK (kvR S) (Sum.inr n) (.ref q)))) := Tk.dK h.s
  obtain ⟨n1, n2, n3, n4, n5, n6⟩ := h.ne
  refine ⟨by rw [upd_ne n2]; exact h.r, fun m q' c' e => tk _ _ (h.rt m q' c' e), by rw [upd_ne n4]; exact h.f, h.fl h.s, ?_, fun m q' c' e => ?_, by rw [upd_ne n6.symm]; exact h.l, h.ne⟩
  · rw [upd_same]
    exact congrArg (fun t => some (HO.dK t)) (kvG_put (fun b : Addr × List V => V.ref b.1) S n (q, c))
  · rw [valG_put] at e
    split at e
    · cases e; exact tk _ _ hq
    · exact tk _ _ (h.st m q' c' e)
theorem DueAt.lay {n : Str} {v : V} (h : DueAt K H e0 e1 e2 e3 R F S L b) : DueAt K (upd H e3 (.dK (putK (kvG id L) (Sum.inr n) v))) e0 e1 e2 e3 R F S (putG L n v) b := by
  have tk : Tk K H (upd H e3 (.dK (putK (kvG id L) (Sum.inr n) v))) := Tk.dK h.l
  obtain ⟨n1, n2, n3, n4, n5, n6⟩ := h.ne
  refine ⟨by rw [upd_ne n3]; exact h.r, fun m q' c' e => tk _ _ (h.rt m q' c' e), by rw [upd_ne n5]; exact h.f, h.fl h.l, by rw [upd_ne n6]; exact h.s, fun m q' c' e => tk _ _ (h.st m q' c' e), ?_, h.ne⟩
  rw [upd_same]
  exact congrArg (fun t => some (HO.dK t)) (kvG_put id L n v)
theorem DueAt.fac {n : Str} {q : Addr} {rs : List (Addr × List V)} (h : DueAt K H e0 e1 e2 e3 R F S L b) (hq : H q = some (.lst (rrefs rs))) (ro : RowsOk K H rs) (lr : rs.length ≤ b) : DueAt K (upd H e1 (.dK (putK (kvF F) (Sum.inr n) (.ref q)))) e0 e1 e2 e3 R (putG F n (q, rs)) S L b := by
  have tk : Tk K H (upd H e1 (.dK (putK (kvF F) (Sum.inr n) (.ref q)))) := Tk.dK h.f
  obtain ⟨n1, n2, n3, n4, n5, n6⟩ := h.ne
  refine ⟨by rw [upd_ne n1]; exact h.r, fun m q' c' e => tk _ _ (h.rt m q' c' e), ?_, fun m q' rs' e => ?_, by rw [upd_ne n4.symm]; exact h.s, fun m q' c' e => tk _ _ (h.st m q' c' e), by rw [upd_ne n5.symm]; exact h.l, h.ne⟩
  · rw [upd_same]
    exact congrArg (fun t => some (HO.dK t)) (kvG_put (fun b : Addr × List (Addr × List V) => V.ref b.1) F n (q, rs))
  · rw [valG_put] at e
    split at e
    · cases e
      exact ⟨by rw [upd_ne (fun z => by rw [z, h.f] at hq; cases hq)]; exact hq, ro.tk tk, lr⟩
    · exact h.fl h.f m q' rs' e
end
theorem putG_map {β γ : Type} (g : β → γ) (l : List (Str × β)) (k : Str) (b : β) : (putG l k b).map (fun e => (e.1, g e.2)) = putG (l.map fun e => (e.1, g e.2)) k (g b) := by
  unfold putG
  have ea : ((l.map fun e => (e.1, g e.2)).any fun e => decide (e.1 = k)) = l.any fun e => decide (e.1 = k) := by rw [List.any_map]; rfl
  rw [ea]
  split
  · rw [List.map_map, List.map_map]
    refine List.map_congr_left fun e _ => ?_
    show ((if e.1 = k then (e.1, b) else e).1, g (if e.1 = k then (e.1, b) else e).2) = if e.1 = k then (e.1, g b) else (e.1, g e.2)
    split <;> rfl
  · rw [List.map_append]
    rfl
theorem plc_last {os : Its} {t : Addr × It} (so : ScI os) (st : tSc (te t)) (h : ∀ u ∈ os, tLt (te u) (te t)) : plc os t = os ++ [t] := by
  unfold plc
  have e1 : (os.filter fun u => decide (tOrd (te u) (te t) ≠ 0)) = os := List.filter_eq_self.mpr fun u m => decide_eq_true fun z => tEq_lt st ((tOrd_zero (so u m) st).mp z) (h u m)
  have e2 : (os.countP fun u => decide (tOrd (te u) (te t) < 0)) = os.length := List.countP_eq_length.mpr fun u m => decide_eq_true (h u m)
  rw [e1, e2, List.take_length, List.drop_length, List.append_nil]
theorem Rep.congr {os os' : Its} {R S : Tb} {F : Fb} {L : List (Str × V)} (h : Rep os R F S L) (e : ∀ i, Has os i ↔ Has os' i) : Rep os' R F S L := by
  refine ⟨fun n c => by rw [h.r, e], fun n c => by rw [h.s, e], fun n v => by rw [h.l, e], fun n row => ?_, fun n => ?_, h.fs, h.rn, h.sn, h.ln, h.fd⟩
  · rw [h.f]
    exact exists_congr fun r => e _
  · rw [h.fn]
    exact or_congr (exists_congr fun c => e _) (exists_congr fun r => exists_congr fun row => e _)
theorem nodup_len {α : Type} [DecidableEq α] : ∀ {xs ys : List α}, xs.Nodup → (∀ x ∈ xs, x ∈ ys) → xs.length ≤ ys.length
  | [], _, _, _ => Nat.zero_le _
  | x :: xs, ys, nd, h => by
    rw [List.nodup_cons] at nd
    have m := h x List.mem_cons_self
    have ih := nodup_len (xs := xs) (ys := ys.erase x) nd.2 fun z mz => (List.mem_erase_of_ne (fun e => nd.1 (by rw [← e]; exact mz))).mpr (h z (List.mem_cons_of_mem _ mz))
    rw [List.length_erase_of_mem m] at ih
    have := List.length_pos_of_mem m
    rw [List.length_cons]
    omega
theorem tab_len {β : Type} {T : List (Str × β)} {os : Its} (nd : (T.map (·.1)).Nodup) (h : ∀ n, (valG T n).isSome = true → ∃ t ∈ os, itn t.2 = n) : T.length ≤ os.length := by
  have := nodup_len (ys := os.map fun t => itn t.2) nd fun n m => by
    obtain ⟨t, mt, e⟩ := h n (valG_key.mp m)
    exact List.mem_map.mpr ⟨t, mt, e⟩
  rw [List.length_map, List.length_map] at this
  exact this
theorem Rep.len {os : Its} {R S : Tb} {F : Fb} {L : List (Str × V)} (h : Rep os R F S L) : R.length ≤ os.length ∧ F.length ≤ os.length ∧ S.length ≤ os.length ∧ L.length ≤ os.length := by
  refine ⟨tab_len h.rn fun n e => ?_, tab_len h.fd fun n e => ?_, tab_len h.sn fun n e => ?_, tab_len h.ln fun n e => ?_⟩
  · cases z : valG R n with
    | none => rw [z] at e; cases e
    | some b =>
      obtain ⟨a, m⟩ := (h.r n b.2).mp ⟨b.1, z⟩
      exact ⟨_, m, rfl⟩
  · rcases (h.fn n).mp e with ⟨c, a, m⟩ | ⟨r, row, a, m⟩
    · exact ⟨_, m, rfl⟩
    · exact ⟨_, m, rfl⟩
  · cases z : valG S n with
    | none => rw [z] at e; cases e
    | some b =>
      obtain ⟨a, m⟩ := (h.s n b.2).mp ⟨b.1, z⟩
      exact ⟨_, m, rfl⟩
  · cases z : valG L n with
    | none => rw [z] at e; cases e
    | some b =>
      obtain ⟨a, m⟩ := (h.l n b).mp z
      exact ⟨_, m, rfl⟩
/-- an item behind all others is put -/
theorem Rep.last {os : Its} {t : Addr × It} {R R' S S' : Tb} {F F' : Fb} {L L' : List (Str × V)} (h : Rep os R F S L) (p : PutI R F S L t.2 R' F' S' L') (so : ScI os) (st : tSc (te t)) (lt : ∀ u ∈ os, tLt (te u) (te t)) : Rep (os ++ [t]) R' F' S' L' := by
  rw [← plc_last so st lt]
  exact h.put p so st
/-- a fact behind all others is put, in a new list -/
theorem Rep.lastF {os : Its} {a : Addr} {n : Str} {r q : Addr} {row : List V} {R S : Tb} {F : Fb} {L : List (Str × V)} (h : Rep os R F S L) (so : ScI os) (st : ∀ v ∈ row, Scal v) (lt : ∀ u ∈ os, tLt (te u) (te (a, .fact n r row))) : Rep (os ++ [(a, .fact n r row)]) R (putG F n (q, rOf F n ++ [(r, row)])) S L := by
  have st' : tSc (te (a, .fact n r row)) := st
  cases e : valG F n with
  | none =>
    have er : rOf F n = [] := by unfold rOf; rw [e]
    rw [er]
    refine h.last (t := (a, .fact n r row)) ⟨⟨q, [], F ++ [(n, q, [])], 0, .inr ⟨e, rfl, rfl⟩, Nat.le_refl _, fun _ => ⟨(fun j t h => absurd h (Nat.not_lt_zero _)), fun j t _ h => by cases h⟩, .inr ⟨?_, fun t h => by cases h⟩⟩, rfl, rfl, rfl⟩ so st' lt
    show putG F n (q, [(r, row)]) = putG (F ++ [(n, q, [])]) n (q, [(r, row)])
    rw [← putG_new (q, ([] : List (Addr × List V))) e]
    have e2 : valG (putG F n (q, ([] : List (Addr × List V)))) n = some (q, []) := by rw [valG_put, if_pos rfl]
    rw [putG_new _ e, putG_new _ e]
    unfold putG
    have e3 : ((F ++ [(n, q, ([] : List (Addr × List V)))]).any fun e => decide (e.1 = n)) = true := by rw [List.any_append]; simp
    rw [e3, if_pos rfl, List.map_append]
    have e4 : F.map (fun x => if x.1 = n then (x.1, (q, [(r, row)])) else x) = F := by
      rw [show F.map (fun x => if x.1 = n then (x.1, (q, [(r, row)])) else x) = F.map id from List.map_congr_left fun x m => by rw [if_neg (valG_none e x m)]; rfl, List.map_id]
    rw [e4]
    show _ = F ++ [if n = n then (n, (q, [(r, row)])) else (n, q, [])]
    rw [if_pos rfl]
  | some b =>
    obtain ⟨q0, rs⟩ := b
    have er : rOf F n = rs := rOf_eq e
    rw [er]
    have hs := h.fs n q0 rs e
    have pl : Place rs row rs.length := by
      refine ⟨fun j t hj et => ?_, fun j t hj et => ?_⟩
      · obtain ⟨r', a', m⟩ := (h.f n t.2).mp ⟨q0, rs, e, t.1, List.mem_of_getElem? et⟩
        have l := (tLt_iff _ _).mp (lt _ m)
        rcases l with l | ⟨_, l | ⟨_, l⟩⟩
        · exact absurd (show (1 : Int) < 1 from l) (by decide)
        · exact absurd (show n.cps.toList < n.cps.toList from l) (List.lt_irrefl _)
        · exact l
      · have := (List.getElem?_eq_some_iff.mp et).1
        omega
    have h1 := h.last (t := (a, .fact n r row)) (R' := R) (S' := S) (L' := L) (F' := putG F n (q0, rs ++ [(r, row)])) ⟨⟨q0, rs, F, rs.length, .inl ⟨rfl, e⟩, Nat.le_refl _, fun _ => pl, .inr ⟨?_, fun t h => by rw [List.getElem?_eq_none (Nat.le_refl _)] at h; cases h⟩⟩, rfl, rfl, rfl⟩ so st' lt
    · refine h1.copyF ?_
      rw [putG_map (fun b : Addr × List (Addr × List V) => b.2), putG_map (fun b : Addr × List (Addr × List V) => b.2)]
    · rw [List.take_length, List.drop_length, List.append_nil]
end K1
namespace K1
open PySem PySem.Spec PyProof.Rows L2 Ow Tlz
theorem flds_no {m : Str} (a b c d : V) (h : ¬ m = "relations" ∧ ¬ m = "facts" ∧ ¬ m = "structures" ∧ ¬ m = "layouts") : (flds a b c d).lookup m = none := by
  unfold flds
  rw [lookup_putF, if_neg h.2.2.2, lookup_putF, if_neg h.2.2.1, lookup_putF, if_neg h.2.1, lookup_putF, if_neg h.1]
  rfl
/-- the methods of the class -/
structure Mths (P : Program) (w : World) (K : PySem.W.Frag) (mg : Str → Option Value) (base : Heap) (C : Addr) : Prop where
  al : ∃ (f : Addr) (fd : FuncData), Meth K C "all_items" f ∧ FnOk P w K mg base CX0 1 f fd ["self"] (spAll K C) ∧ Binds K fd ["self"] []
  ha : ∃ (f : Addr) (fd : FuncData), Meth K C "has" f ∧ FnOk P w K mg base CX0 4 f fd ["self", "relation", "row"] (spHas K C) ∧ Binds K fd ["self", "relation", "row"] []
  co : ∃ (f : Addr) (fd : FuncData), Meth K C "copy" f ∧ FnOk P w K mg base CX0 8 f fd ["self"] (spCopy K C) ∧ Binds K fd ["self"] []
def isRel : Addr × It → Bool
  | (_, .rel _ _) => true
  | _ => false
theorem valV_inl {β : Type} (vv : β → V) (i : Int) : ∀ l : List (Str × β), valV (kvG vv l) (Sum.inl i) = none
  | [] => rfl
  | e :: l => by
    have h1 : valV (kvG vv (e :: l)) (Sum.inl i) = valV (kvG vv l) (Sum.inl i) := valV_neg (p := ((Sum.inr e.1 : Key), vv e.2)) (fun z => by cases z)
    rw [h1]
    exact valV_inl vv i l
def spIsSt (K : PySem.W.Frag) (C : Addr) : Sp := fun vs H Q _ => ∃ (x o dr df ds dl : Addr) (Z : Addr → Prop) (R S : Tb) (F : Fb) (L : List (Str × V)) (b : Nat) (os : Its), vs = [.ref x, .ref o] ∧ StAt K C Z H x dr df ds dl R F S L b ∧ b ≤ 300 ∧
  SqL K H o (irf os) ∧ ItsG K H os ∧ KSrt os ∧ os.length ≤ 40 ∧ Rep os R F S L ∧ Mak H Q fun z _ => z = .bl true
abbrev s_law_is_state : Stmt := topS 56
abbrev N_law_is_state : List Str := ["actual", "ordered", "due", "item", "relations", "facts", "structures", "layouts"]
theorem sc_law_is_state : FnScope N_law_is_state ["actual", "ordered"] (defScope s_law_is_state) := ⟨rfl, rfl, rfl, by decide +kernel, rfl, by decide +kernel, by decide +kernel⟩
theorem has_filter {os : Its} {P : Addr × It → Bool} {i : It} : Has (os.filter P) i ↔ ∃ a, (a, i) ∈ os ∧ P (a, i) = true := by
  unfold Has
  exact exists_congr fun a => List.mem_filter
theorem filter_take {os : Its} {P : Addr × It → Bool} {j : Nat} {t : Addr × It} (e : os[j]? = some t) : (os.take (j + 1)).filter P = (os.take j).filter P ++ if P t = true then [t] else [] := by
  rw [take_snoc' e, List.filter_append, List.filter_cons, List.filter_nil]
/-- the dicts are equal: what is asked of them -/
theorem isd_tab {K : PySem.W.Frag} {H : Hp} {T T' : Tb} (rt : ∀ e ∈ T, SqT K H e.2.1 e.2.2) (rt' : ∀ n q c, valG T' n = some (q, c) → SqT K H q c) (h : ∀ n q c, valG T' n = some (q, c) → ∃ q', valG T n = some (q', c))
    (g : ∀ n q c, valG T n = some (q, c) → c.length ≤ 10 ∧ CD K H c) : ∀ k v, valV (kvR T') k = some v → ∃ v' d, valV (kvR T) k = some v' ∧ Dp K H v' d ∧ Dp K H v d ∧ Gd 2 d := by
  intro k v e
  cases k with
  | inl i => rw [show valV (kvR T') (Sum.inl i) = none from valV_inl _ i T'] at e; cases e
  | inr n =>
    rw [kvR_val] at e
    cases z : valG T' n with
    | none => rw [z] at e; cases e
    | some x =>
      rw [z] at e
      have ev : V.ref x.1 = v := Option.some.inj e
      obtain ⟨q', e'⟩ := h n x.1 x.2 z
      obtain ⟨l, ds, dp, gd, _⟩ := g n q' x.2 e'
      refine ⟨.ref q', .tuple ds, by rw [kvR_val, e']; rfl, .tup (rt _ (valG_mem e')) dp, ?_, Gd.tup (by rw [← DpAll.len dp]; omega) gd⟩
      rw [← ev]
      exact .tup (rt' n x.1 x.2 z) dp
section
variable {P : Program} {w : World} {K : PySem.W.Frag} {mg : Str → Option Value} {base : Heap} {C : Addr}
theorem ok_isst {f : Addr} {fd : FuncData} (F0 : Fun K "_law_is_state" "_law_is_state" s_law_is_state f fd) (T : Bl mg) (X : Txt K mg C) (Ms : Mths P w K mg base C)
    (D_law_is_dict : Kn P w K mg base 5 "_law_is_dict" ["actual", "expected"] (spIsD K))
    (D_law_same : Kn P w K mg base 5 "_law_same" ["actual", "expected"] (spSm K 4)) :
    FnOk P w K mg base CX0 6 f fd ["actual", "ordered"] (spIsSt K C) := by
  obtain ⟨fA, fdA, mA, GA, bA⟩ := Ms.al
  refine F0.ok sc_law_is_state (fun vs H Q E h => ?_) (fun cdv A outer s0 H vs Q E hr h => ?_)
  · obtain ⟨x, o, dr, df, ds, dl, Z, R, S, F, L, b, os, rfl, _⟩ := h
    rfl
  · obtain ⟨x, o, dr, df, ds, dl, Z, R, S, F, L, b, os, rfl, st, hb, ho, og, ks, lo, rep, q⟩ := h
    have hu := hu_of hr
    have hr1 := hr.mono (show 1 ≤ 5 by decide)
    refine ⟨_, (pss_cons (ps_set (i := 2) sc_law_is_state.nd rfl (.inl rfl) (pe_lst (pa_cons pe_dnewK (pa_cons pe_dnewK (pa_cons pe_dnewK (pa_cons pe_dnewK pa_nil))))))
      (pss_cons (ps_for PassesOwn.never rfl (pi_list (pv 1)) (pg_name (i := 3) sc_law_is_state.nd rfl (.inl rfl)) (pss_one (ps_if (pt_cmpR op_eq (pe_ix ix_tup (pv 3) pe_int (fun _ _ => rfl)) pe_str (nomark _)) (pss_cons (ps_set (i := 4) sc_law_is_state.nd rfl (.inl rfl) (pe_ix ix_list (pv 2) pe_int (fun _ _ => rfl)))
      (pss_cons (ps_dput hu (pv 4) (pe_ix ix_tup (pv 3) pe_int (fun _ _ => rfl)) (pe_tup (pa_cons (pe_ix ix_tup (pv 3) pe_int (fun _ _ => rfl)) (pa_cons (pe_ix ix_tup (pv 3) pe_int (fun _ _ => rfl)) pa_nil))) rfl)
      (pss_cons (ps_set (i := 5) sc_law_is_state.nd rfl (.inl rfl) (pe_ix ix_list (pv 2) pe_int (fun _ _ => rfl)))
      (pss_one (ps_dput hu (pv 5) (pe_ix ix_tup (pv 3) pe_int (fun _ _ => rfl)) (pe_lst pa_nil) rfl))))) pss_nil)))
      (pss_cons (ps_for PassesOwn.never rfl (pi_list (pv 1)) (pg_name (i := 3) sc_law_is_state.nd rfl (.inl rfl)) (pss_cons (ps_if (pt_cmpR op_eq (pe_ix ix_tup (pv 3) pe_int (fun _ _ => rfl)) pe_str (nomark _)) (pss_cons (ps_set (i := 5) sc_law_is_state.nd rfl (.inl rfl) (pe_ix ix_list (pv 2) pe_int (fun _ _ => rfl)))
      (pss_one (ps_dput hu (pv 5) (pe_ix ix_tup (pv 3) pe_int (fun _ _ => rfl)) (pe_op op_cat (pe_dget2 hu (pv 5) (pe_ix ix_tup (pv 3) pe_int (fun _ _ => rfl)) (pe_lst pa_nil) ⟨rfl, rfl, rfl, rfl⟩) (pe_lst (pa_cons (pe_ix ix_tup (pv 3) pe_int (fun _ _ => rfl)) pa_nil))) rfl))) pss_nil)
      (pss_cons (ps_if (pt_cmpR op_eq (pe_ix ix_tup (pv 3) pe_int (fun _ _ => rfl)) pe_str (nomark _)) (pss_cons (ps_set (i := 6) sc_law_is_state.nd rfl (.inl rfl) (pe_ix ix_list (pv 2) pe_int (fun _ _ => rfl)))
      (pss_one (ps_dput hu (pv 6) (pe_ix ix_tup (pv 3) pe_int (fun _ _ => rfl)) (pe_slice sl_tupA (pv 3) (po_some pe_int) po_none) rfl))) pss_nil)
      (pss_one (ps_if (pt_cmpR op_eq (pe_ix ix_tup (pv 3) pe_int (fun _ _ => rfl)) pe_str (nomark _)) (pss_cons (ps_set (i := 7) sc_law_is_state.nd rfl (.inl rfl) (pe_ix ix_list (pv 2) pe_int (fun _ _ => rfl)))
      (pss_one (ps_dput hu (pv 7) (pe_ix ix_tup (pv 3) pe_int (fun _ _ => rfl)) (pe_ix ix_tup (pv 3) pe_int (fun _ _ => rfl)) rfl))) pss_nil)))))
      (pss_cons (ps_if (PW.pt (pw_or (pt_not (pt_val (pe_kn D_law_is_dict hr (pa_cons (pe_fld (pv 0) rfl) (pa_cons (pe_ix ix_list (pv 2) pe_int (fun _ _ => rfl)) pa_nil))))) (pw_or1 (pt_not (pt_val (pe_kn D_law_is_dict hr (pa_cons (pe_fld (pv 0) rfl) (pa_cons (pe_ix ix_list (pv 2) pe_int (fun _ _ => rfl)) pa_nil)))))))) (pss_one (ps_ret pe_bl)) pss_nil)
      (pss_cons (ps_if (PW.pt (pw_or (pt_not (pt_val (pe_kn D_law_is_dict hr (pa_cons (pe_fld (pv 0) rfl) (pa_cons (pe_ix ix_list (pv 2) pe_int (fun _ _ => rfl)) pa_nil))))) (pw_or1 (pt_not (pt_val (pe_kn D_law_is_dict hr (pa_cons (pe_fld (pv 0) rfl) (pa_cons (pe_ix ix_list (pv 2) pe_int (fun _ _ => rfl)) pa_nil)))))))) (pss_one (ps_ret pe_bl)) pss_nil)
      (pss_one (ps_ret (pe_kn D_law_same hr (pa_cons (pe_meth0 (pv 0) X.cl mA GA hr1 bA .nil pass0) (pa_cons (pv 1) pa_nil)))))))))), ?_⟩
    have so := og.sc
    have n1 : ∀ {u v : Str}, u ≠ v → ¬ decide (V.str u = V.str v) = true := fun h e => h (V.str.inj (of_decide_eq_true e))
    have big : ∀ {β : Type} (vv : β → V) (l : List (Str × β)), l.length ≤ 60 → (kvG vv l).length < sizeLine := fun vv l hl => by
      rw [kvG_len]
      exact small (m := 1000) (by omega) (by decide)
    -- the four dicts
    refine fun e0 m0 => fun e1 m1 => fun e2 m2 => fun e3 m3 => ⟨sz 4, fun du ndu => ?_⟩
    have m1' : (upd H e0 (.dK [])) e1 = none := m1
    have s4 : Same H (upd (upd (upd (upd (upd H e0 (.dK [])) e1 (.dK [])) e2 (.dK [])) e3 (.dK [])) du (.lst [.ref e0, .ref e1, .ref e2, .ref e3])) := ((((Same.new m0).trans (Same.new m1)).trans (Same.new m2)).trans (Same.new m3)).trans (Same.new ndu)
    have x0 : (upd (upd (upd (upd (upd H e0 (.dK [])) e1 (.dK [])) e2 (.dK [])) e3 (.dK [])) du (.lst [.ref e0, .ref e1, .ref e2, .ref e3])) e0 = some (.dK []) := (((Same.new m1).trans (Same.new m2)).trans (Same.new m3)).trans (Same.new ndu) _ _ upd_same
    have x1 : (upd (upd (upd (upd (upd H e0 (.dK [])) e1 (.dK [])) e2 (.dK [])) e3 (.dK [])) du (.lst [.ref e0, .ref e1, .ref e2, .ref e3])) e1 = some (.dK []) := ((Same.new m2).trans (Same.new m3)).trans (Same.new ndu) _ _ upd_same
    have x2 : (upd (upd (upd (upd (upd H e0 (.dK [])) e1 (.dK [])) e2 (.dK [])) e3 (.dK [])) du (.lst [.ref e0, .ref e1, .ref e2, .ref e3])) e2 = some (.dK []) := (Same.new m3).trans (Same.new ndu) _ _ upd_same
    have x3 : (upd (upd (upd (upd (upd H e0 (.dK [])) e1 (.dK [])) e2 (.dK [])) e3 (.dK [])) du (.lst [.ref e0, .ref e1, .ref e2, .ref e3])) e3 = some (.dK []) := (Same.new ndu) _ _ upd_same
    have xd : (upd (upd (upd (upd (upd H e0 (.dK [])) e1 (.dK [])) e2 (.dK [])) e3 (.dK [])) du (.lst [.ref e0, .ref e1, .ref e2, .ref e3])) du = some (.lst [.ref e0, .ref e1, .ref e2, .ref e3]) := upd_same
    have n01 : e0 ≠ e1 := ne_of_none upd_same m1
    have n02 : e0 ≠ e2 := ne_of_none ((Same.new m1) _ _ upd_same) m2
    have n03 : e0 ≠ e3 := ne_of_none (((Same.new m1).trans (Same.new m2)) _ _ upd_same) m3
    have n12 : e1 ≠ e2 := ne_of_none upd_same m2
    have n13 : e1 ≠ e3 := ne_of_none ((Same.new m2) _ _ upd_same) m3
    have n23 : e2 ≠ e3 := ne_of_none upd_same m3
    have k0 : H e0 = none := m0
    have k1 : H e1 = none := (Same.new m0).free m1
    have k2 : H e2 = none := ((Same.new m0).trans (Same.new m1)).free m2
    have k3 : H e3 = none := (((Same.new m0).trans (Same.new m1)).trans (Same.new m2)).free m3
    clear m1' m1 m2 m3 ndu
    generalize (upd (upd (upd (upd (upd H e0 (.dK [])) e1 (.dK [])) e2 (.dK [])) e3 (.dK [])) du (.lst [.ref e0, .ref e1, .ref e2, .ref e3])) = H1 at *
    have da : DueAt K H1 e0 e1 e2 e3 [] [] [] [] 0 := ⟨x0, (fun n q c e => by cases e), x1, (fun n q rs e => by cases e), x2, (fun n q c e => by cases e), x3, n01, n02, n03, n12, n13, n23⟩
    clear x0 x1 x2 x3
    have dn0 : ∀ {H9 : Hp} {us : List V}, H9 du = some (.lst us) → ∀ {p : Addr} {kvs : List (Key × V)}, H9 p = some (.dK kvs) → du ≠ p := by
      intro H9 us h p kvs g z
      rw [z, g] at h
      cases h
    -- the relations
    refine ⟨_, rfl, o, rfl, ⟨_, s4.seq ho⟩, for_list (K := K) (a := o) (xs := irf os) (fun j σ H4 => ∃ (y3 y4 y5 : Option V) (R' : Tb) (F' : Fb), σ = [some (.ref x), some (.ref o), some (.ref du), y3, y4, y5, none, none] ∧ Same H H4 ∧ H4 du = some (.lst [.ref e0, .ref e1, .ref e2, .ref e3]) ∧
        DueAt K H4 e0 e1 e2 e3 R' F' [] [] 0 ∧ Rep ((os.take j).filter isRel) R' F' [] [])
      ⟨none, none, none, [], [], rfl, s4, xd, da, Rep.nil⟩ (fun j σ H4 _ hP => ?_) (fun j y σ H4 hy hP => ?_) (fun σ H4 hP => ?_)⟩
    · obtain ⟨_, _, _, _, _, _, s5, _⟩ := hP
      exact s5.seq ho
    · obtain ⟨y3, y4, y5, R', F', rfl, s5, ed, da, rp⟩ := hP
      obtain ⟨⟨a, i⟩, et, rfl⟩ := irf_get hy
      have mt := List.mem_of_getElem? et
      have jl : j < os.length := (List.getElem?_eq_some_iff.mp et).1
      have ig := (og _ mt).same s5
      have ft := filter_take (P := isRel) et
      obtain ⟨lR, lF, _, _⟩ := rp.len
      have lf := List.length_filter_le isRel (os.take j)
      rw [List.length_take] at lf
      cases i with
      | rel n c =>
        have ht : SqT K H4 a (.str "relation" :: .str n :: c) := ig.at_
        have lc : c.length = 2 := ig.l
        obtain ⟨u, v, ec⟩ : ∃ u v, c = [u, v] := by
          match c, lc with
          | [u, v], _ => exact ⟨u, v, rfl⟩
        subst ec
        refine ⟨_, rfl, a, _, 0, _, rfl, rfl, ht, at_of (j := 0) rfl rfl, rfl, _, rfl, ite2 (fun _ => ?_) (fun e => absurd (decide_eq_true rfl) e)⟩
        refine ⟨_, rfl, du, _, 0, .ref e0, rfl, rfl, SqL.of ed, at_of (j := 0) rfl rfl, ?_⟩
        refine ⟨_, rfl, a, _, 2, u, rfl, rfl, ht, at_of (j := 2) rfl rfl, _, rfl, a, _, 3, v, rfl, rfl, ht, at_of (j := 3) rfl rfl, sz 2, fun p np => ?_⟩
        have s6 := Same.new (o := .tup [u, v]) np
        have e6 := upd_same (H := H4) (a := p) (o := .tup [u, v])
        generalize (upd H4 p (.tup [u, v])) = H6 at *
        have da6 := da.same s6
        have dp := DPut.k (k := Sum.inr n) (v := .ref p) da6.r (big _ R' (by omega))
        refine ⟨_, rfl, _, rfl, a, _, 1, .str n, rfl, rfl, Tk.same s6 _ _ ht, at_of (j := 1) rfl rfl, e0, _, rfl, dp, ?_⟩
        have da7 := da6.rel (n := n) (SqT.of e6)
        have s7 : Same H (upd H6 e0 (.dK (putK (kvR R') (Sum.inr n) (.ref p)))) := Same.over (s5.trans s6) k0
        have ed7 : (upd H6 e0 (.dK (putK (kvR R') (Sum.inr n) (.ref p)))) du = some (.lst [.ref e0, .ref e1, .ref e2, .ref e3]) := by rw [upd_ne (dn0 (s6 _ _ ed) da6.r)]; exact s6 _ _ ed
        have tk7 : Tk K H4 (upd H6 e0 (.dK (putK (kvR R') (Sum.inr n) (.ref p)))) := (Tk.same s6).trans (Tk.dK da6.r)
        generalize (upd H6 e0 (.dK (putK (kvR R') (Sum.inr n) (.ref p)))) = H7 at *
        refine ⟨_, rfl, du, _, 1, .ref e1, rfl, rfl, SqL.of ed7, at_of (j := 1) rfl rfl, ?_⟩
        refine ⟨sz 0, fun p2 np2 => ?_⟩
        have s8 := Same.new (o := .lst []) np2
        have e8 := upd_same (H := H7) (a := p2) (o := .lst [])
        generalize (upd H7 p2 (.lst [])) = H8 at *
        have da8 := da7.same s8
        have dp2 := DPut.k (k := Sum.inr n) (v := .ref p2) da8.f (big _ F' (by omega))
        refine ⟨_, rfl, _, rfl, a, _, 1, .str n, rfl, rfl, (tk7.trans (Tk.same s8)) _ _ ht, at_of (j := 1) rfl rfl, e1, _, rfl, dp2, ?_⟩
        have da9 := da8.fac (n := n) (rs := []) e8 (fun _ m => nomatch m) (Nat.le_refl _)
        have s9 : Same H (upd H8 e1 (.dK (putK (kvF F') (Sum.inr n) (.ref p2)))) := Same.over (s7.trans s8) k1
        have ed9 : (upd H8 e1 (.dK (putK (kvF F') (Sum.inr n) (.ref p2)))) du = some (.lst [.ref e0, .ref e1, .ref e2, .ref e3]) := by rw [upd_ne (dn0 (s8 _ _ ed7) da8.f)]; exact s8 _ _ ed7
        refine ⟨_, _, _, _, _, rfl, s9, ed9, da9, ?_⟩
        have fn : valG F' n = none := by
          cases z : valG F' n with
          | none => rfl
          | some bb =>
            have w1 := (rp.fn n).mp (by rw [z]; rfl)
            rcases w1 with ⟨c', hc⟩ | ⟨r, row, hc⟩
            · obtain ⟨a', m', _⟩ := has_filter.mp hc
              obtain ⟨k, hk⟩ := List.mem_iff_getElem?.mp m'
              have kj : k < j := by
                have := (List.getElem?_eq_some_iff.mp hk).1
                rw [List.length_take] at this
                omega
              rw [List.getElem?_take_of_lt kj] at hk
              obtain ⟨pk, ek⟩ := List.getElem?_eq_some_iff.mp hk
              obtain ⟨pj, ej⟩ := List.getElem?_eq_some_iff.mp et
              have l := List.pairwise_iff_getElem.mp ks k j pk pj kj
              rw [ek, ej] at l
              exact (tEq_lt (so _ mt) (eq_rel.mpr rfl) l).elim
            · obtain ⟨a', m', z'⟩ := has_filter.mp hc
              cases z'
        rw [ft]
        refine rp.last (t := (a, .rel n [u, v])) ⟨⟨p, rfl⟩, .inr ⟨p2, fn, putG_new _ fn⟩, rfl, rfl⟩ (fun u m => so u (List.mem_of_mem_take (List.mem_filter.mp m).1)) (so _ mt) fun u m => ?_
        obtain ⟨k, hk⟩ := List.mem_iff_getElem?.mp (List.mem_filter.mp m).1
        have kj : k < j := by
          have := (List.getElem?_eq_some_iff.mp hk).1
          rw [List.length_take] at this
          omega
        rw [List.getElem?_take_of_lt kj] at hk
        obtain ⟨pk, ek⟩ := List.getElem?_eq_some_iff.mp hk
        obtain ⟨pj, ej⟩ := List.getElem?_eq_some_iff.mp et
        have l := List.pairwise_iff_getElem.mp ks k j pk pj kj
        rw [ek, ej] at l
        exact l
      | fact n r row =>
        refine ⟨_, rfl, a, _, 0, _, rfl, rfl, ig.at_.1, at_of (j := 0) rfl rfl, rfl, _, rfl, ite2 (fun e => absurd e (n1 (by decide +kernel))) (fun _ => ?_)⟩
        rw [ft]
        exact ⟨_, _, _, _, _, rfl, s5, ed, da, by rw [show isRel (a, It.fact n r row) = false from rfl, if_neg Bool.false_ne_true, List.append_nil]; exact rp⟩
      | str n c =>
        refine ⟨_, rfl, a, _, 0, _, rfl, rfl, ig.at_, at_of (j := 0) rfl rfl, rfl, _, rfl, ite2 (fun e => absurd e (n1 (by decide +kernel))) (fun _ => ?_)⟩
        rw [ft]
        exact ⟨_, _, _, _, _, rfl, s5, ed, da, by rw [show isRel (a, It.str n c) = false from rfl, if_neg Bool.false_ne_true, List.append_nil]; exact rp⟩
      | lay n v =>
        refine ⟨_, rfl, a, _, 0, _, rfl, rfl, ig.at_, at_of (j := 0) rfl rfl, rfl, _, rfl, ite2 (fun e => absurd e (n1 (by decide +kernel))) (fun _ => ?_)⟩
        rw [ft]
        exact ⟨_, _, _, _, _, rfl, s5, ed, da, by rw [show isRel (a, It.lay n v) = false from rfl, if_neg Bool.false_ne_true, List.append_nil]; exact rp⟩
    obtain ⟨y3, y4, y5, R1, F1, rfl, s5, ed, da, rp⟩ := hP
    rw [irf_len, List.take_length] at rp
    clear s4 xd
    -- the others
    refine ⟨_, rfl, o, rfl, ⟨_, s5.seq ho⟩, for_list (K := K) (a := o) (xs := irf os) (fun j σ H4 => ∃ (y3 y5 y6 y7 : Option V) (F' : Fb) (S' : Tb) (L' : List (Str × V)), σ = [some (.ref x), some (.ref o), some (.ref du), y3, y4, y5, y6, y7] ∧ Same H H4 ∧ H4 du = some (.lst [.ref e0, .ref e1, .ref e2, .ref e3]) ∧
        DueAt K H4 e0 e1 e2 e3 R1 F' S' L' j ∧ Rep (os.filter isRel ++ (os.take j).filter fun t => !isRel t) R1 F' S' L')
      ⟨y3, y5, none, none, F1, [], [], rfl, s5, ed, da, by rw [List.take_zero, List.filter_nil, List.append_nil]; exact rp⟩ (fun j σ H4 _ hP => ?_) (fun j y σ H4 hy hP => ?_) (fun σ H4 hP => ?_)⟩
    · obtain ⟨_, _, _, _, _, _, _, _, s6, _⟩ := hP
      exact s6.seq ho
    · obtain ⟨y3, y5, y6, y7, F', S', L', rfl, s6, ed, da, rp⟩ := hP
      obtain ⟨⟨a, i⟩, et, rfl⟩ := irf_get hy
      have mt := List.mem_of_getElem? et
      have jl : j < os.length := (List.getElem?_eq_some_iff.mp et).1
      have ig := (og _ mt).same s6
      have ft := filter_take (P := fun t => !isRel t) et
      have sp : ScI (os.filter isRel ++ (os.take j).filter fun t => !isRel t) := fun u m => by
        rcases List.mem_append.mp m with m | m
        · exact so u (List.mem_filter.mp m).1
        · exact so u (List.mem_of_mem_take (List.mem_filter.mp m).1)
      have lt : isRel (a, i) = false → ∀ u ∈ os.filter isRel ++ (os.take j).filter fun t => !isRel t, tLt (te u) (te (a, i)) := fun hi u m => by
        rcases List.mem_append.mp m with m | m
        · obtain ⟨m, hu⟩ := List.mem_filter.mp m
          obtain ⟨b', i'⟩ := u
          cases i' with
          | rel n' c' =>
            refine (tLt_iff _ _).mpr (.inl ?_)
            cases i with
            | rel n c => cases hi
            | fact n r row => show (0 : Int) < 1; decide
            | str n c => show (0 : Int) < 2; decide
            | lay n v => show (0 : Int) < 3; decide
          | _ => cases hu
        · obtain ⟨k, hk⟩ := List.mem_iff_getElem?.mp (List.mem_filter.mp m).1
          have kj : k < j := by
            have := (List.getElem?_eq_some_iff.mp hk).1
            rw [List.length_take] at this
            omega
          rw [List.getElem?_take_of_lt kj] at hk
          obtain ⟨pk, ek⟩ := List.getElem?_eq_some_iff.mp hk
          obtain ⟨pj, ej⟩ := List.getElem?_eq_some_iff.mp et
          have l := List.pairwise_iff_getElem.mp ks k j pk pj kj
          rw [ek, ej] at l
          exact l
      obtain ⟨lR, lF, lS, lL⟩ := rp.len
      have lf := List.length_filter_le (fun t => !isRel t) (os.take j)
      have lf2 := List.length_filter_le isRel os
      rw [List.length_take] at lf
      rw [List.length_append] at lR lF lS lL
      have lF' : F'.length ≤ 60 ∨ 60 < F'.length := by omega
      have wle : F'.length ≤ 80 := by omega
      have big2 : ∀ {β : Type} (vv : β → V) (l : List (Str × β)), l.length ≤ 80 → (kvG vv l).length < sizeLine := fun vv l hl => by
        rw [kvG_len]
        exact small (m := 1000) (by omega) (by decide)
      cases i with
      | rel n c =>
        refine ⟨_, rfl, a, _, 0, _, rfl, rfl, ig.at_, at_of (j := 0) rfl rfl, rfl, _, rfl, ite2 (fun e => absurd e (n1 (by decide +kernel))) (fun _ => ?_)⟩
        refine ⟨_, rfl, a, _, 0, _, rfl, rfl, ig.at_, at_of (j := 0) rfl rfl, rfl, _, rfl, ite2 (fun e => absurd e (n1 (by decide +kernel))) (fun _ => ?_)⟩
        refine ⟨_, rfl, a, _, 0, _, rfl, rfl, ig.at_, at_of (j := 0) rfl rfl, rfl, _, rfl, ite2 (fun e => absurd e (n1 (by decide +kernel))) (fun _ => ?_)⟩
        rw [ft]
        exact ⟨_, _, _, _, _, _, _, rfl, s6, ed, da.up (by omega), by rw [show (!isRel (a, It.rel n c)) = false from rfl, if_neg Bool.false_ne_true, List.append_nil]; exact rp⟩
      | fact n r row =>
        obtain ⟨ht, hrow, srow, lrow⟩ := ig.at_
        refine ⟨_, rfl, a, _, 0, _, rfl, rfl, ht, at_of (j := 0) rfl rfl, rfl, _, rfl, ite2 (fun _ => ?_) (fun e => absurd (decide_eq_true rfl) e)⟩
        refine ⟨_, rfl, du, _, 1, .ref e1, rfl, rfl, SqL.of ed, at_of (j := 1) rfl rfl, ?_⟩
        refine ⟨_, rfl, e1, rfl, .inl ⟨_, .inl da.f⟩, _, rfl, a, _, 1, .str n, rfl, rfl, ht, at_of (j := 1) rfl rfl, sz 0, fun p np => ?_⟩
        have s7 := Same.new (o := .lst []) np
        have e7 := upd_same (H := H4) (a := p) (o := .lst [])
        generalize (upd H4 p (.lst [])) = H7 at *
        have da7 := da.same s7
        have fnd : ∃ (z : Option V) (l : Addr), DGet H7 e1 (.str n) z ∧ z.getD (.ref p) = .ref l ∧ H7 l = some (.lst (rrefs (rOf F' n))) ∧ RowsOk K H7 (rOf F' n) ∧ (rOf F' n).length ≤ j := by
          cases e : valG F' n with
          | none =>
            have er : rOf F' n = [] := by unfold rOf; rw [e]
            rw [er]
            exact ⟨none, p, .inl ⟨kvF F', Sum.inr n, .inl da7.f, rfl, by rw [kvF_val, e]; rfl⟩, rfl, e7, (fun _ m => nomatch m), Nat.zero_le _⟩
          | some b' =>
            obtain ⟨q0, rs⟩ := b'
            rw [rOf_eq e]
            obtain ⟨h1, h2, h3⟩ := da7.ft n q0 rs e
            exact ⟨some (.ref q0), q0, dgetF (.inl da7.f) e, rfl, h1, h2, h3⟩
        obtain ⟨z, l, dg, ez, hl, hro, hlen⟩ := fnd
        refine ⟨z, dg, ?_⟩
        rw [ez]
        refine ⟨_, rfl, a, _, 2, .ref r, rfl, rfl, Tk.same s7 _ _ ht, at_of (j := 2) rfl rfl, sz 1, fun p2 np2 => ?_⟩
        have s8 := Same.new (o := .lst [V.ref r]) np2
        have e8 := upd_same (H := H7) (a := p2) (o := .lst [V.ref r])
        generalize (upd H7 p2 (.lst [V.ref r])) = H8 at *
        refine ⟨l, p2, _, _, rfl, rfl, s8 _ _ hl, e8, sz _ (by rw [rrefs_len]; show _ + 1 ≤ 1000; omega), fun p3 np3 => ?_⟩
        have s9 := Same.new (o := .lst (rrefs (rOf F' n) ++ [V.ref r])) np3
        have e9 := upd_same (H := H8) (a := p3) (o := .lst (rrefs (rOf F' n) ++ [V.ref r]))
        generalize (upd H8 p3 (.lst (rrefs (rOf F' n) ++ [V.ref r]))) = H9 at *
        have s79 := (s7.trans s8).trans s9
        have da9 := da.same s79
        have dp2 := DPut.k (k := Sum.inr n) (v := .ref p3) da9.f (big2 _ F' wle)
        refine ⟨_, rfl, _, rfl, a, _, 1, .str n, rfl, rfl, Tk.same s79 _ _ ht, at_of (j := 1) rfl rfl, e1, _, rfl, dp2, ?_⟩
        have er9 : rrefs (rOf F' n) ++ [V.ref r] = rrefs (rOf F' n ++ [(r, row)]) := (rrefs_snoc (t := (r, row))).symm
        rw [er9] at e9
        have da10 := (da9.up (c := j + 1) (by omega)).fac (n := n) e9 ((hro.same (s8.trans s9)).snoc (Tk.same s79 _ _ hrow) srow lrow) (by rw [List.length_append]; show _ + 1 ≤ j + 1; omega)
        have s10 : Same H (upd H9 e1 (.dK (putK (kvF F') (Sum.inr n) (.ref p3)))) := Same.over (s6.trans s79) k1
        have ed9 := s79 _ _ ed
        have ed10 : (upd H9 e1 (.dK (putK (kvF F') (Sum.inr n) (.ref p3)))) du = some (.lst [.ref e0, .ref e1, .ref e2, .ref e3]) := by rw [upd_ne (dn0 ed9 da9.f)]; exact ed9
        have tk10 : Tk K H4 (upd H9 e1 (.dK (putK (kvF F') (Sum.inr n) (.ref p3)))) := (Tk.same s79).trans (Tk.dK da9.f)
        generalize (upd H9 e1 (.dK (putK (kvF F') (Sum.inr n) (.ref p3)))) = H10 at *
        refine ⟨_, rfl, a, _, 0, _, rfl, rfl, tk10 _ _ ht, at_of (j := 0) rfl rfl, rfl, _, rfl, ite2 (fun e => absurd e (n1 (by decide +kernel))) (fun _ => ?_)⟩
        refine ⟨_, rfl, a, _, 0, _, rfl, rfl, tk10 _ _ ht, at_of (j := 0) rfl rfl, rfl, _, rfl, ite2 (fun e => absurd e (n1 (by decide +kernel))) (fun _ => ?_)⟩
        refine ⟨_, _, _, _, _, _, _, rfl, s10, ed10, da10, ?_⟩
        rw [ft, show (!isRel (a, It.fact n r row)) = true from rfl, if_pos rfl, ← List.append_assoc]
        exact rp.lastF sp srow (lt rfl)
      | str n c =>
        have ht : SqT K H4 a (.str "structure" :: .str n :: c) := ig.at_
        refine ⟨_, rfl, a, _, 0, _, rfl, rfl, ht, at_of (j := 0) rfl rfl, rfl, _, rfl, ite2 (fun e => absurd e (n1 (by decide +kernel))) (fun _ => ?_)⟩
        refine ⟨_, rfl, a, _, 0, _, rfl, rfl, ht, at_of (j := 0) rfl rfl, rfl, _, rfl, ite2 (fun _ => ?_) (fun e => absurd (decide_eq_true rfl) e)⟩
        refine ⟨_, rfl, du, _, 2, .ref e2, rfl, rfl, SqL.of ed, at_of (j := 2) rfl rfl, ?_⟩
        refine ⟨_, rfl, 2, rfl, a, _, rfl, ht, fun w => absurd w (cut2 _ _ c).2, fun _ p np => ?_⟩
        rw [(cut2 _ _ c).1]
        have s7 := Same.new (o := .tup c) np
        have e7 := upd_same (H := H4) (a := p) (o := .tup c)
        generalize (upd H4 p (.tup c)) = H7 at *
        have da7 := da.same s7
        have dp2 := DPut.k (k := Sum.inr n) (v := .ref p) da7.s (big2 _ S' (by omega))
        refine ⟨_, rfl, _, rfl, a, _, 1, .str n, rfl, rfl, Tk.same s7 _ _ ht, at_of (j := 1) rfl rfl, e2, _, rfl, dp2, ?_⟩
        have da8 := (da7.up (c := j + 1) (by omega)).stru (n := n) (SqT.of e7)
        have s8 : Same H (upd H7 e2 (.dK (putK (kvR S') (Sum.inr n) (.ref p)))) := Same.over (s6.trans s7) k2
        have ed8 : (upd H7 e2 (.dK (putK (kvR S') (Sum.inr n) (.ref p)))) du = some (.lst [.ref e0, .ref e1, .ref e2, .ref e3]) := by rw [upd_ne (dn0 (s7 _ _ ed) da7.s)]; exact s7 _ _ ed
        have tk8 : Tk K H4 (upd H7 e2 (.dK (putK (kvR S') (Sum.inr n) (.ref p)))) := (Tk.same s7).trans (Tk.dK da7.s)
        generalize (upd H7 e2 (.dK (putK (kvR S') (Sum.inr n) (.ref p)))) = H8 at *
        refine ⟨_, rfl, a, _, 0, _, rfl, rfl, tk8 _ _ ht, at_of (j := 0) rfl rfl, rfl, _, rfl, ite2 (fun e => absurd e (n1 (by decide +kernel))) (fun _ => ?_)⟩
        refine ⟨_, _, _, _, _, _, _, rfl, s8, ed8, da8, ?_⟩
        rw [ft, show (!isRel (a, It.str n c)) = true from rfl, if_pos rfl, ← List.append_assoc]
        exact rp.last (t := (a, .str n c)) ⟨⟨p, rfl⟩, rfl, rfl, rfl⟩ sp (so _ mt) (lt rfl)
      | lay n v =>
        have ht : SqT K H4 a [.str "layout", .str n, v] := ig.at_
        refine ⟨_, rfl, a, _, 0, _, rfl, rfl, ht, at_of (j := 0) rfl rfl, rfl, _, rfl, ite2 (fun e => absurd e (n1 (by decide +kernel))) (fun _ => ?_)⟩
        refine ⟨_, rfl, a, _, 0, _, rfl, rfl, ht, at_of (j := 0) rfl rfl, rfl, _, rfl, ite2 (fun e => absurd e (n1 (by decide +kernel))) (fun _ => ?_)⟩
        refine ⟨_, rfl, a, _, 0, _, rfl, rfl, ht, at_of (j := 0) rfl rfl, rfl, _, rfl, ite2 (fun _ => ?_) (fun e => absurd (decide_eq_true rfl) e)⟩
        refine ⟨_, rfl, du, _, 3, .ref e3, rfl, rfl, SqL.of ed, at_of (j := 3) rfl rfl, ?_⟩
        have dp2 := DPut.k (k := Sum.inr n) (v := v) da.l (big2 _ L' (by omega))
        refine ⟨_, rfl, a, _, 2, v, rfl, rfl, ht, at_of (j := 2) rfl rfl, _, rfl, _, rfl, a, _, 1, .str n, rfl, rfl, ht, at_of (j := 1) rfl rfl, e3, _, rfl, dp2, ?_⟩
        have ed8 : (upd H4 e3 (.dK (putK (kvG id L') (Sum.inr n) v))) du = some (.lst [.ref e0, .ref e1, .ref e2, .ref e3]) := by rw [upd_ne (dn0 ed da.l)]; exact ed
        refine ⟨_, _, _, _, _, _, _, rfl, Same.over s6 k3, ed8, (da.up (c := j + 1) (by omega)).lay (n := n), ?_⟩
        rw [ft, show (!isRel (a, It.lay n v)) = true from rfl, if_pos rfl, ← List.append_assoc]
        exact rp.last (t := (a, .lay n v)) ⟨rfl, rfl, rfl, rfl⟩ sp (so _ mt) (lt rfl)
    obtain ⟨y3, y5, y6, y7, F', S', L', rfl, s6, ed, da, rp⟩ := hP
    rw [irf_len] at da rp
    rw [List.take_length] at rp
    clear s5
    have rp2 : Rep os R1 F' S' L' := rp.congr fun i => by
      unfold Has
      refine exists_congr fun a => ?_
      rw [List.mem_append, List.mem_filter, List.mem_filter]
      cases isRel (a, i) <;> simp
    have tg := (TabG.of rep og).same s6
    have st6 := st.same s6
    obtain ⟨dx, ob⟩ := st6.ob
    have ne0 : dr ≠ e0 := ne_of_none st.r k0
    have ne1 : df ≠ e1 := ne_of_none st.f k1
    have ne2 : ds ≠ e2 := ne_of_none st.s k2
    have ne3 : dl ≠ e3 := ne_of_none st.l k3
    obtain ⟨lR, vR⟩ := rep.eqR rp2
    obtain ⟨lF, vF⟩ := rep.eqF rp2
    obtain ⟨lS, vS⟩ := rep.eqS rp2
    obtain ⟨lL, vL⟩ := rep.eqL rp2
    obtain ⟨bR, bF, bS, bL⟩ := rep.len
    -- relations, facts
    refine ⟨_, rfl, x, C, dx, _, _, rfl, ob, X.cl, X.nR, flds_r _ _ _ _, _, rfl, du, _, 0, .ref e0, rfl, rfl, SqL.of ed, at_of (j := 0) rfl rfl, dr, e0, kvR R, kvR R1, rfl, st6.r, da.r, ne0, by unfold kvR; rw [kvG_len, kvG_len, lR], isd_tab st6.rt da.rt vR (fun n q c e => ⟨by have := (tg.r n q c e).2.1; omega, (tg.r n q c e).2.2⟩), ?_⟩
    rintro z7 H7 rfl s7
    refine ⟨_, rfl, ?_⟩
    refine iteF ?_
    have st7 := st6.same s7
    have da7 := da.same s7
    refine ⟨_, rfl, x, C, dx, _, _, rfl, s7 _ _ ob, X.cl, X.nF, flds_f _ _ _ _, _, rfl, du, _, 1, .ref e1, rfl, rfl, SqL.of (s7 _ _ ed), at_of (j := 1) rfl rfl, df, e1, kvF F, kvF F', rfl, st7.f, da7.f, ne1, by unfold kvF; rw [kvG_len, kvG_len, lF], ?_, ?_⟩
    · intro k v e
      cases k with
      | inl i => rw [show valV (kvF F') (Sum.inl i) = none from valV_inl _ i F'] at e; cases e
      | inr n =>
        rw [kvF_val] at e
        cases z : valG F' n with
        | none => rw [z] at e; cases e
        | some xx =>
          rw [z] at e
          have ev : V.ref xx.1 = v := Option.some.inj e
          obtain ⟨q', rs', e', er⟩ := vF n xx.1 xx.2 z
          obtain ⟨h1, h2, h3⟩ := da7.ft n xx.1 xx.2 z
          obtain ⟨h4, h5, h6⟩ := st7.ft _ (valG_mem e')
          have h6' : rs'.length ≤ b := h6
          have ed1 : rs'.map (fun t => rowD t.2) = xx.2.map fun t => rowD t.2 := by
            have := congrArg (List.map rowD) er
            rw [List.map_map, List.map_map] at this
            exact this
          refine ⟨.ref q', .list (rs'.map fun t => rowD t.2), by rw [kvF_val, e']; rfl, .lst (SqL.of h4) (rws_dp h5), ?_, Gd.lst (by rw [List.length_map]; omega) fun d m => ?_⟩
          · rw [← ev, ed1]
            exact .lst (SqL.of h1) (rws_dp h2)
          · obtain ⟨t, mt, rfl⟩ := List.mem_map.mp m
            exact Gd.row (h5 t mt).2.1 (by have := (h5 t mt).2.2; omega)
    rintro z8 H8 rfl s8
    refine ⟨_, rfl, ?_⟩
    refine iteF ?_
    have s78 := s7.trans s8
    have st8 := st6.same s78
    have da8 := da.same s78
    have tg8 := tg.same s78
    -- structures, layouts
    refine ⟨_, rfl, x, C, dx, _, _, rfl, s78 _ _ ob, X.cl, X.nS, flds_s _ _ _ _, _, rfl, du, _, 2, .ref e2, rfl, rfl, SqL.of (s78 _ _ ed), at_of (j := 2) rfl rfl, ds, e2, kvR S, kvR S', rfl, st8.s, da8.s, ne2, by unfold kvR; rw [kvG_len, kvG_len, lS], isd_tab st8.st da8.st vS (fun n q c e => ⟨by have := (tg8.s n q c e).2.1; omega, (tg8.s n q c e).2.2⟩), ?_⟩
    rintro z9 H9 rfl s9
    refine ⟨_, rfl, ?_⟩
    refine iteF ?_
    have s79 := s78.trans s9
    have st9 := st6.same s79
    have da9 := da.same s79
    have tg9 := tg.same s79
    refine ⟨_, rfl, x, C, dx, _, _, rfl, s79 _ _ ob, X.cl, X.nL, flds_l _ _ _ _, _, rfl, du, _, 3, .ref e3, rfl, rfl, SqL.of (s79 _ _ ed), at_of (j := 3) rfl rfl, dl, e3, kvG id L, kvG id L', rfl, st9.l, da9.l, ne3, by rw [kvG_len, kvG_len, lL], ?_, ?_⟩
    · intro k v e
      cases k with
      | inl i => rw [show valV (kvG id L') (Sum.inl i) = none from valV_inl _ i L'] at e; cases e
      | inr n =>
        rw [kvG_val] at e
        cases z : valG L' n with
        | none => rw [z] at e; cases e
        | some v' =>
          rw [z] at e
          have ev : v' = v := Option.some.inj e
          subst ev
          have e' := vL n v' z
          obtain ⟨_, ds', dp, gd, _⟩ := tg9.l n v' e'
          cases dp with
          | cons p1 p2 => exact ⟨v', _, by rw [kvG_val, e']; rfl, p1, p1, (gd _ List.mem_cons_self).up (by omega)⟩
    rintro z10 H10 rfl s10
    refine ⟨_, rfl, ?_⟩
    refine iteF ?_
    have s70 := s79.trans s10
    have st10 := st6.same s70
    -- all items
    refine ⟨_, rfl, x, dx, _, rfl, s70 _ _ ob, flds_no _ _ _ _ (by decide +kernel), ?_⟩
    refine ⟨x, dr, df, ds, dl, Z, R, S, F, L, b, rfl, st10, hb, tg.same s70, by omega, by omega, by omega, by omega, fun its p ys fs ss ls H11 py sy pf sf ps ss' pl sl ee s11 np ep ig => ?_⟩
    have s611 := (s6.trans s70).trans s11
    have eqt := ee.trans (allE_eq rep ks so py sy pf sf ps ss' pl sl)
    obtain ⟨dd, d1, d2, gd⟩ := its_data ig (og.same s611) eqt
    have ll : dd.length ≤ 1000 := by
      have := DpAll.len d2
      rw [irf_len] at this
      omega
    have gl := Gd.lst ll gd
    refine ⟨_, rfl, .ref p, .ref o, .list dd, rfl, .lst (SqL.of ep) d1, .lst (s611.seq ho) d2, gl.i, gl.d, ?_⟩
    rintro z12 H12 rfl s12
    exact q _ _ rfl (s611.trans s12)
end
end K1
/-! more of Ow: methods, makings, comprehensions -/
namespace Ow
open PySem PySem.Spec PyProof.Rows L2
def rListK (K : PySem.W.Frag) : List V → Hp → VK → Prop := fun xs H Q => ∃ p ys, xs = [V.ref p] ∧ (SqL K H p ys ∨ SqT K H p ys) ∧ ∀ l, H l = none → Q (.ref l) (upd H l (.lst ys))
theorem call_list_K {X : Cx} {K : PySem.W.Frag} (e : X.K = K) : CallR X (.type "list") (rListK K) := by
  subst e
  exact call_list_of
theorem call_min_K {X : Cx} {K : PySem.W.Frag} (e : X.K = K) (hc : X.calm = true) : CallR X (.builtin "min") (rMin K) := by
  subst e
  exact cr_min hc
theorem call_max_K {X : Cx} {K : PySem.W.Frag} (e : X.K = K) (hc : X.calm = true) : CallR X (.builtin "max") (rMax K) := by
  subst e
  exact cr_max hc
theorem call_sum_K {X : Cx} {K : PySem.W.Frag} (e : X.K = K) (hc : X.calm = true) : CallR X (.builtin "sum") (rSum K) := by
  subst e
  exact cr_sum hc
/-- a comprehension whose turns leave what was: of the turns i with p i the value ys i -/
theorem lc_fl {J : L2.It} {n : Nat} {G : Hp → Prop} {Y : Nat → Hp → V → Hp → Prop} (w : Walk J n G Y) (p : Nat → Bool) (ys : Nat → V) (hn : n < sizeLine) {g : TG} {tt : TT} {te : TE} {vs : List Nat} {σ : L2.St} {H1 : Hp} {D : Addr} {Qd : Hp → Prop} (hD : H1 D = none)
    (hG : ∀ H, Same H1 H → G H)
    (hs : ∀ i x H H' (N : VK) (M : Hp → Prop), i < n → Same H1 H → Y i H x H' → (p i = true → ∀ H4, Same H H4 → N (ys i) H4) → (p i = false → ∀ H4, Same H H4 → M H4) →
      g x (wipe σ vs) H' fun σ2 H2 => wipe σ2 vs = wipe σ vs ∧ tt σ2 H2 fun b H3 => if b = true then te σ2 H3 N else M H3)
    (hd : ∀ H, Same H1 H → H D = some (.lst (((List.range n).filter p).map ys)) → Qd H) :
    ∃ W : Nat → Nat → Hp → Prop, (∃ m, W 0 m (upd H1 D (.lst []))) ∧ ∀ i m H, W i m H →
      (J.stop i H ∧ Qd H) ∨ (J.go i H ∧ ∃ Nx : Hp → Prop, (∀ H', Nx H' → ∃ m', m' < m ∧ W (i + 1) m' H') ∧ ∀ x H', J.yld i H x H' → g x (wipe σ vs) H' fun σ2 H2 => wipe σ2 vs = wipe σ vs ∧ tt σ2 H2 fun b H3 =>
        if b = true then te σ2 H3 fun y H4 => ∃ acc, H4 D = some (.lst acc) ∧ acc.length < sizeLine ∧ Nx (upd H4 D (.lst (acc ++ [y]))) else Nx H3) := by
  have pre : ∀ i, (((List.range i).filter p).map ys).length ≤ i := fun i => by
    rw [List.length_map]
    exact Nat.le_trans (List.length_filter_le _ _) (by rw [List.length_range]; exact Nat.le_refl _)
  refine lc_it w (fun i H => Same H1 H ∧ H D = some (.lst (((List.range i).filter p).map ys))) ⟨Same.new hD, upd_same⟩ (fun i H _ h => hG H h.1) (fun i x H H' hi h y => ?_) fun H h => hd H h.1 h.2
  have st : ((List.range (i + 1)).filter p).map ys = ((List.range i).filter p).map ys ++ (if p i = true then [ys i] else []) := by
    rw [List.range_succ, List.filter_append, List.map_append]
    cases e : p i <;> simp [List.filter, e]
  refine hs i x H H' _ _ hi h.1 y (fun e H4 s4 => ?_) fun e H4 s4 => ?_
  · refine ⟨_, s4 _ _ h.2, Nat.lt_of_le_of_lt (pre i) (Nat.lt_trans hi hn), Same.over (h.1.trans s4) hD, ?_⟩
    rw [upd_same, st, if_pos e]
  · refine ⟨h.1.trans s4, ?_⟩
    rw [s4 _ _ h.2, st, e, if_neg (by decide), List.append_nil]
theorem filter_all {α : Type} (xs : List α) : xs.filter (fun _ => true) = xs := by
  induction xs with
  | nil => rfl
  | cons x r ih => simp [List.filter, ih]
/-- every turn gives a value -/
theorem lc_mk {J : L2.It} {n : Nat} {G : Hp → Prop} {Y : Nat → Hp → V → Hp → Prop} (w : Walk J n G Y) (ys : Nat → V) (hn : n < sizeLine) {g : TG} {te : TE} {vs : List Nat} {σ : L2.St} {H1 : Hp} {D : Addr} {Qd : Hp → Prop} (hD : H1 D = none)
    (hG : ∀ H, Same H1 H → G H)
    (hs : ∀ i x H H' (N : VK), i < n → Same H1 H → Y i H x H' → (∀ H4, Same H H4 → N (ys i) H4) → g x (wipe σ vs) H' fun σ2 H2 => wipe σ2 vs = wipe σ vs ∧ te σ2 H2 N)
    (hd : ∀ H, Same H1 H → H D = some (.lst ((List.range n).map ys)) → Qd H) :
    ∃ W : Nat → Nat → Hp → Prop, (∃ m, W 0 m (upd H1 D (.lst []))) ∧ ∀ i m H, W i m H →
      (J.stop i H ∧ Qd H) ∨ (J.go i H ∧ ∃ Nx : Hp → Prop, (∀ H', Nx H' → ∃ m', m' < m ∧ W (i + 1) m' H') ∧ ∀ x H', J.yld i H x H' → g x (wipe σ vs) H' fun σ2 H2 => wipe σ2 vs = wipe σ vs ∧ tYes σ2 H2 fun b H3 =>
        if b = true then te σ2 H3 fun y H4 => ∃ acc, H4 D = some (.lst acc) ∧ acc.length < sizeLine ∧ Nx (upd H4 D (.lst (acc ++ [y]))) else Nx H3) :=
  lc_fl w (fun _ => true) ys hn hD hG (fun i x H H' N M hi s y h1 _ => hs i x H H' N hi s y (h1 rfl)) (by rw [filter_all]; exact hd)
/-- every turn gives a new list, of the row i -/
theorem lc_new {J : L2.It} {n : Nat} {G : Hp → Prop} {Y : Nat → Hp → V → Hp → Prop} (w : Walk J n G Y) (row : Nat → List V) (hn : n < sizeLine) {g : TG} {te : TE} {vs : List Nat} {σ : L2.St} {H1 : Hp} {D : Addr} {Qd : Hp → Prop} (hD : H1 D = none)
    (hG : ∀ H, Same H1 H → G H)
    (hs : ∀ i x H H' (N : VK), i < n → Same H1 H → Y i H x H' → (∀ H4 q, Same H H4 → H q = none → H4 q = some (.lst (row i)) → N (.ref q) H4) → g x (wipe σ vs) H' fun σ2 H2 => wipe σ2 vs = wipe σ vs ∧ te σ2 H2 N)
    (hd : ∀ (H : Hp) (ts : List Addr), Same H1 H → H D = some (.lst (ts.map V.ref)) → ts.length = n → (∀ i t, ts[i]? = some t → H1 t = none ∧ t ≠ D ∧ H t = some (.lst (row i))) → Qd H) :
    ∃ W : Nat → Nat → Hp → Prop, (∃ m, W 0 m (upd H1 D (.lst []))) ∧ ∀ i m H, W i m H →
      (J.stop i H ∧ Qd H) ∨ (J.go i H ∧ ∃ Nx : Hp → Prop, (∀ H', Nx H' → ∃ m', m' < m ∧ W (i + 1) m' H') ∧ ∀ x H', J.yld i H x H' → g x (wipe σ vs) H' fun σ2 H2 => wipe σ2 vs = wipe σ vs ∧ tYes σ2 H2 fun b H3 =>
        if b = true then te σ2 H3 fun y H4 => ∃ acc, H4 D = some (.lst acc) ∧ acc.length < sizeLine ∧ Nx (upd H4 D (.lst (acc ++ [y]))) else Nx H3) := by
  refine lc_it w (fun i H => Same H1 H ∧ ∃ ts : List Addr, H D = some (.lst (ts.map V.ref)) ∧ ts.length = i ∧ ∀ j t, ts[j]? = some t → H1 t = none ∧ t ≠ D ∧ H t = some (.lst (row j))) ⟨Same.new hD, [], upd_same, rfl, fun j t e => by simp at e⟩ (fun i H _ h => hG H h.1) (fun i x H H' hi h y => ?_) fun H h => ?_
  · obtain ⟨s, ts, eD, el, et⟩ := h
    refine hs i x H H' _ hi s y fun H4 q s4 nq eq => ?_
    have qD : q ≠ D := fun z => by rw [z, eD] at nq; cases nq
    refine ⟨_, s4 _ _ eD, by rw [List.length_map, el]; exact Nat.lt_trans hi hn, Same.over (s.trans s4) hD, ts ++ [q], ?_, by rw [List.length_append, el]; rfl, fun j t ej => ?_⟩
    · rw [upd_same, List.map_append]
      rfl
    · rcases Nat.lt_trichotomy j ts.length with h1 | h1 | h1
      · rw [List.getElem?_append_left h1] at ej
        obtain ⟨f1, f2, f3⟩ := et j t ej
        exact ⟨f1, f2, by rw [upd_ne f2]; exact s4 _ _ f3⟩
      · subst h1
        have e2 : q = t := by simpa using ej
        subst e2
        refine ⟨?_, qD, by rw [upd_ne qD, el]; exact eq⟩
        cases z : H1 q with
        | none => rfl
        | some o => rw [s q o z] at nq; cases nq
      · rw [List.getElem?_eq_none (by rw [List.length_append, List.length_singleton]; omega)] at ej
        cases ej
  · obtain ⟨s, ts, eD, el, et⟩ := h
    exact hd H ts s eD el et
/-- the method m of the class C keeps sp, by k levels -/
structure Kmt (P : Program) (w : World) (K : PySem.W.Frag) (mg : Str → Option Value) (base : Heap) (C : Addr) (k : Nat) (m : Str) (ps : List Str) (sp : Sp) : Prop where
  ex : ∃ f fd, Meth K C m f ∧ FnOk P w K mg base CX0 k f fd ps sp ∧ Binds K fd ps []
  cl : Cls K C
theorem pe_mt {X : Cx} {k j : Nat} {C : Addr} {m : Str} {ps : List Str} {sp : Sp} {o e : Expr} {es : List Expr} {ta : TE} {t : TA} {apos pos : Pos} {pl : Sem Bool} (c : Kmt X.prog X.w X.K X.mg X.base C k m ps sp) (hr : Room j X.A) (he : PE X o ta) (ha : PA X (e :: es) t) (hk : k ≤ j := by decide)
    (hst : starEach (e :: es) X.env = (false, eval e X.env) :: starEach es X.env := by rfl) (hpl : (backTo pos (starEach es X.env)).any (·.1) = false := by rfl)
    (ht : eval (.Call (.Attribute o m apos) (e :: es) [] pos) X.env = (do
      let ov ← eval o X.env; standAt apos.atName
      let (f, first) ← holding [ov] (getMethod ov m pl)
      callWith pos f first (backTo pos (starEach (e :: es) X.env)) (backToKw pos (keywordEach [] X.env))) := by rfl) :
    PE X (.Call (.Attribute o m apos) (e :: es) [] pos) (tMeth C m sp [] E0 ta t) := by
  obtain ⟨f, fd, hm, F, b⟩ := c.ex
  exact pe_meth he c.cl hm F (hr.mono hk) b .nil pass0 ha hst hpl ht
theorem pi_list_K {X : Cx} {K : PySem.W.Frag} (eK : X.K = K) {tg l : Expr} {tl : TE} (h : PE X l tl) : PI X tg l (iList K tl) := by
  subst eK
  exact pi_list h
theorem sqt_same {K : PySem.W.Frag} {H H' : Hp} {t : Addr} {xs : List V} (s : Same H H') (e : SqT K H t xs) : SqT K H' t xs := by
  rcases e with (h | ⟨o, h⟩) | h
  · exact .inl (.inl (s _ _ h))
  · exact .inl (.inr ⟨o, s _ _ h⟩)
  · exact .inr h
theorem pe_mt0 {X : Cx} {k j : Nat} {C : Addr} {m : Str} {ps : List Str} {sp : Sp} {o : Expr} {ta : TE} {apos pos : Pos} {pl : Sem Bool} (c : Kmt X.prog X.w X.K X.mg X.base C k m ps sp) (hr : Room j X.A) (he : PE X o ta) (hk : k ≤ j := by decide)
    (ht : eval (.Call (.Attribute o m apos) [] [] pos) X.env = (do
      let ov ← eval o X.env; standAt apos.atName
      let (f, first) ← holding [ov] (getMethod ov m pl)
      callWith pos f first (backTo pos (starEach [] X.env)) (backToKw pos (keywordEach [] X.env))) := by rfl) :
    PE X (.Call (.Attribute o m apos) [] [] pos) (tMeth C m sp [] E0 ta tNil) := by
  obtain ⟨f, fd, hm, F, b⟩ := c.ex
  exact pe_meth0 he c.cl hm F (hr.mono hk) b .nil pass0 ht
/-- the class C is made by an __init__ that keeps sp, by k levels -/
structure Kmk (P : Program) (w : World) (K : PySem.W.Frag) (mg : Str → Option Value) (base : Heap) (C : Addr) (k : Nat) (ps : List Str) (sp : Sp) : Prop where
  ex : ∃ f fd, Mk K C f ∧ FnOk P w K mg base CX0 k f fd ps sp ∧ Binds K fd ps []
theorem pe_mk {X : Cx} {k j : Nat} {C : Addr} {x : Str} {ps : List Str} {sp : Sp} {e : Expr} {es : List Expr} {t : TA} {p pos : Pos} (c : Kmk X.prog X.w X.K X.mg X.base C k ps sp) (hm : X.mg x = some (.ref C)) (hr : Room j X.A) (ha : PA X (e :: es) t) (hk : k + 1 ≤ j := by decide) (hg : Gl X x := by rfl)
    (hdb : (x == ("__debug__" : Str)) = false := by decide) (he : starEach (e :: es) X.env = (false, eval e X.env) :: starEach es X.env := by rfl) (hpl : (backTo pos (starEach es X.env)).any (·.1) = false := by rfl) :
    PE X (.Call (.Name x p) (e :: es) [] pos) (tMake C sp [] E0 t) := by
  obtain ⟨f, fd, M, F, b⟩ := c.ex
  exact pe_make M F (hr.mono hk) hg hm b .nil pass0 ha hdb he hpl
end Ow
/-! the Reader: what it reads of bytes that were written -/
namespace Ow
open PySem PySem.Spec PyProof.Rows L2
def ipM : TIp := fun x y H Q => ∃ i j, x = .int i ∧ y = .int j ∧ CMul i j ∧ Q (.int (i * j)) H
theorem ip_mul {X : Cx} : PIp X .Mult ipM := by
  intro pins s σ H x y v u Q I r1 r2 h
  obtain ⟨i, j, e1, e2, hc, q⟩ := h
  subst e1; subst e2
  obtain ⟨t, rfl⟩ := r1
  obtain ⟨t', rfl⟩ := r2
  exact imul_int ⟨.int _, H, I.tok _, ⟨_, rfl⟩, q⟩ hc.ok
theorem pe_gi {X : Cx} {x : Str} {n : Int} {t : Tok} {pos : Pos} (gl : Gl X x) (top : X.mg x = some (.int n t)) (h1 : x ≠ "__name__" := by decide) (h2 : (x == ("__debug__" : Str)) = false := by decide) : PE X (.Name x pos) (tC (.int n)) := pe_glob (v := .int n) gl top ⟨_, rfl⟩ (hd := h2)
theorem pe_gs {X : Cx} {x : Str} {n : Str} {t : Tok} {pos : Pos} (gl : Gl X x) (top : X.mg x = some (.str n t)) (h1 : x ≠ "__name__" := by decide) (h2 : (x == ("__debug__" : Str)) = false := by decide) : PE X (.Name x pos) (tC (.str n)) := pe_glob (v := .str n) gl top ⟨_, rfl⟩ (hd := h2)
end Ow
namespace Bd
open PySem PySem.Spec PyProof.Rows L2 Ow K1
def CHRS : Str := PySem.Str.ofString " !\"#$&'()*+,-./0123456789:;<=>?@ABCDEFGHIJKLMNOPQRSTUVWXYZ[\\]^_`abcdefghijklmnopqrstuvwxyz{|}~"
structure Gr (mg : Str → Option Value) : Prop where
  most : ∃ t, mg "MOST_NUMBER_BYTES" = some (.int 60 t)
  first : ∃ t, mg "FIRST_CODE" = some (.int 32 t)
  last : ∃ t, mg "LAST_CODE" = some (.int 126 t)
  out : ∃ t, mg "LEFT_OUT_CODE" = some (.int 37 t)
  chars : ∃ t, mg "CHARACTERS" = some (.str CHRS t)
structure TxtR (K : PySem.W.Frag) (mg : Str → Option Value) (C : Addr) : Prop where
  cl : Cls K C
  data : NoAttr K C "data"
  at_ : NoAttr K C "at"
  mgC : mg "Reader" = some (.ref C)
/-- the reader at x, behind k of the bytes ds -/
structure RdAt (C : Addr) (H : Hp) (x da : Addr) (ds : List Int) (k : Nat) : Prop where
  ob : ∃ dx, H x = some (.ins C dx [("data", .ref da), ("at", .int (k : Nat))])
  d : H da = some (.lst (ds.map V.int))
  l : k ≤ ds.length
theorem RdAt.same {C : Addr} {H H' : Hp} {x da : Addr} {ds : List Int} {k : Nat} (h : RdAt C H x da ds k) (s : Same H H') : RdAt C H' x da ds k := by
  obtain ⟨dx, ob⟩ := h.ob
  exact ⟨⟨dx, s _ _ ob⟩, s _ _ h.d, h.l⟩
theorem RdAt.ne {C : Addr} {H : Hp} {x da : Addr} {ds : List Int} {k : Nat} (h : RdAt C H x da ds k) : da ≠ x := fun z => by
  obtain ⟨dx, ob⟩ := h.ob
  have := h.d
  rw [z, ob] at this
  cases this
/-- the def reads enc a and answers by out -/
def spRd {α : Type} (C : Addr) (ok : α → Prop) (enc : α → List Int) (out : α → V → Hp → Prop) : Sp := fun vs H Q _ => ∃ (x da : Addr) (ds : List Int) (k : Nat) (a : α) (rest : List Int), vs = [.ref x] ∧ RdAt C H x da ds k ∧ ok a ∧ ds.drop k = enc a ++ rest ∧
  ∀ v H', RdAt C H' x da ds (k + (enc a).length) → Gw x H H' → out a v H' → Q v H'
def spLeft (C : Addr) : Sp := fun vs H Q _ => ∃ (x da : Addr) (ds : List Int) (k : Nat), vs = [.ref x] ∧ RdAt C H x da ds k ∧ Q (.int ((ds.length - k : Nat) : Int)) H
def spChoice (C : Addr) : Sp := fun vs H Q _ => ∃ (x da : Addr) (ds : List Int) (k : Nat) (b m : Int) (rest : List Int), vs = [.ref x, .int m] ∧ RdAt C H x da ds k ∧ b < m ∧ ds.drop k = b :: rest ∧ ∀ H', RdAt C H' x da ds (k + 1) → Gw x H H' → Q (.int b) H'
def spLen (C : Addr) : Sp := fun vs H Q _ => ∃ (x da : Addr) (ds : List Int) (k n : Nat) (rest : List Int), vs = [.ref x] ∧ RdAt C H x da ds k ∧ n < 2 ^ 140 ∧ ds.drop k = numB n ++ rest ∧ n ≤ rest.length ∧ ∀ H', RdAt C H' x da ds (k + (numB n).length) → Gw x H H' → Q (.int (n : Nat)) H'
def outI {α : Type} (f : α → V) : α → V → Hp → Prop := fun a v _ => v = f a
def spByte (C : Addr) : Sp := spRd C (fun _ : Int => True) (fun b => [b]) (outI V.int)
def spNum (C : Addr) : Sp := spRd C (fun n : Nat => n < 2 ^ 140) numB (outI fun n => .int (n : Nat))
def spInt (C : Addr) : Sp := spRd C (fun i : Int => i.natAbs < 2 ^ 140) intB (outI V.int)
def spStr (C : Addr) : Sp := spRd C (fun z : Str => Pr z ∧ z.length ≤ 200) strB (outI V.str)
def spVal (C : Addr) : Sp := spRd C (fun v : V => Scal v) valB (outI id)
def spRdRow (C : Addr) : Sp := spRd C (fun xs : List V => (∀ x ∈ xs, Scal x) ∧ xs.length ≤ 10) rowB (fun xs v H => ∃ p, v = .ref p ∧ H p = some (.tup xs))
def spChar : Sp := fun vs H Q _ => ∃ c : Nat, vs = [.int (c : Nat)] ∧ 32 ≤ c ∧ c < 127 ∧ c ≠ 37 ∧ Q (.str ⟨#[c]⟩) H
def spRInit (K : PySem.W.Frag) (C : Addr) : Sp := fun vs H Q _ => ∃ (x a dx : Addr) (ds : List Int), vs = [.ref x, .ref a] ∧ H x = some (.ins C dx []) ∧ SqL K H a (ds.map V.int) ∧ ∀ H' da, RdAt C H' x da ds 0 → H da = none → Gw x H H' → Q .non H'
end Bd
namespace K1
open PySem PySem.Spec PyProof.Rows L2 Ow Bd
abbrev scharacter : Stmt := topS 33
abbrev Ncharacter : List Str := ["code"]
theorem sccharacter : FnScope Ncharacter ["code"] (defScope scharacter) := ⟨rfl, rfl, rfl, by decide +kernel, rfl, by decide +kernel, by decide +kernel⟩
abbrev sReader_init : Stmt := inClass (topS 34) 0
abbrev NReader_init : List Str := ["self", "data"]
theorem scReader_init : FnScope NReader_init ["self", "data"] (defScope sReader_init) := ⟨rfl, rfl, rfl, by decide +kernel, rfl, by decide +kernel, by decide +kernel⟩
abbrev sReader_left : Stmt := inClass (topS 34) 1
abbrev NReader_left : List Str := ["self"]
theorem scReader_left : FnScope NReader_left ["self"] (defScope sReader_left) := ⟨rfl, rfl, rfl, by decide +kernel, rfl, by decide +kernel, by decide +kernel⟩
abbrev sReader_read_byte : Stmt := inClass (topS 34) 2
abbrev NReader_read_byte : List Str := ["self", "byte"]
theorem scReader_read_byte : FnScope NReader_read_byte ["self"] (defScope sReader_read_byte) := ⟨rfl, rfl, rfl, by decide +kernel, rfl, by decide +kernel, by decide +kernel⟩
abbrev sReader_read_choice : Stmt := inClass (topS 34) 3
abbrev NReader_read_choice : List Str := ["self", "many", "byte"]
theorem scReader_read_choice : FnScope NReader_read_choice ["self", "many"] (defScope sReader_read_choice) := ⟨rfl, rfl, rfl, by decide +kernel, rfl, by decide +kernel, by decide +kernel⟩
abbrev sReader_read_number : Stmt := inClass (topS 34) 4
abbrev NReader_read_number : List Str := ["self", "number", "scale", "place", "byte"]
theorem scReader_read_number : FnScope NReader_read_number ["self"] (defScope sReader_read_number) := ⟨rfl, rfl, rfl, by decide +kernel, rfl, by decide +kernel, by decide +kernel⟩
abbrev sReader_read_length : Stmt := inClass (topS 34) 5
abbrev NReader_read_length : List Str := ["self", "many"]
theorem scReader_read_length : FnScope NReader_read_length ["self"] (defScope sReader_read_length) := ⟨rfl, rfl, rfl, by decide +kernel, rfl, by decide +kernel, by decide +kernel⟩
abbrev sReader_read_integer : Stmt := inClass (topS 34) 6
abbrev NReader_read_integer : List Str := ["self", "sign", "number"]
theorem scReader_read_integer : FnScope NReader_read_integer ["self"] (defScope sReader_read_integer) := ⟨rfl, rfl, rfl, by decide +kernel, rfl, by decide +kernel, by decide +kernel⟩
theorem drop_head {ds : List Int} {k : Nat} {b : Int} {rest : List Int} (h : ds.drop k = b :: rest) : ds[k]? = some b ∧ ds.drop (k + 1) = rest ∧ k < ds.length := by
  have h1 : (ds.drop k)[0]? = some b := by rw [h]; rfl
  rw [List.getElem?_drop, Nat.add_zero] at h1
  refine ⟨h1, ?_, (List.getElem?_eq_some_iff.mp h1).1⟩
  rw [← List.drop_drop, h]
  rfl
theorem drop_enc {ds enc rest : List Int} {k : Nat} (h : ds.drop k = enc ++ rest) : ds.drop (k + enc.length) = rest := by
  rw [← List.drop_drop, h, List.drop_left]
theorem drop_len {ds xs : List Int} {k : Nat} (h : ds.drop k = xs) (l : k ≤ ds.length) : ds.length - k = xs.length := by rw [← h, List.length_drop]
/-- the signs of the table -/
theorem chr_at : ∀ c : Nat, 32 ≤ c → c < 127 → c ≠ 37 → CHRS.cps.toList[if c < 37 then c - 32 else c - 33]? = some c := by
  have : ∀ c, c < 127 → (32 ≤ c → c ≠ 37 → CHRS.cps.toList[if c < 37 then c - 32 else c - 33]? = some c) := by decide +kernel
  exact fun c h1 h2 h3 => this c h2 h1 h3
section
variable {P : Program} {w : World} {K : PySem.W.Frag} {mg : Str → Option Value} {base : Heap}
theorem ok_character {f : Addr} {fd : FuncData} (F : Fun K "character" "character" scharacter f fd) (G0 : Gr mg) : FnOk P w K mg base CX0 1 f fd ["code"] spChar := by
  refine F.ok sccharacter (fun vs H Q E h => ?_) (fun cdv A outer s H vs Q E hr h => ?_)
  · obtain ⟨c, rfl, _⟩ := h
    rfl
  · obtain ⟨c, rfl, h1, h2, h3, q⟩ := h
    obtain ⟨t1, gFIRST_CODE⟩ := G0.first
    obtain ⟨t2, gLAST_CODE⟩ := G0.last
    obtain ⟨t3, gLEFT_OUT_CODE⟩ := G0.out
    obtain ⟨t4, gCHARACTERS⟩ := G0.chars
    refine ⟨_, (pss_cons (ps_if (PW.pt (pw_or (pt_cmpR op_lt (pv 0) (pe_gi (by rfl) gFIRST_CODE) (nomark _)) (pw_or (pt_cmpR op_gt (pv 0) (pe_gi (by rfl) gLAST_CODE) (nomark _)) (pw_or1 (pt_cmpR op_eq (pv 0) (pe_gi (by rfl) gLEFT_OUT_CODE) (nomark _)))))) (pss_one (ps_never)) pss_nil)
      (pss_cons (ps_if (pt_cmpR op_lt (pv 0) (pe_gi (by rfl) gLEFT_OUT_CODE) (nomark _)) (pss_one (ps_ret (pe_ix ix_str (pe_gs (by rfl) gCHARACTERS) (pe_op op_sub (pv 0) (pe_gi (by rfl) gFIRST_CODE)) (fun _ _ => rfl)))) pss_nil)
      (pss_one (ps_ret (pe_ix ix_str (pe_gs (by rfl) gCHARACTERS) (pe_op op_sub (pe_op op_sub (pv 0) (pe_gi (by rfl) gFIRST_CODE)) pe_int) (fun _ _ => rfl)))))), ?_⟩
    have e := chr_at c h1 h2 h3
    refine ⟨_, rfl, _, _, rfl, rfl, _, rfl, ?_⟩
    rw [decide_eq_false (show ¬ ((c : Nat) : Int) < 32 by omega)]
    refine iteF ⟨_, rfl, _, _, rfl, rfl, _, rfl, ?_⟩
    rw [decide_eq_false (show ¬ ((c : Nat) : Int) > 126 by omega)]
    refine iteF ⟨_, rfl, rfl, _, rfl, ?_⟩
    rw [decide_eq_false (show ¬ V.int ((c : Nat) : Int) = V.int 37 by intro z; injection z with z; omega)]
    refine iteF ⟨_, rfl, _, _, rfl, rfl, _, rfl, ?_⟩
    by_cases z : c < 37
    · rw [decide_eq_true (show ((c : Nat) : Int) < 37 by omega)]
      rw [if_pos z] at e
      refine iteT ⟨_, rfl, _, _, rfl, rfl, CHRS, _, c, rfl, rfl, by decide +kernel, ?_, q⟩
      rw [show ((c : Nat) : Int) - 32 = ((c - 32 : Nat) : Int) by omega]
      exact atI_nat e
    · rw [decide_eq_false (show ¬ ((c : Nat) : Int) < 37 by omega)]
      rw [if_neg z] at e
      refine iteF ⟨_, rfl, _, _, rfl, rfl, _, _, rfl, rfl, CHRS, _, c, rfl, rfl, by decide +kernel, ?_, q⟩
      show atI _ (((c : Nat) : Int) - 32 - 1) = _
      rw [show ((c : Nat) : Int) - 32 - 1 = ((c - 33 : Nat) : Int) by omega]
      exact atI_nat e
theorem ok_rinit {f C : Addr} {fd : FuncData} (F : Fun K "__init__" "Reader.__init__" sReader_init f fd) (T0 : Bl mg) (X : TxtR K mg C) : FnOk P w K mg base CX0 1 f fd ["self", "data"] (spRInit K C) := by
  refine F.ok scReader_init (fun vs H Q E h => ?_) (fun cdv A outer s H vs Q E hr h => ?_)
  · obtain ⟨x, a, dx, ds, rfl, _⟩ := h
    rfl
  · obtain ⟨x, a, dx, ds, rfl, ob, sq, q⟩ := h
    refine ⟨_, (pss_cons (ps_fld (pv 0) (pe_callTy call_list_of (by rfl) T0.list (by decide +kernel) (pa_cons (pv 1) pa_nil)) rfl)
      (pss_one (ps_fld (pv 0) pe_int rfl))), ?_⟩
    refine ⟨_, rfl, a, _, rfl, .inl sq, fun p np => ⟨_, rfl, x, C, dx, _, rfl, Same.new np _ _ ob, X.cl, X.data, by show 0 < 1000; decide, ?_⟩⟩
    have px : p ≠ x := fun z => by rw [z, ob] at np; cases np
    refine ⟨_, rfl, x, C, dx, _, rfl, upd_same, X.cl, X.at_, by show 1 < 1000; decide, ?_⟩
    rw [upd_upd]
    exact q _ p ⟨⟨dx, upd_same⟩, by rw [upd_ne px, upd_same], Nat.zero_le _⟩ np ((Gw.new np).trans Gw.put)
theorem ok_rleft {f C : Addr} {fd : FuncData} (F : Fun K "left" "Reader.left" sReader_left f fd) (T0 : Bl mg) (X : TxtR K mg C) : FnOk P w K mg base CX0 1 f fd ["self"] (spLeft C) := by
  refine F.ok scReader_left (fun vs H Q E h => ?_) (fun cdv A outer s H vs Q E hr h => ?_)
  · obtain ⟨x, da, ds, k, rfl, _⟩ := h
    rfl
  · obtain ⟨x, da, ds, k, rfl, R, q⟩ := h
    obtain ⟨dx, ob⟩ := R.ob
    have hk := R.l
    refine ⟨_, (pss_one (ps_ret (pe_op op_sub (pe_callB call_len_seq (by rfl) T0.len PySem.boot_len (pa_cons (pe_fld (pv 0) rfl) pa_nil)) (pe_fld (pv 0) rfl)))), ?_⟩
    refine ⟨_, rfl, x, C, dx, _, _, rfl, ob, X.cl, X.data, rfl, da, _, rfl, .inl (SqL.of R.d), _, rfl, x, C, dx, _, _, rfl, ob, X.cl, X.at_, rfl, _, _, rfl, rfl, ?_⟩
    rw [List.length_map]
    show Q (.int (((ds.length : Nat) : Int) - ((k : Nat) : Int))) H
    rw [show (((ds.length : Nat) : Int) - ((k : Nat) : Int)) = ((ds.length - k : Nat) : Int) by omega]
    exact q
theorem ok_rbyte {f C : Addr} {fd : FuncData} (F : Fun K "read_byte" "Reader.read_byte" sReader_read_byte f fd) (T0 : Bl mg) (X : TxtR K mg C) (Rleft : Kmt P w K mg base C 1 "left" ["self"] (spLeft C)) : FnOk P w K mg base CX0 2 f fd ["self"] (spByte C) := by
  refine F.ok scReader_read_byte (fun vs H Q E h => ?_) (fun cdv A outer s H vs Q E hr h => ?_)
  · obtain ⟨x, da, ds, k, b, rest, rfl, _⟩ := h
    rfl
  · obtain ⟨x, da, ds, k, b, rest, rfl, R, _, hd, q⟩ := h
    obtain ⟨dx, ob⟩ := R.ob
    obtain ⟨e1, e2, e3⟩ := drop_head hd
    refine ⟨_, (pss_cons (ps_if (pt_cmpR op_lt (pe_mt0 Rleft hr (pv 0)) pe_int (nomark _)) (pss_one (ps_never)) pss_nil)
      (pss_cons (ps_set (i := 1) scReader_read_byte.nd rfl (.inl rfl) (pe_ix ix_list (pe_fld (pv 0) rfl) (pe_fld (pv 0) rfl) (fun _ _ => rfl)))
      (pss_cons (ps_fldaug (pv 0) pe_int in_add)
      (pss_one (ps_ret (pv 1)))))), ?_⟩
    refine ⟨_, rfl, x, dx, _, rfl, ob, rfl, x, da, ds, k, rfl, R, _, _, rfl, rfl, _, rfl, ?_⟩
    rw [decide_eq_false (show ¬ ((ds.length - k : Nat) : Int) < 1 by omega)]
    refine iteF ⟨_, rfl, x, C, dx, _, _, rfl, ob, X.cl, X.data, rfl, _, rfl, x, C, dx, _, _, rfl, ob, X.cl, X.at_, rfl, da, _, _, _, rfl, rfl, SqL.of R.d, atI_nat (by rw [List.getElem?_map, e1]; rfl), ?_⟩
    refine ⟨_, rfl, x, C, dx, _, _, rfl, ob, X.cl, X.at_, rfl, _, _, rfl, rfl, dx, _, ob, by show 2 < 1000; decide, ?_⟩
    refine ⟨_, rfl, q _ _ ⟨⟨dx, upd_same⟩, by rw [upd_ne R.ne]; exact R.d, e3⟩ Gw.put rfl⟩
theorem ok_rchoice {f C : Addr} {fd : FuncData} (F : Fun K "read_choice" "Reader.read_choice" sReader_read_choice f fd) (Rbyte : Kmt P w K mg base C 2 "read_byte" ["self"] (spByte C)) : FnOk P w K mg base CX0 3 f fd ["self", "many"] (spChoice C) := by
  refine F.ok scReader_read_choice (fun vs H Q E h => ?_) (fun cdv A outer s H vs Q E hr h => ?_)
  · obtain ⟨x, da, ds, k, b, m, rest, rfl, _⟩ := h
    rfl
  · obtain ⟨x, da, ds, k, b, m, rest, rfl, R, hb, hd, q⟩ := h
    obtain ⟨dx, ob⟩ := R.ob
    refine ⟨_, (pss_cons (ps_set (i := 2) scReader_read_choice.nd rfl (.inl rfl) (pe_mt0 Rbyte hr (pv 0)))
      (pss_cons (ps_if (pt_cmpR op_ge (pv 2) (pv 1) (nomark _)) (pss_one (ps_never)) pss_nil)
      (pss_one (ps_ret (pv 2))))), ?_⟩
    refine ⟨_, rfl, x, dx, _, rfl, ob, rfl, x, da, ds, k, b, rest, rfl, R, trivial, hd, fun v H1 R1 g1 o1 => ?_⟩
    obtain rfl : v = .int b := o1
    refine ⟨_, rfl, _, rfl, _, _, rfl, rfl, _, rfl, ?_⟩
    rw [decide_eq_false (show ¬ b ≥ m by omega)]
    exact iteF ⟨_, rfl, q _ R1 g1⟩
theorem numB_pos (n : Nat) : 0 < (numB n).length := by
  by_cases h : n ≤ 127
  · rw [numB_small h]; simp
  · rw [numB_big h]; simp
theorem ok_rnumber {f C : Addr} {fd : FuncData} (F : Fun K "read_number" "Reader.read_number" sReader_read_number f fd) (T0 : Bl mg) (G0 : Gr mg) (Rbyte : Kmt P w K mg base C 2 "read_byte" ["self"] (spByte C)) : FnOk P w K mg base CX0 3 f fd ["self"] (spNum C) := by
  refine F.ok scReader_read_number (fun vs H Q E h => ?_) (fun cdv A outer s H vs Q E hr h => ?_)
  · obtain ⟨x, da, ds, k, b, rest, rfl, _⟩ := h
    rfl
  · obtain ⟨x, da, ds, k, n, rest, rfl, R, hn, hd, q⟩ := h
    obtain ⟨t1, gMOST_NUMBER_BYTES⟩ := G0.most
    refine ⟨_, (pss_cons (ps_set (i := 1) scReader_read_number.nd rfl (.inl rfl) pe_int)
      (pss_cons (ps_set (i := 2) scReader_read_number.nd rfl (.inl rfl) pe_int)
      (pss_cons (ps_for PassesOwn.never rfl (pi_range1 (by rfl) T0.range (pa_cons (pe_gi (by rfl) gMOST_NUMBER_BYTES) pa_nil)) (pg_name (i := 3) scReader_read_number.nd rfl (.inl rfl)) (pss_cons (ps_set (i := 4) scReader_read_number.nd rfl (.inl rfl) (pe_mt0 Rbyte hr (pv 0)))
      (pss_cons (ps_if (pt_cmpR op_lt (pv 4) pe_int (nomark _)) (pss_cons (ps_if (PW.pt (pw_and (pt_cmpR op_eq (pv 4) pe_int (nomark _)) (pw_and1 (pt_cmpR op_gt (pv 3) pe_int (nomark _))))) (pss_one (ps_never)) pss_nil)
      (pss_one (ps_ret (pe_op op_add (pv 1) (pe_op op_mul (pv 4) (pv 2)))))) pss_nil)
      (pss_cons (ps_aug (i := 1) scReader_read_number.nd rfl (.inl rfl) (pe_op op_mul (pe_op op_sub (pv 4) pe_int) (pv 2)) ip_add)
      (pss_one (ps_aug (i := 2) scReader_read_number.nd rfl (.inl rfl) pe_int ip_mul))))))
      (pss_one (ps_never))))), ?_⟩
    have ln := numB_20 hn
    refine ⟨60, rfl, by decide, by decide, for_range (lo := 0) (n := 60) (fun i σ H' => ∃ v3 v4 m c s, σ = [some (.ref x), some (.int (c : Nat)), some (.int (s : Nat)), v3, v4] ∧ RdAt C H' x da ds (k + i) ∧ Gw x H H' ∧ ds.drop (k + i) = numB m ++ rest ∧ c + m * s = n ∧ (0 < i → 0 < m) ∧ i + (numB m).length = (numB n).length)
      ⟨none, none, n, 0, 1, rfl, R, Gw.refl _ _, hd, by omega, fun z => absurd z (Nat.lt_irrefl _), by omega⟩ ?_ ?_⟩
    · rintro i σ H1 hi ⟨v3, v4, m, c, s, rfl, R1, g1, hd1, hc, hm, hl⟩
      obtain ⟨dx, ob⟩ := R1.ob
      show gName 3 (V.int (0 + (i : Int))) _ _ _
      rw [Int.zero_add]
      by_cases z : m ≤ 127
      · have hb := hd1
        rw [numB_small z] at hb hl
        refine ⟨_, rfl, x, dx, _, rfl, ob, rfl, x, da, ds, k + i, (m : Int), rest, rfl, R1, trivial, hb, fun v H2 R2 g2 o2 => ?_⟩
        obtain rfl : v = .int (m : Int) := o2
        refine ⟨_, rfl, _, _, rfl, rfl, _, rfl, ?_⟩
        rw [decide_eq_true (show ((m : Nat) : Int) < 128 by omega)]
        refine iteT ?_
        refine ⟨_, rfl, rfl, _, rfl, ?_⟩
        have fin : Q (.int ((c : Nat) + (m : Nat) * (s : Nat) : Int)) H2 := by
          have e : ((c : Nat) + (m : Nat) * (s : Nat) : Int) = ((n : Nat) : Int) := by rw [← hc]; simp
          rw [e]
          refine q _ _ ?_ (g1.trans g2) rfl
          have e2 : k + i + [(m : Int)].length = k + (numB n).length := by rw [← hl]; simp; omega
          rw [← e2]
          exact R2
        by_cases y : m = 0
        · rw [decide_eq_true (show V.int ((m : Nat) : Int) = V.int 0 by rw [y]; rfl)]
          refine iteT ⟨_, rfl, _, _, rfl, rfl, _, rfl, ?_⟩
          have i0 : ¬ 0 < i := fun h => by have := hm h; omega
          rw [decide_eq_false (show ¬ ((i : Nat) : Int) > 0 by omega)]
          refine iteF ⟨_, rfl, _, rfl, _, rfl, _, _, rfl, rfl, .inl ⟨by omega, by omega⟩, _, _, rfl, rfl, fin⟩
        · rw [decide_eq_false (show ¬ V.int ((m : Nat) : Int) = V.int 0 by intro h; injection h with h; omega)]
          refine iteF (iteF ⟨_, rfl, _, rfl, _, rfl, _, _, rfl, rfl, .inl ⟨by omega, by omega⟩, _, _, rfl, rfl, fin⟩)
      · have hb := hd1
        rw [numB_big z] at hb hl
        refine ⟨_, rfl, x, dx, _, rfl, ob, rfl, x, da, ds, k + i, 128 + (m : Int) % 128, numB (m / 128) ++ rest, rfl, R1, trivial, hb, fun v H2 R2 g2 o2 => ?_⟩
        obtain rfl : v = .int (128 + (m : Int) % 128) := o2
        refine ⟨_, rfl, _, _, rfl, rfl, _, rfl, ?_⟩
        rw [decide_eq_false (show ¬ 128 + (m : Int) % 128 < 128 by omega)]
        refine iteF ?_
        refine ⟨_, rfl, _, rfl, _, _, rfl, rfl, _, rfl, _, _, rfl, rfl, .inl ⟨by omega, by omega⟩, _, _, rfl, rfl, ?_⟩
        refine ⟨_, rfl, _, _, rfl, rfl, .inr ⟨by decide, by decide⟩, ?_⟩
        have dm := Nat.div_add_mod m 128
        refine ⟨some (.int (i : Nat)), some (.int (128 + ((m : Nat) : Int) % 128)), m / 128, c + m % 128 * s, s * 128, ?_, ?_, g1.trans g2, ?_, ?_, fun _ => Nat.div_pos (by omega) (by decide), by rw [← hl]; simp; omega⟩
        · show [some (V.ref x), some (V.int (((c : Nat) : Int) + (128 + ((m : Nat) : Int) % 128 - 128) * ((s : Nat) : Int))), some (V.int (((s : Nat) : Int) * 128)), _, _] = _
          congr 3
          · congr 2
            have : (128 + ((m : Nat) : Int) % 128 - 128) = ((m % 128 : Nat) : Int) := by omega
            rw [this]
            simp
        · exact R2
        · have := drop_head hb
          exact this.2.1
        · rw [← hc]
          have e : m * s = (128 * (m / 128) + m % 128) * s := by rw [dm]
          rw [e, Nat.add_mul]
          have e2 : m / 128 * (s * 128) = 128 * (m / 128) * s := by
            rw [Nat.mul_comm s 128, ← Nat.mul_assoc, Nat.mul_comm (m / 128) 128]
          omega
    · rintro σ H1 ⟨v3, v4, m, c, s, rfl, R1, g1, hd1, hc, hm, hl⟩
      have := numB_pos m
      omega
theorem ok_rlength {f C : Addr} {fd : FuncData} (F : Fun K "read_length" "Reader.read_length" sReader_read_length f fd) (Rleft : Kmt P w K mg base C 1 "left" ["self"] (spLeft C)) (Rnumber : Kmt P w K mg base C 3 "read_number" ["self"] (spNum C)) : FnOk P w K mg base CX0 4 f fd ["self"] (spLen C) := by
  refine F.ok scReader_read_length (fun vs H Q E h => ?_) (fun cdv A outer s H vs Q E hr h => ?_)
  · obtain ⟨x, da, ds, k, n, rest, rfl, _⟩ := h
    rfl
  · obtain ⟨x, da, ds, k, n, rest, rfl, R, hn, hd, hl, q⟩ := h
    obtain ⟨dx, ob⟩ := R.ob
    refine ⟨_, (pss_cons (ps_set (i := 1) scReader_read_length.nd rfl (.inl rfl) (pe_mt0 Rnumber hr (pv 0)))
      (pss_cons (ps_if (pt_cmpR op_gt (pv 1) (pe_mt0 Rleft hr (pv 0)) (nomark _)) (pss_one (ps_never)) pss_nil)
      (pss_one (ps_ret (pv 1))))), ?_⟩
    refine ⟨_, rfl, x, dx, _, rfl, ob, rfl, x, da, ds, k, n, rest, rfl, R, hn, hd, fun v H1 R1 g1 o1 => ?_⟩
    obtain rfl : v = .int (n : Nat) := o1
    obtain ⟨dx1, ob1⟩ := R1.ob
    refine ⟨_, rfl, _, rfl, x, dx1, _, rfl, ob1, rfl, x, da, ds, _, rfl, R1, _, _, rfl, rfl, _, rfl, ?_⟩
    have e := drop_len (drop_enc hd) R1.l
    rw [e, decide_eq_false (show ¬ ((n : Nat) : Int) > ((rest.length : Nat) : Int) by omega)]
    exact iteF ⟨_, rfl, q _ R1 g1⟩
theorem ok_rinteger {f C : Addr} {fd : FuncData} (F : Fun K "read_integer" "Reader.read_integer" sReader_read_integer f fd) (Rchoice : Kmt P w K mg base C 3 "read_choice" ["self", "many"] (spChoice C)) (Rnumber : Kmt P w K mg base C 3 "read_number" ["self"] (spNum C)) : FnOk P w K mg base CX0 4 f fd ["self"] (spInt C) := by
  refine F.ok scReader_read_integer (fun vs H Q E h => ?_) (fun cdv A outer s H vs Q E hr h => ?_)
  · obtain ⟨x, da, ds, k, n, rest, rfl, _⟩ := h
    rfl
  · obtain ⟨x, da, ds, k, i, rest, rfl, R, hn, hd, q⟩ := h
    obtain ⟨dx, ob⟩ := R.ob
    refine ⟨_, (pss_cons (ps_set (i := 1) scReader_read_integer.nd rfl (.inl rfl) (pe_mt Rchoice hr (pv 0) (pa_cons pe_int pa_nil)))
      (pss_cons (ps_set (i := 2) scReader_read_integer.nd rfl (.inl rfl) (pe_mt0 Rnumber hr (pv 0)))
      (pss_cons (ps_if (pt_cmpR op_eq (pv 1) pe_int (nomark _)) (pss_one (ps_ret (pv 2))) pss_nil)
      (pss_cons (ps_if (pt_cmpR op_eq (pv 2) pe_int (nomark _)) (pss_one (ps_never)) pss_nil)
      (pss_one (ps_ret (pe_un un_neg (pv 2)))))))), ?_⟩
    have hd' : ds.drop k = (if i < 0 then 1 else 0) :: (numB i.natAbs ++ rest) := hd
    refine ⟨_, rfl, x, dx, _, rfl, ob, rfl, x, da, ds, k, (if i < 0 then 1 else 0), 2, _, rfl, R, by split <;> decide, hd', fun H1 R1 g1 => ?_⟩
    obtain ⟨dx1, ob1⟩ := R1.ob
    refine ⟨_, rfl, x, dx1, _, rfl, ob1, rfl, x, da, ds, k + 1, i.natAbs, rest, rfl, R1, hn, (drop_head hd').2.1, fun v H2 R2 g2 o2 => ?_⟩
    obtain rfl : v = .int (i.natAbs : Nat) := o2
    have R3 : RdAt C H2 x da ds (k + (intB i).length) := by
      have : k + (intB i).length = k + 1 + (numB i.natAbs).length := by unfold intB; rw [List.length_cons]; omega
      rw [this]
      exact R2
    refine ⟨_, rfl, rfl, _, rfl, ?_⟩
    by_cases z : i < 0
    · rw [if_pos z]
      rw [decide_eq_false (show ¬ V.int 1 = V.int 0 by decide)]
      refine iteF ⟨_, rfl, rfl, _, rfl, ?_⟩
      rw [decide_eq_false (show ¬ V.int ((i.natAbs : Nat) : Int) = V.int 0 by intro h; injection h with h; omega)]
      refine iteF ⟨_, rfl, _, rfl, ?_⟩
      show Q (.int (-((i.natAbs : Nat) : Int))) H2
      rw [show -((i.natAbs : Nat) : Int) = i by omega]
      exact q _ _ R3 (g1.trans g2) rfl
    · rw [if_neg z]
      rw [decide_eq_true (show V.int 0 = V.int 0 from rfl)]
      refine iteT ⟨_, rfl, ?_⟩
      rw [show ((i.natAbs : Nat) : Int) = i by omega]
      exact q _ _ R3 (g1.trans g2) rfl
end
end K1
namespace K1
open PySem PySem.Spec PyProof.Rows L2 Ow Bd
abbrev sReader_read_string : Stmt := inClass (topS 34) 7
abbrev NReader_read_string : List Str := ["self", "_"]
theorem scReader_read_string : FnScope NReader_read_string ["self"] (defScope sReader_read_string) := ⟨rfl, rfl, rfl, by decide +kernel, rfl, by decide +kernel, by decide +kernel⟩
abbrev sReader_read_value : Stmt := inClass (topS 34) 9
abbrev NReader_read_value : List Str := ["self"]
theorem scReader_read_value : FnScope NReader_read_value ["self"] (defScope sReader_read_value) := ⟨rfl, rfl, rfl, by decide +kernel, rfl, by decide +kernel, by decide +kernel⟩
abbrev sReader_read_row : Stmt := inClass (topS 34) 10
abbrev NReader_read_row : List Str := ["self", "_"]
theorem scReader_read_row : FnScope NReader_read_row ["self"] (defScope sReader_read_row) := ⟨rfl, rfl, rfl, by decide +kernel, rfl, by decide +kernel, by decide +kernel⟩
theorem joinL_flat : ∀ ps : List (List Nat), TL.joinL [] ps = ps.flatten
  | [] => rfl
  | [p] => by simp [TL.joinL]
  | p :: q :: r => by
    have e : TL.joinL [] (p :: q :: r) = p ++ ([] ++ TL.joinL [] (q :: r)) := rfl
    rw [e, List.nil_append, joinL_flat (q :: r)]
    rfl
def sgn (c : Nat) : Str := ⟨#[c]⟩
theorem flat_sgn : ∀ l : List Nat, ((l.map sgn).map fun z => z.cps.toList).flatten = l
  | [] => rfl
  | c :: l => by
    rw [List.map_cons, List.map_cons, List.flatten_cons, flat_sgn l]
    rfl
theorem join_sgn (z : Str) : Txt.join (PySem.Str.ofString "") (z.cps.toList.map sgn) = z := by
  apply TL.ext_tl
  rw [TL.join_eq, TL.tl_join]
  show TL.joinL [] ((z.cps.toList.map sgn).map fun z => z.cps.toList) = z.cps.toList
  rw [joinL_flat, flat_sgn]
theorem sum_sgn (l : List Nat) : ((l.map sgn).map (·.length)).sum = l.length := by
  induction l with
  | nil => rfl
  | cons c l ih =>
    rw [List.map_cons, List.map_cons, List.sum_cons, ih, List.length_cons]
    show 1 + l.length = _
    omega
theorem RdUpd {C : Addr} {H : Hp} {x da D : Addr} {ds : List Int} {k : Nat} {o : HO} (h : RdAt C H x da ds k) (n1 : D ≠ x) (n2 : D ≠ da) : RdAt C (upd H D o) x da ds k := by
  obtain ⟨dx, ob⟩ := h.ob
  exact ⟨⟨dx, by rw [upd_ne n1.symm]; exact ob⟩, by rw [upd_ne n2.symm]; exact h.d, h.l⟩
theorem RdNew {C : Addr} {H : Hp} {x da D : Addr} {ds : List Int} {k : Nat} (h : RdAt C H x da ds k) (n : H D = none) : D ≠ x ∧ D ≠ da := by
  obtain ⟨dx, ob⟩ := h.ob
  exact ⟨(fun z => by rw [z, ob] at n; cases n), fun z => by have := h.d; rw [← z, n] at this; cases this⟩
theorem valB_pos {v : V} (h : Scal v) : 1 ≤ (valB v).length := by
  rcases h with ⟨i, rfl, _⟩ | ⟨z, rfl, _, _⟩
  · show 1 ≤ (_ :: _).length
    rw [List.length_cons]
    omega
  · show 1 ≤ (_ :: _).length
    rw [List.length_cons]
    omega
theorem flat_pos : ∀ {xs : List V}, (∀ x ∈ xs, Scal x) → xs.length ≤ ((xs.map valB).flatten).length
  | [], _ => Nat.zero_le _
  | x :: xs, h => by
    have h1 := valB_pos (h x List.mem_cons_self)
    have h2 := flat_pos (xs := xs) fun y m => h y (List.mem_cons_of_mem _ m)
    rw [List.map_cons, List.flatten_cons, List.length_append, List.length_cons]
    omega
section
variable {P : Program} {w : World} {K : PySem.W.Frag} {mg : Str → Option Value} {base : Heap}
theorem ok_rstring {f C : Addr} {fd : FuncData} (F : Fun K "read_string" "Reader.read_string" sReader_read_string f fd) (T0 : Bl mg) (Dcharacter : Kn P w K mg base 1 "character" ["code"] spChar) (Rbyte : Kmt P w K mg base C 2 "read_byte" ["self"] (spByte C)) (Rlength : Kmt P w K mg base C 4 "read_length" ["self"] (spLen C)) : FnOk P w K mg base CX0 5 f fd ["self"] (spStr C) := by
  refine F.ok scReader_read_string (fun vs H Q E h => ?_) (fun cdv A outer s H vs Q E hr h => ?_)
  · obtain ⟨x, da, ds, k, n, rest, rfl, _⟩ := h
    rfl
  · obtain ⟨x, da, ds, k, z, rest, rfl, R, ⟨hp, hz⟩, hd, q⟩ := h
    obtain ⟨dx, ob⟩ := R.ob
    have hd' : ds.drop k = numB z.length ++ (cpB z ++ rest) := by rw [← List.append_assoc]; exact hd
    have lz : z.cps.toList.length = z.length := by rw [Array.length_toList]; rfl
    refine ⟨_, (pss_one (ps_ret (pe_join pe_str (pe_lc (own := [("_", 1)]) (g := gName 1) (tt := tYes) rfl scReader_read_string.nd (pi_range1 (by rfl) T0.range (pa_cons (pe_mt0 Rlength hr (pv 0)) pa_nil)) (blkOk_by (own := [("_", 1)]) (N := NReader_read_string) (sc := defScope sReader_read_string) (by decide +kernel)) (fun _ _ _ _ _ => pg_name (i := 1) scReader_read_string.nd rfl (Or.inl rfl)) (fun _ _ _ _ _ => pts_nil) (fun _ _ _ _ _ => (pe_kn Dcharacter hr (pa_cons (pe_mt0 Rbyte hr (pv 0)) pa_nil))))))), ?_⟩
    refine ⟨⟨_, rfl⟩, _, rfl, x, dx, _, rfl, ob, rfl, x, da, ds, k, z.length, cpB z ++ rest, rfl, R, Nat.lt_of_le_of_lt hz (by decide), hd', by rw [List.length_append, cpB_len]; omega, fun H1 R1 g1 => ?_⟩
    have hd1 := drop_enc hd'
    refine ⟨(z.length : Nat), rfl, by omega, by omega, fun D nD => ?_⟩
    obtain ⟨n1, n2⟩ := RdNew R1 nD
    refine lc_it (walk_range (lo := 0) (n := z.length)) (fun i H' => H' D = some (.lst (((z.cps.toList.take i).map sgn).map V.str)) ∧ RdAt C H' x da ds (k + (numB z.length).length + i) ∧ Gw x H H') ⟨upd_same, RdUpd R1 n1 n2, g1.trans (Gw.new nD)⟩ (fun _ _ _ _ => trivial) (fun i v H3 H3' hi ⟨eD, R3, g3⟩ yy => ?_) fun H3 ⟨eD, R3, g3⟩ => ?_
    · obtain ⟨rfl, rfl⟩ := yy
      have hil : i < z.cps.toList.length := by rw [lz]; exact hi
      have ec : z.cps.toList[i]? = some z.cps.toList[i] := List.getElem?_eq_getElem hil
      generalize z.cps.toList[i] = c at ec
      obtain ⟨c1, c2, c3⟩ := hp c (List.mem_of_getElem? ec)
      have hdi : ds.drop (k + (numB z.length).length + i) = (c : Int) :: ((cpB z).drop (i + 1) ++ rest) := by
        rw [← List.drop_drop, hd1, List.drop_append_of_le_length (by rw [cpB_len]; omega)]
        have : (cpB z).drop i = (c : Int) :: (cpB z).drop (i + 1) := by
          have e : (cpB z)[i]? = some (c : Int) := by unfold cpB; rw [List.getElem?_map, ec]; rfl
          obtain ⟨h1, h2⟩ := List.getElem?_eq_some_iff.mp e
          rw [List.drop_eq_getElem_cons h1, h2]
        rw [this]
        rfl
      obtain ⟨dx3, ob3⟩ := R3.ob
      refine ⟨rfl, _, rfl, x, dx3, _, rfl, ob3, rfl, x, da, ds, _, (c : Int), _, rfl, R3, trivial, hdi, fun v H4 R4 g4 o4 => ?_⟩
      obtain rfl : v = .int (c : Int) := o4
      refine ⟨c, rfl, c1, c2, c3, _, g4 _ _ n1 eD, ?_, ?_, RdUpd R4 n1 n2, Gw.over (g3.trans g4) (g1.free nD n1)⟩
      · rw [List.length_map, List.length_map, List.length_take]
        exact small (m := 1000) (by omega) (by decide)
      · rw [upd_same, List.take_succ, ec, List.map_append, List.map_append]
        rfl
    · rw [← lz, List.take_length] at eD
      refine ⟨_, D, z.cps.toList.map sgn, rfl, rfl, .inl (SqL.of eD), ?_, ?_⟩
      · rw [sum_sgn, lz]
        show z.length + _ * 0 ≤ _
        omega
      · have e2 : k + (strB z).length = k + (numB z.length).length + z.length := by unfold strB; rw [List.length_append, cpB_len]; omega
        rw [join_sgn z]
        exact q _ _ (by rw [e2]; exact R3) g3 rfl
theorem ok_rvalue {f C : Addr} {fd : FuncData} (F : Fun K "read_value" "Reader.read_value" sReader_read_value f fd) (Rchoice : Kmt P w K mg base C 3 "read_choice" ["self", "many"] (spChoice C)) (Rstring : Kmt P w K mg base C 5 "read_string" ["self"] (spStr C)) (Rinteger : Kmt P w K mg base C 4 "read_integer" ["self"] (spInt C)) : FnOk P w K mg base CX0 6 f fd ["self"] (spVal C) := by
  refine F.ok scReader_read_value (fun vs H Q E h => ?_) (fun cdv A outer s H vs Q E hr h => ?_)
  · obtain ⟨x, da, ds, k, n, rest, rfl, _⟩ := h
    rfl
  · obtain ⟨x, da, ds, k, v, rest, rfl, R, hs, hd, q⟩ := h
    obtain ⟨dx, ob⟩ := R.ob
    refine ⟨_, (pss_cons (ps_if (pt_cmpR op_eq (pe_mt Rchoice hr (pv 0) (pa_cons pe_int pa_nil)) pe_int (nomark _)) (pss_one (ps_ret (pe_mt0 Rstring hr (pv 0)))) pss_nil)
      (pss_one (ps_ret (pe_mt0 Rinteger hr (pv 0))))), ?_⟩
    rcases hs with ⟨i, rfl, hi⟩ | ⟨z, rfl, hp, hz⟩
    · have hd' : ds.drop k = 0 :: (intB i ++ rest) := hd
      refine ⟨_, rfl, x, dx, _, rfl, ob, rfl, x, da, ds, k, 0, 2, _, rfl, R, by decide, hd', fun H1 R1 g1 => ?_⟩
      obtain ⟨dx1, ob1⟩ := R1.ob
      refine ⟨rfl, _, rfl, ?_⟩
      rw [decide_eq_false (show ¬ V.int 0 = V.int 1 by decide)]
      refine iteF ⟨_, rfl, x, dx1, _, rfl, ob1, rfl, x, da, ds, k + 1, i, rest, rfl, R1, hi, (drop_head hd').2.1, fun v H2 R2 g2 o2 => ?_⟩
      have e : k + (valB (.int i)).length = k + 1 + (intB i).length := by show k + (_ + 1) = _; omega
      exact q _ _ (by rw [e]; exact R2) (g1.trans g2) o2
    · have hd' : ds.drop k = 1 :: (strB z ++ rest) := hd
      refine ⟨_, rfl, x, dx, _, rfl, ob, rfl, x, da, ds, k, 1, 2, _, rfl, R, by decide, hd', fun H1 R1 g1 => ?_⟩
      obtain ⟨dx1, ob1⟩ := R1.ob
      refine ⟨rfl, _, rfl, ?_⟩
      rw [decide_eq_true (show V.int 1 = V.int 1 from rfl)]
      refine iteT ⟨_, rfl, x, dx1, _, rfl, ob1, rfl, x, da, ds, k + 1, z, rest, rfl, R1, ⟨hp, hz⟩, (drop_head hd').2.1, fun v H2 R2 g2 o2 => ?_⟩
      have e : k + (valB (.str z)).length = k + 1 + (strB z).length := by show k + (_ + 1) = _; omega
      exact q _ _ (by rw [e]; exact R2) (g1.trans g2) o2
theorem ok_rrow {f C : Addr} {fd : FuncData} (F : Fun K "read_row" "Reader.read_row" sReader_read_row f fd) (T0 : Bl mg) (Rvalue : Kmt P w K mg base C 6 "read_value" ["self"] (spVal C)) (Rlength : Kmt P w K mg base C 4 "read_length" ["self"] (spLen C)) : FnOk P w K mg base CX0 7 f fd ["self"] (spRdRow C) := by
  refine F.ok scReader_read_row (fun vs H Q E h => ?_) (fun cdv A outer s H vs Q E hr h => ?_)
  · obtain ⟨x, da, ds, k, n, rest, rfl, _⟩ := h
    rfl
  · obtain ⟨x, da, ds, k, xs, rest, rfl, R, ⟨hs, hx⟩, hd, q⟩ := h
    obtain ⟨dx, ob⟩ := R.ob
    have hd' : ds.drop k = numB xs.length ++ ((xs.map valB).flatten ++ rest) := by
      rw [hd]
      unfold rowB listB
      rw [List.length_map, List.append_assoc]
    have fp := flat_pos hs
    refine ⟨_, (pss_one (ps_ret (pe_callTy call_tuple_of (by rfl) T0.tuple (by decide +kernel) (pa_cons (pe_lc (own := [("_", 1)]) (g := gName 1) (tt := tYes) rfl scReader_read_row.nd (pi_range1 (by rfl) T0.range (pa_cons (pe_mt0 Rlength hr (pv 0)) pa_nil)) (blkOk_by (own := [("_", 1)]) (N := NReader_read_row) (sc := defScope sReader_read_row) (by decide +kernel)) (fun _ _ _ _ _ => pg_name (i := 1) scReader_read_row.nd rfl (Or.inl rfl)) (fun _ _ _ _ _ => pts_nil) (fun _ _ _ _ _ => (pe_mt0 Rvalue hr (pv 0)))) pa_nil)))), ?_⟩
    refine ⟨_, rfl, x, dx, _, rfl, ob, rfl, x, da, ds, k, xs.length, _, rfl, R, Nat.lt_of_le_of_lt hx (by decide), hd', by rw [List.length_append]; omega, fun H1 R1 g1 => ?_⟩
    have hd1 := drop_enc hd'
    refine ⟨(xs.length : Nat), rfl, by omega, by omega, fun D nD => ?_⟩
    obtain ⟨n1, n2⟩ := RdNew R1 nD
    have oD := g1.free nD n1
    refine lc_it (walk_range (lo := 0) (n := xs.length)) (fun i H' => H' D = some (.lst (xs.take i)) ∧ Gw x H H' ∧ ∃ j, RdAt C H' x da ds j ∧ ds.drop j = ((xs.drop i).map valB).flatten ++ rest ∧ j + (((xs.drop i).map valB).flatten).length = k + (rowB xs).length) ⟨upd_same, g1.trans (Gw.new nD), _, RdUpd R1 n1 n2, hd1, ?_⟩ (fun _ _ _ _ => trivial) (fun i v H3 H3' hi ⟨eD, g3, j, R3, hd3, hl3⟩ yy => ?_) fun H3 ⟨eD, g3, j, R3, hd3, hl3⟩ => ?_
    · unfold rowB listB
      rw [List.length_append, List.length_map, List.drop_zero]
      omega
    · obtain ⟨rfl, rfl⟩ := yy
      obtain ⟨dx3, ob3⟩ := R3.ob
      have ei : xs[i]? = some xs[i] := List.getElem?_eq_getElem hi
      have hdi : ds.drop j = valB xs[i] ++ (((xs.drop (i + 1)).map valB).flatten ++ rest) := by
        rw [hd3, List.drop_eq_getElem_cons hi, List.map_cons, List.flatten_cons, List.append_assoc]
      refine ⟨rfl, _, rfl, x, dx3, _, rfl, ob3, rfl, x, da, ds, j, xs[i], _, rfl, R3, hs _ (List.getElem_mem hi), hdi, fun v H4 R4 g4 o4 => ?_⟩
      obtain rfl : v = xs[i] := o4
      refine ⟨_, g4 _ _ n1 eD, ?_, ?_, Gw.over (g3.trans g4) oD, _, RdUpd R4 n1 n2, drop_enc hdi, ?_⟩
      · rw [List.length_take]
        exact small (m := 1000) (by omega) (by decide)
      · rw [upd_same, List.take_succ, ei]
        rfl
      · rw [← hl3, List.drop_eq_getElem_cons hi, List.map_cons, List.flatten_cons, List.length_append]
        omega
    · rw [List.take_length] at eD
      rw [List.drop_length] at hl3
      refine ⟨D, _, rfl, .inl ⟨SqL.of eD, fun t nt => ?_⟩⟩
      have R4 := R3.same (Same.new (o := .tup xs) nt)
      have ej : j = k + (rowB xs).length := by simpa using hl3
      rw [ej] at R4
      exact q _ _ R4 (g3.trans (Gw.new nt)) ⟨t, rfl, upd_same⟩
end
end K1
namespace K1
open PySem PySem.Spec PyProof.Rows L2 Ow Tlz Bd
/-! items and changes by their values -/
inductive Fv where
  | rel (n : Str) (cs : List Str) (r : Nat)
  | fact (n : Str) (row : List V)
  | str (n rn : Str) (cs : List Str) (b s : Nat)
  | lay (n : Str) (cs : List Str)
def StrOk (z : Str) : Prop := Pr z ∧ z.length ≤ 200
def StrsOk (cs : List Str) : Prop := cs.length ≤ 10 ∧ ∀ z ∈ cs, StrOk z
def FvOk : Fv → Prop
  | .rel n cs r => StrOk n ∧ StrsOk cs ∧ r ≤ 10000
  | .fact n row => StrOk n ∧ (∀ x ∈ row, Scal x) ∧ row.length ≤ 10
  | .str n rn cs b s => StrOk n ∧ StrOk rn ∧ StrsOk cs ∧ b ≤ 10000 ∧ s ≤ 10000
  | .lay n cs => StrOk n ∧ StrsOk cs
def namesB (cs : List Str) : List Int := listB (cs.map strB)
def fvB : Fv → List Int
  | .rel n cs r => 0 :: strB n ++ namesB cs ++ numB r
  | .fact n row => 1 :: strB n ++ rowB row
  | .str n rn cs b s => 2 :: strB n ++ strB rn ++ namesB cs ++ (numB b ++ numB s)
  | .lay n cs => 3 :: strB n ++ namesB cs
def FvAt (K : PySem.W.Frag) (H : Hp) (x : V) : Fv → Prop
  | .rel n cs r => ∃ a ct, x = .ref a ∧ SqT K H a [.str "relation", .str n, .ref ct, .int (r : Nat)] ∧ SqT K H ct (cs.map V.str)
  | .fact n row => ∃ a r, x = .ref a ∧ SqT K H a [.str "fact", .str n, .ref r] ∧ SqT K H r row
  | .str n rn cs b s => ∃ a ct, x = .ref a ∧ SqT K H a [.str "structure", .str n, .str rn, .ref ct, .int (b : Nat), .int (s : Nat)] ∧ SqT K H ct (cs.map V.str)
  | .lay n cs => ∃ a ct, x = .ref a ∧ SqT K H a [.str "layout", .str n, .ref ct] ∧ SqT K H ct (cs.map V.str)
theorem FvAt.tk {K : PySem.W.Frag} {H H' : Hp} {x : V} {v : Fv} (t : Tk K H H') (h : FvAt K H x v) : FvAt K H' x v := by
  cases v with
  | rel n cs r => obtain ⟨a, ct, e, h1, h2⟩ := h; exact ⟨a, ct, e, t _ _ h1, t _ _ h2⟩
  | fact n row => obtain ⟨a, ct, e, h1, h2⟩ := h; exact ⟨a, ct, e, t _ _ h1, t _ _ h2⟩
  | str n rn cs b s => obtain ⟨a, ct, e, h1, h2⟩ := h; exact ⟨a, ct, e, t _ _ h1, t _ _ h2⟩
  | lay n cs => obtain ⟨a, ct, e, h1, h2⟩ := h; exact ⟨a, ct, e, t _ _ h1, t _ _ h2⟩
/-- an item's parts by its value -/
def FvIt (K : PySem.W.Frag) (H : Hp) : It → Fv → Prop
  | .rel n c, .rel m cs r => n = m ∧ ∃ ct, c = [.ref ct, .int (r : Nat)] ∧ SqT K H ct (cs.map V.str)
  | .fact n _ row, .fact m row' => n = m ∧ row = row'
  | .str n c, .str m rn cs b s => n = m ∧ ∃ ct, c = [.str rn, .ref ct, .int (b : Nat), .int (s : Nat)] ∧ SqT K H ct (cs.map V.str)
  | .lay n v, .lay m cs => n = m ∧ ∃ ct, v = .ref ct ∧ SqT K H ct (cs.map V.str)
  | _, _ => False
theorem FvIt.tk {K : PySem.W.Frag} {H H' : Hp} {i : It} {v : Fv} (t : Tk K H H') (h : FvIt K H i v) : FvIt K H' i v := by
  cases i <;> cases v <;> try exact h
  · obtain ⟨e, ct, e2, h2⟩ := h; exact ⟨e, ct, e2, t _ _ h2⟩
  · obtain ⟨e, ct, e2, h2⟩ := h; exact ⟨e, ct, e2, t _ _ h2⟩
  · obtain ⟨e, ct, e2, h2⟩ := h; exact ⟨e, ct, e2, t _ _ h2⟩
theorem FvIt.at_ {K : PySem.W.Frag} {H : Hp} {a : Addr} {i : It} {v : Fv} (h : FvIt K H i v) (g : ItAt K H a i) : FvAt K H (.ref a) v := by
  cases i <;> cases v <;> try exact h.elim
  · obtain ⟨rfl, ct, rfl, h2⟩ := h; exact ⟨a, ct, rfl, g, h2⟩
  · obtain ⟨rfl, rfl⟩ := h; exact ⟨a, _, rfl, g.1, g.2.1⟩
  · obtain ⟨rfl, ct, rfl, h2⟩ := h; exact ⟨a, ct, rfl, g, h2⟩
  · obtain ⟨rfl, ct, rfl, h2⟩ := h; exact ⟨a, ct, rfl, g, h2⟩
theorem FvIt.ier {K : PySem.W.Frag} {H : Hp} {i j : It} {v : Fv} (e : ier i = ier j) (h : FvIt K H i v) : FvIt K H j v := by
  cases i <;> cases j <;> (try (exfalso; have h0 := congrArg (fun x => x.1) e; simp [K1.ier] at h0; done)) <;> cases v <;> try exact h.elim
  · have e1 := congrArg (fun x => x.2.1) e
    have e2 := congrArg (fun x => x.2.2.2) e
    simp only [K1.ier] at e1 e2
    subst e1 e2
    exact h
  · have e1 := congrArg (fun x => x.2.1) e
    have e2 := congrArg (fun x => x.2.2.1) e
    simp only [K1.ier] at e1 e2
    subst e1 e2
    exact h
  · have e1 := congrArg (fun x => x.2.1) e
    have e2 := congrArg (fun x => x.2.2.2) e
    simp only [K1.ier] at e1 e2
    subst e1 e2
    exact h
  · have e1 := congrArg (fun x => x.2.1) e
    have e2 := congrArg (fun x => x.2.2.2) e
    simp only [K1.ier] at e1 e2
    cases e2
    subst e1
    exact h
/-- items with values -/
def ItsV (K : PySem.W.Frag) (H : Hp) (its : Its) (vs : List Fv) : Prop := its.length = vs.length ∧ ∀ (i : Nat) (t : Addr × It) (v : Fv), its[i]? = some t → vs[i]? = some v → FvIt K H t.2 v ∧ FvOk v
def ItV (K : PySem.W.Frag) (H : Hp) (t : Addr × It) : Prop := ∃ v, FvIt K H t.2 v ∧ FvOk v
theorem ItV.tk {K : PySem.W.Frag} {H H' : Hp} {t : Addr × It} (k : Tk K H H') (h : ItV K H t) : ItV K H' t := by
  obtain ⟨v, h1, h2⟩ := h
  exact ⟨v, h1.tk k, h2⟩
theorem itsV_of {K : PySem.W.Frag} {H : Hp} : ∀ {its : Its}, (∀ t ∈ its, ItV K H t) → ∃ vs, ItsV K H its vs
  | [], _ => ⟨[], rfl, fun i t v e => by simp at e⟩
  | t :: its, h => by
    obtain ⟨v, h1, h2⟩ := h t List.mem_cons_self
    obtain ⟨vs, l, g⟩ := itsV_of (its := its) fun u m => h u (List.mem_cons_of_mem _ m)
    refine ⟨v :: vs, by rw [List.length_cons, List.length_cons, l], fun i u w e f => ?_⟩
    cases i with
    | zero =>
      cases e
      cases f
      exact ⟨h1, h2⟩
    | succ i => exact g i u w e f
/-! lengths -/
theorem strB_len4 {z : Str} (h : StrOk z) : (strB z).length ≤ 221 := strB_len h.2
theorem namesB_len {cs : List Str} (h : StrsOk cs) : (namesB cs).length ≤ 2231 := by
  have := listB_len (xs := cs.map strB) (b := 221) (fun x m => by
    obtain ⟨z, mz, e⟩ := List.mem_map.mp m
    rw [← e]
    exact strB_len4 (h.2 z mz)) (by rw [List.length_map]; have := h.1; omega)
  rw [List.length_map] at this
  have h1 := h.1
  unfold namesB
  have : cs.length * 221 ≤ 10 * 221 := Nat.mul_le_mul_right _ h1
  omega
theorem numB_len4 {n : Nat} (h : n ≤ 10000) : (numB n).length ≤ 21 := numB_20 (Nat.lt_of_le_of_lt h (by decide))
theorem fvB_len {v : Fv} (h : FvOk v) : (fvB v).length ≤ 4900 := by
  cases v with
  | rel n cs r =>
    obtain ⟨h1, h2, h3⟩ := h
    have a1 := strB_len4 h1
    have a2 := namesB_len h2
    have a3 := numB_len4 h3
    show (0 :: strB n ++ namesB cs ++ numB r).length ≤ _
    simp only [List.length_append, List.length_cons]
    omega
  | fact n row =>
    obtain ⟨h1, h2, h3⟩ := h
    have a1 := strB_len4 h1
    have a2 := rowB_len h2 h3
    show (1 :: strB n ++ rowB row).length ≤ _
    simp only [List.length_append, List.length_cons]
    omega
  | str n rn cs b s =>
    obtain ⟨h1, h2, h3, h4, h5⟩ := h
    have a1 := strB_len4 h1
    have a2 := strB_len4 h2
    have a3 := namesB_len h3
    have a4 := numB_len4 h4
    have a5 := numB_len4 h5
    show (2 :: strB n ++ strB rn ++ namesB cs ++ (numB b ++ numB s)).length ≤ _
    simp only [List.length_append, List.length_cons]
    omega
  | lay n cs =>
    obtain ⟨h1, h2⟩ := h
    have a1 := strB_len4 h1
    have a2 := namesB_len h2
    show (3 :: strB n ++ namesB cs).length ≤ _
    simp only [List.length_append, List.length_cons]
    omega
/-! changes -/
inductive Cv where
  | comes (v : Fv)
  | goes (s : Nat) (n : Str) (row : List V)
def CvOk : Cv → Prop
  | .comes v => FvOk v
  | .goes s n row => s < 4 ∧ StrOk n ∧ (∀ x ∈ row, Scal x) ∧ row.length ≤ 10
def cvB : Cv → List Int
  | .comes v => 0 :: fvB v
  | .goes s n row => 1 :: (s : Int) :: strB n ++ rowB row
def CvAt (K : PySem.W.Frag) (H : Hp) (x : V) : Cv → Prop
  | .comes v => ∃ a y, x = .ref a ∧ SqT K H a [.str "comes", y] ∧ FvAt K H y v
  | .goes s n row => ∃ a k r, x = .ref a ∧ SqT K H a [.str "goes", .ref k] ∧ SqT K H k [.int (s : Nat), .str n, .ref r] ∧ SqT K H r row
theorem CvAt.tk {K : PySem.W.Frag} {H H' : Hp} {x : V} {v : Cv} (t : Tk K H H') (h : CvAt K H x v) : CvAt K H' x v := by
  cases v with
  | comes v => obtain ⟨a, y, e, h1, h2⟩ := h; exact ⟨a, y, e, t _ _ h1, h2.tk t⟩
  | goes s n row => obtain ⟨a, k, r, e, h1, h2, h3⟩ := h; exact ⟨a, k, r, e, t _ _ h1, t _ _ h2, t _ _ h3⟩
theorem cvB_len {v : Cv} (h : CvOk v) : (cvB v).length ≤ 4950 := by
  cases v with
  | comes v =>
    have := fvB_len h
    show (0 :: fvB v).length ≤ _
    simp only [List.length_cons]
    omega
  | goes s n row =>
    obtain ⟨_, h1, h2, h3⟩ := h
    have a1 := strB_len4 h1
    have a2 := rowB_len h2 h3
    show (1 :: (s : Int) :: strB n ++ rowB row).length ≤ _
    simp only [List.length_append, List.length_cons]
    omega
end K1
namespace K1
open PySem PySem.Spec PyProof.Rows L2 Ow Tlz Bd
def spName4 : Sp := fun vs H Q _ => ∃ p d : Addr, vs = [.ref p] ∧ Rng d H p ∧ Drw p d H Q fun x _ => ∃ z, x = .str z ∧ StrOk z
def spItem4 (K : PySem.W.Frag) : Sp := fun vs H Q _ => ∃ p d : Addr, vs = [.ref p] ∧ Rng d H p ∧
  Drw p d H Q fun x H' => ∃ (a : Addr) (i : It), x = .ref a ∧ ItG K H' a i ∧ ItV K H' (a, i)
def spSome4 (K : PySem.W.Frag) : Sp := fun vs H Q _ => ∃ (p d : Addr) (m : Nat), vs = [.ref p, .int (m : Int)] ∧ m ≤ 30 ∧ Rng d H p ∧
  Drw p d H Q fun x H' => ∃ (q l o : Addr) (its : Its), x = .ref q ∧ H' q = some (.lst [.ref l, .ref o]) ∧ H' l = some (.lst (irf its)) ∧ H' o = some (.lst (irf (plcAll its))) ∧ ItsG K H' its ∧ (∀ t ∈ its, ItV K H' t) ∧ its.length ≤ 40 ∧ l ≠ o ∧ l ≠ p ∧ o ≠ p ∧ l ≠ d ∧ o ≠ d
theorem take_names {ws : List Str} (h : StrsOk ws) (z : Int) (z0 : 0 ≤ z) : ∃ cs : List Str, cutV (ws.map V.str) none (some z) = cs.map V.str ∧ StrsOk cs := by
  refine ⟨ws.take z.toNat, ?_, ?_, fun w m => h.2 w (List.mem_of_mem_take m)⟩
  · rw [cut_take _ z0, List.map_take]
  · rw [List.length_take]
    have := h.1
    omega
instance (z : Str) : Decidable (StrOk z) := inferInstanceAs (Decidable (Pr z ∧ z.length ≤ 200))
instance (zs : List Str) : Decidable (StrsOk zs) := inferInstanceAs (Decidable (zs.length ≤ 10 ∧ ∀ z ∈ zs, StrOk z))
section
variable {P : Program} {w : World} {K : PySem.W.Frag} {mg : Str → Option Value} {base : Heap}
theorem ok_name4 {f : Addr} {fd : FuncData} (F : Fun K "_law_name" "_law_name" s_law_name f fd)
    (D_law_next : Kn P w K mg base 3 "_law_next" ["state", "limit"] spNext) :
    FnOk P w K mg base CX0 4 f fd ["state"] spName4 := by
  refine F.ok sc_law_name (fun vs H Q E h => ?_) (fun cdv A outer s H vs Q E hr h => ?_)
  · obtain ⟨p, d, rfl, _⟩ := h
    rfl
  · obtain ⟨p, d, rfl, rg, q⟩ := h
    refine ⟨_, (pss_one (ps_ret (pe_ix ix_list (pe_lst (pa_cons pe_str (pa_cons pe_str (pa_cons pe_str (pa_cons pe_str (pa_cons pe_str (pa_cons pe_str pa_nil))))))) (pe_kn D_law_next hr (pa_cons (pv 0) (pa_cons pe_int pa_nil))) (fun _ _ => rfl)))), ?_⟩
    refine ⟨by decide, fun o no => ⟨_, rfl, p, d, 6, rfl, by decide, rg.same (Same.new no), ?_⟩⟩
    rintro x H' ⟨v, rfl, v0, v1⟩ gw rg'
    obtain ⟨y, hy, my⟩ := at_in (xs := [V.str "a", .str "b", .str "a2", .str "long_name_12", .str "s_", .str "r"]) v0 v1
    refine ⟨o, _, v, y, rfl, rfl, SqL.of (gw.keep upd_same (rg.free no).1), hy, q _ _ ?_ (fun b u nb e => gw b u nb (Gw.new no b u nb e)) rg'⟩
    simp only [List.mem_cons, List.not_mem_nil, or_false] at my
    rcases my with rfl | rfl | rfl | rfl | rfl | rfl <;> exact ⟨_, rfl, by decide +kernel⟩
theorem ok_item4 {f : Addr} {fd : FuncData} (F : Fun K "_law_item" "_law_item" s_law_item f fd) (T : Bl mg)
    (D_law_next : Kn P w K mg base 3 "_law_next" ["state", "limit"] spNext)
    (D_law_name : Kn P w K mg base 4 "_law_name" ["state"] spName4)
    (D_law_row : Kn P w K mg base 6 "_law_row" ["state", "width"] spRow) :
    FnOk P w K mg base CX0 7 f fd ["state"] (spItem4 K) := by
  refine F.ok sc_law_item (fun vs H Q E h => ?_) (fun cdv A outer s0 H vs Q E hr h => ?_)
  · obtain ⟨p, d, rfl, _⟩ := h
    rfl
  · obtain ⟨p, d, rfl, rg, q⟩ := h
    refine ⟨_, (pss_cons (ps_set (i := 1) sc_law_item.nd rfl (.inl rfl) (pe_kn D_law_next hr (pa_cons (pv 0) (pa_cons pe_int pa_nil))))
      (pss_cons (ps_set (i := 2) sc_law_item.nd rfl (.inl rfl) (pe_kn D_law_name hr (pa_cons (pv 0) pa_nil)))
      (pss_cons (ps_set (i := 3) sc_law_item.nd rfl (.inl rfl) (pe_callTy call_tuple_of (by rfl) T.tuple (by decide +kernel) (pa_cons (pe_slice sl_list (pe_lst (pa_cons pe_str (pa_cons pe_str (pa_cons pe_str (pa_cons pe_str pa_nil))))) po_none (po_some (pe_op op_add pe_int (pe_kn D_law_next hr (pa_cons (pv 0) (pa_cons pe_int pa_nil)))))) pa_nil)))
      (pss_cons (ps_if (pt_cmpR op_lt (pv 1) pe_int (nomark _)) (pss_one (ps_ret (pe_tup (pa_cons pe_str (pa_cons (pv 2) (pa_cons (pv 3) (pa_cons (pe_op op_add pe_int (pe_kn D_law_next hr (pa_cons (pv 0) (pa_cons pe_int pa_nil)))) pa_nil))))))) pss_nil)
      (pss_cons (ps_if (pt_cmpR op_lt (pv 1) pe_int (nomark _)) (pss_one (ps_ret (pe_tup (pa_cons pe_str (pa_cons (pv 2) (pa_cons (pe_kn D_law_row hr (pa_cons (pv 0) (pa_cons (pe_op op_add pe_int (pe_kn D_law_next hr (pa_cons (pv 0) (pa_cons pe_int pa_nil)))) pa_nil))) pa_nil)))))) pss_nil)
      (pss_cons (ps_if (pt_cmpR op_lt (pv 1) pe_int (nomark _)) (pss_one (ps_ret (pe_tup (pa_cons pe_str (pa_cons (pv 2) (pa_cons (pe_kn D_law_name hr (pa_cons (pv 0) pa_nil)) (pa_cons (pv 3) (pa_cons (pe_op op_add pe_int (pe_kn D_law_next hr (pa_cons (pv 0) (pa_cons pe_int pa_nil)))) (pa_cons (pe_op op_add pe_int (pe_kn D_law_next hr (pa_cons (pv 0) (pa_cons pe_int pa_nil)))) pa_nil))))))))) pss_nil)
      (pss_one (ps_ret (pe_tup (pa_cons pe_str (pa_cons (pv 2) (pa_cons (pe_callTy call_tuple_of (by rfl) T.tuple (by decide +kernel) (pa_cons (pe_slice sl_list (pe_lst (pa_cons pe_str (pa_cons pe_str (pa_cons pe_str (pa_cons pe_str pa_nil))))) po_none (po_some (pe_kn D_law_next hr (pa_cons (pv 0) (pa_cons pe_int pa_nil))))) pa_nil)) pa_nil)))))))))))), ?_⟩
    -- pick, name
    refine ⟨_, rfl, p, d, 9, rfl, by decide, rg, ?_⟩
    rintro x1 H1 ⟨b, rfl, b0, b1⟩ gw1 rg1
    refine ⟨_, rfl, p, d, rfl, rg1, ?_⟩
    rintro x2 H2 ⟨n, rfl, on⟩ gw2 rg2
    have pn := on.1
    have gw12 : Gw p H H2 := gw1.trans gw2
    -- columns
    refine ⟨sz 4, fun o no => ?_⟩
    refine ⟨_, rfl, p, d, 4, rfl, by decide, rg2.same (Same.new no), ?_⟩
    rintro x3 H3 ⟨c, rfl, c0, c1⟩ gw3 rg3
    have eo := gw3.keep upd_same (rg2.free no).1
    refine ⟨1, c, rfl, rfl, _, rfl, o, _, rfl, SqL.of eo, fun o2 no2 => ?_⟩
    refine ⟨o2, _, rfl, .inl ⟨SqL.of upd_same, fun t nt => ?_⟩⟩
    have gw3' : Gw p H H3 := (gw12.trans (Gw.new no)).trans gw3
    have gw4 : ∀ u, Gw p H (upd _ t u) := fun u => (gw3'.trans (Gw.new no2)).trans (Gw.new nt)
    have rg4 : ∀ u, Rng d (upd _ t u) p := fun u => (rg3.same (Same.new no2)).same (Same.new nt)
    have hcs := take_strs (ws := ["x", "y", "column_of_12", "z1"]) (by decide +kernel) (1 + c) (by omega)
    obtain ⟨cs, ecs, ocs⟩ := take_names (ws := ["x", "y", "column_of_12", "z1"]) (by decide +kernel) (1 + c) (by omega)
    have hcl := take_len (xs := (["x", "y", "column_of_12", "z1"] : List Str).map V.str) (1 + c) (by omega) (by decide)
    have ht : ∀ {H9 : Hp}, Gw p (upd _ t (.tup (cutV ((["x", "y", "column_of_12", "z1"] : List Str).map V.str) none (some (1 + c))))) H9 → SqT K H9 t (cutV ((["x", "y", "column_of_12", "z1"] : List Str).map V.str) none (some (1 + c))) := fun {H9} g => Rng.tk (rg4 _) g _ _ (SqT.of upd_same)
    -- relation
    refine ⟨_, rfl, _, _, rfl, rfl, _, rfl, ite2 (fun e => ?_) (fun e => ?_)⟩
    · refine ⟨_, rfl, _, rfl, _, rfl, p, d, 40, rfl, by decide, rg4 _, ?_⟩
      rintro x5 H5 ⟨z, rfl, z0, z1⟩ gw5 rg5
      refine ⟨1, z, rfl, rfl, sz 4, fun u nu => q _ _ ⟨u, .rel n _, rfl, ⟨SqT.of upd_same, pn, (CD.strs (Tk.same (Same.new nu) _ _ (ht gw5)) hcs hcl (CD.int CD.nil)), rfl⟩, .rel n cs (1 + z).toNat, ⟨rfl, t, by rw [Int.toNat_of_nonneg (by omega)], by rw [← ecs]; exact Tk.same (Same.new nu) _ _ (ht gw5)⟩, on, ocs, by omega⟩ (((gw4 _).trans gw5).trans (Gw.new nu)) (rg5.same (Same.new nu))⟩
    -- fact
    refine ⟨_, rfl, _, _, rfl, rfl, _, rfl, ite2 (fun e => ?_) (fun e => ?_)⟩
    · refine ⟨_, rfl, _, rfl, _, rfl, p, d, 3, rfl, by decide, rg4 _, ?_⟩
      rintro x5 H5 ⟨z, rfl, z0, z1⟩ gw5 rg5
      have ez : (1 + z : Int) = (((1 + z).toNat : Nat) : Int) := by omega
      refine ⟨1, z, rfl, rfl, p, d, (1 + z).toNat, congrArg (fun t => [V.ref p, V.int t]) ez, by omega, rg5, ?_⟩
      rintro x6 H6 ⟨r, xs, rfl, er, lx, sx⟩ gw6 rg6
      refine ⟨sz 3, fun u nu => q _ _ ⟨u, .fact n r xs, rfl, ⟨⟨SqT.of upd_same, Tk.same (Same.new nu) _ _ (SqT.of er), sx, by omega⟩, pn, CD.nil, rfl⟩, .fact n xs, ⟨rfl, rfl⟩, on, sx, by omega⟩ ((((gw4 _).trans gw5).trans gw6).trans (Gw.new nu)) (rg6.same (Same.new nu))⟩
    -- structure
    refine ⟨_, rfl, _, _, rfl, rfl, _, rfl, ite2 (fun e => ?_) (fun e => ?_)⟩
    · refine ⟨_, rfl, _, rfl, p, d, rfl, rg4 _, ?_⟩
      rintro x5 H5 ⟨m, rfl, om⟩ gw5 rg5
      have pm := om.1
      refine ⟨_, rfl, _, rfl, p, d, 16, rfl, by decide, rg5, ?_⟩
      rintro x6 H6 ⟨z, rfl, z0, z1⟩ gw6 rg6
      refine ⟨1, z, rfl, rfl, _, rfl, p, d, 8, rfl, by decide, rg6, ?_⟩
      rintro x7 H7 ⟨y, rfl, y0, y1⟩ gw7 rg7
      refine ⟨1, y, rfl, rfl, sz 6, fun u nu => q _ _ ⟨u, .str n _, rfl, ⟨SqT.of upd_same, pn, (CD.str pm (CD.strs (Tk.same (Same.new nu) _ _ (ht ((gw5.trans gw6).trans gw7))) hcs hcl (CD.int (CD.int CD.nil)))), rfl⟩, .str n m cs (1 + z).toNat (1 + y).toNat, ⟨rfl, t, by rw [Int.toNat_of_nonneg (show 0 ≤ 1 + z by omega), Int.toNat_of_nonneg (show 0 ≤ 1 + y by omega)], by rw [← ecs]; exact Tk.same (Same.new nu) _ _ (ht ((gw5.trans gw6).trans gw7))⟩, on, om, ocs, by omega, by omega⟩ (((((gw4 _).trans gw5).trans gw6).trans gw7).trans (Gw.new nu)) (rg7.same (Same.new nu))⟩
    -- layout
    · refine ⟨_, rfl, sz 4, fun o5 no5 => ?_⟩
      refine ⟨_, rfl, p, d, 5, rfl, by decide, (rg4 _).same (Same.new no5), ?_⟩
      rintro x6 H6 ⟨z, rfl, z0, z1⟩ gw6 rg6
      refine ⟨_, rfl, o5, _, rfl, SqL.of (gw6.keep upd_same ((rg4 _).free no5).1), fun o7 no7 => ?_⟩
      refine ⟨o7, _, rfl, .inl ⟨SqL.of upd_same, fun t8 nt8 => ?_⟩⟩
      obtain ⟨ds, eds, ods⟩ := take_names (ws := ["s1", "s2", "a", "b"]) (by decide +kernel) z z0
      refine ⟨sz 3, fun u nu => q _ _ ⟨u, .lay n _, rfl, ⟨SqT.of upd_same, pn, (CD.strs (Tk.same (Same.new nu) _ _ (SqT.of upd_same)) (take_strs (ws := ["s1", "s2", "a", "b"]) (by decide +kernel) z z0) (take_len z z0 (by decide)) CD.nil), rfl⟩, .lay n ds, ⟨rfl, t8, rfl, by rw [← eds]; exact Tk.same (Same.new nu) _ _ (SqT.of upd_same)⟩, on, ods⟩
        ((((((gw4 _).trans (Gw.new no5)).trans gw6).trans (Gw.new no7)).trans (Gw.new nt8)).trans (Gw.new nu)) (((rg6.same (Same.new no7)).same (Same.new nt8)).same (Same.new nu))⟩
theorem ok_some4 {f : Addr} {fd : FuncData} (F : Fun K "_law_some_items" "_law_some_items" s_law_some_items f fd) (T : Bl mg)
    (D_law_next : Kn P w K mg base 3 "_law_next" ["state", "limit"] spNext)
    (D_law_item : Kn P w K mg base 7 "_law_item" ["state"] (spItem4 K))
    (D_law_placed : Kn P w K mg base 4 "_law_placed" ["items", "item"] (spPlaced K)) :
    FnOk P w K mg base CX0 8 f fd ["state", "most"] (spSome4 K) := by
  refine F.ok sc_law_some_items (fun vs H Q E h => ?_) (fun cdv A outer s0 H vs Q E hr h => ?_)
  · obtain ⟨p, d, m, rfl, _⟩ := h
    rfl
  · obtain ⟨p, d, m, rfl, lm, rg, q⟩ := h
    refine ⟨_, (pss_cons (ps_setLc (i := 2) (own := [("k", 5)]) (g := gName 5) rfl sc_law_some_items.nd rfl rfl (sw_true rfl rfl rfl (by decide +kernel)) (pi_range1 (by rfl) T.range (pa_cons (pe_kn D_law_next hr (pa_cons (pv 0) (pa_cons (pe_op op_add (pv 1) pe_int) pa_nil))) pa_nil)) (blkOk_by (own := [("k", 5)]) (N := N_law_some_items) (sc := defScope s_law_some_items) (by decide +kernel)) (fun _ _ _ _ _ => pg_name (i := 5) sc_law_some_items.nd rfl (Or.inl rfl)) (fun _ _ _ _ _ => pts_nil) (fun _ _ _ _ _ => (pe_kn D_law_item hr (pa_cons (pv 0) pa_nil))))
      (pss_cons (ps_set (i := 3) sc_law_some_items.nd rfl (.inl rfl) (pe_lst pa_nil))
      (pss_cons (ps_for PassesOwn.never rfl (pi_list (pv 2)) (pg_name (i := 4) sc_law_some_items.nd rfl (.inl rfl)) (pss_one (ps_set (i := 3) sc_law_some_items.nd rfl (.inl rfl) (pe_kn D_law_placed hr (pa_cons (pv 3) (pa_cons (pv 4) pa_nil))))))
      (pss_one (ps_ret (pe_lst (pa_cons (pv 2) (pa_cons (pv 3) pa_nil)))))))), ?_⟩
    refine ⟨_, rfl, _, rfl, _, _, rfl, rfl, p, d, (m : Int) + 1, rfl, by omega, rg, ?_⟩
    rintro x1 H1 ⟨v, rfl, v0, v1⟩ gw1 rg1
    refine ⟨v, rfl, by omega, by omega, fun D nD => lc_range (lo := 0) (n := v.toNat) (fun j H4 => ∃ its : Its, H4 D = some (.lst (irf its)) ∧ its.length = j ∧ ItsG K H4 its ∧ Gw p H H4 ∧ Rng d H4 p ∧ ∀ t ∈ its, ItV K H4 t)
      ⟨[], upd_same, rfl, (fun _ m => by cases m), gw1.trans (Gw.new nD), rg1.same (Same.new nD), fun _ m => nomatch m⟩ (fun j H4 hj hP => ?_) (fun H4 hP => ?_)⟩
    · obtain ⟨its, eD, li, ig, gw4, rg4, iv⟩ := hP
      refine ⟨rfl, ?_⟩
      refine ⟨_, rfl, p, d, rfl, rg4, ?_⟩
      rintro x H5 ⟨a, i, rfl, hi, vi⟩ gw5 rg5
      have dn := rg1.free nD
      have eD5 := gw5.keep eD dn.1
      have tD : Tk K H5 (upd H5 D (.lst (irf its ++ [.ref a]))) := Tk.put eD5
      refine ⟨irf its, eD5, by rw [irf_len]; exact small (m := 1000) (by omega) (by decide), its ++ [(a, i)], by rw [upd_same, irf_app]; rfl, by rw [List.length_append, li]; rfl, ((ig.tk (Rng.tk rg4 gw5)).tk tD).app (ItsG.one (t := (a, i)) (hi.tk tD)), ?_, rg5.upd dn, fun u m => ?_⟩
      · exact Gw.over (gw4.trans gw5) (gw1.free nD dn.1)
      · rcases List.mem_append.mp m with m | m
        · exact ((iv u m).tk (Rng.tk rg4 gw5)).tk tD
        · rw [List.mem_singleton.mp m]
          exact ItV.tk (t := (a, i)) tD vi
    · obtain ⟨its, eD, li, ig, gw4, rg4, iv⟩ := hP
      have dn := rg1.free nD
      refine ⟨sz 0, fun o no => ?_⟩
      have s5 := Same.new (o := .lst []) no
      have e5 := upd_same (H := H4) (a := o) (o := .lst [])
      have noD : o ≠ D := fun z => by rw [z, eD] at no; cases no
      have nop := rg4.free no
      generalize (upd H4 o (.lst [])) = H5 at *
      refine ⟨_, rfl, D, rfl, ⟨_, SqL.of (s5 _ _ eD)⟩, for_list (K := K) (a := D) (xs := irf its) (fun j σ H6 => ∃ (o : Addr) (y4 : Option V), σ = [some (.ref p), some (.int (m : Int)), some (.ref D), some (.ref o), y4, none] ∧ Same H4 H6 ∧ o ≠ D ∧ (o ≠ p ∧ o ≠ d) ∧
          H6 o = some (.lst (irf (plcAll (its.take j)))))
        ⟨o, none, rfl, s5, noD, nop, e5⟩ (fun j σ H6 _ hP => ?_) (fun j y σ H6 hy hP => ?_) (fun σ H6 hP => ?_)⟩
      · obtain ⟨_, _, _, s6, _⟩ := hP
        exact SqL.of (s6 _ _ eD)
      · obtain ⟨o, y4, rfl, s6, no1, no2, eo⟩ := hP
        obtain ⟨t, et, rfl⟩ := irf_get hy
        have jl : j < its.length := (List.getElem?_eq_some_iff.mp et).1
        have ig6 := ig.same s6
        have sub : ItsG K H6 (its.take j) := fun u m => ig6 u (List.mem_of_mem_take m)
        obtain ⟨_, _, ln, mm⟩ := plcAll_ok (its.take j) sub.sc
        refine ⟨_, rfl, _, rfl, o, t.1, t.2, plcAll (its.take j), rfl, SqL.of eo, (fun u m => sub u (mm u m)), ig6 t (List.mem_of_getElem? et), ?_, fun p7 H7 s7 n7 e7 => ?_⟩
        · rw [List.length_take] at ln
          omega
        · refine ⟨p7, _, rfl, s6.trans s7, (fun z => by rw [z, s6 _ _ eD] at n7; cases n7), (rg4.same s6).free n7, ?_⟩
          rw [take_snoc' et, plcAll_snoc]
          exact e7
      · obtain ⟨o, y4, rfl, s6, no1, no2, eo⟩ := hP
        rw [irf_len, List.take_length] at eo
        refine ⟨_, rfl, _, rfl, sz 2, fun u nu => q _ _ ⟨u, D, o, its, rfl, upd_same, Same.new nu _ _ (s6 _ _ eD), Same.new nu _ _ eo, (ig.same s6).same (Same.new nu), (fun t m => (iv t m).tk (Tk.same (s6.trans (Same.new nu)))), by omega, no1.symm, dn.1, no2.1, dn.2, no2.2⟩ ?_ ((rg4.same s6).same (Same.new nu))⟩
        exact (gw4.trans (Gw.same s6)).trans (Gw.new nu)
end
end K1
namespace Ow
open PySem PySem.Spec PyProof.Rows L2
theorem pe_cls {X : Cx} {x : Str} {C : Addr} {pos : Pos} (gl : Gl X x) (h : X.mg x = some (.ref C)) (hd : (x == ("__debug__" : Str)) = false := by decide) : PE X (.Name x pos) (tC (.ref C)) := pe_glob (v := .ref C) gl h rfl (hd := hd)
end Ow
namespace K1
open PySem PySem.Spec PyProof.Rows L2 Ow Tlz Bd
abbrev swrite_names : Stmt := topS 26
abbrev Nwrite_names : List Str := ["names", "data", "name"]
theorem scwrite_names : FnScope Nwrite_names ["names"] (defScope swrite_names) := ⟨rfl, rfl, rfl, by decide +kernel, rfl, by decide +kernel, by decide +kernel⟩
abbrev swrite_item : Stmt := topS 29
abbrev Nwrite_item : List Str := ["item", "word", "data", "sizes"]
theorem scwrite_item : FnScope Nwrite_item ["item"] (defScope swrite_item) := ⟨rfl, rfl, rfl, by decide +kernel, rfl, by decide +kernel, by decide +kernel⟩
abbrev swrite_change : Stmt := topS 30
abbrev Nwrite_change : List Str := ["change", "word", "told", "sort", "name", "row"]
theorem scwrite_change : FnScope Nwrite_change ["change"] (defScope swrite_change) := ⟨rfl, rfl, rfl, by decide +kernel, rfl, by decide +kernel, by decide +kernel⟩
abbrev swrite_changes : Stmt := topS 31
abbrev Nwrite_changes : List Str := ["changes", "data", "change"]
theorem scwrite_changes : FnScope Nwrite_changes ["changes"] (defScope swrite_changes) := ⟨rfl, rfl, rfl, by decide +kernel, rfl, by decide +kernel, by decide +kernel⟩
def sortWs : List Str := ["relation", "fact", "structure", "layout"]
structure SrtM (K : PySem.W.Frag) (mg : Str → Option Value) (sA : Addr) : Prop where
  g : mg "SORTS" = some (.ref sA)
  ex : ∃ (o : Obj) (its : Array Value) (n : Nat), K.lookup sA = some o ∧ o.cls = .type "tuple" ∧ o.dict = none ∧ o.data = .seq its n ∧ its.size ≤ sizeLine ∧ Vals (sortWs.map V.str) its.toList
theorem SrtM.sq {K : PySem.W.Frag} {mg : Str → Option Value} {sA : Addr} (S : SrtM K mg sA) (H : Hp) : SqT K H sA (sortWs.map V.str) := by
  obtain ⟨o, its, k0, hk, hcl, hdi, hda, hz, hv⟩ := S.ex
  exact .inr ⟨o, its, k0, hk, hcl, hda, hz, hv⟩
theorem SrtM.ty {K : PySem.W.Frag} {mg : Str → Option Value} {sA : Addr} (S : SrtM K mg sA) (H : Hp) : tyV K "tuple" (.ref sA) H := by
  obtain ⟨o, its, k0, hk, hcl, hdi, hda, hz, hv⟩ := S.ex
  exact .inr (.inl ⟨rfl, o, hk, hcl, hdi⟩)
def wordOf : Fv → Str
  | .rel _ _ _ => "relation"
  | .fact _ _ => "fact"
  | .str _ _ _ _ _ => "structure"
  | .lay _ _ => "layout"
def sortOf : Fv → Nat
  | .rel _ _ _ => 0
  | .fact _ _ => 1
  | .str _ _ _ _ _ => 2
  | .lay _ _ => 3
def nameOf : Fv → Str
  | .rel n _ _ => n
  | .fact n _ => n
  | .str n _ _ _ _ => n
  | .lay n _ => n
theorem FvAt.head {K : PySem.W.Frag} {H : Hp} {x : V} {v : Fv} (h : FvAt K H x v) : ∃ a rest, x = .ref a ∧ SqT K H a (.str (wordOf v) :: .str (nameOf v) :: rest) := by
  cases v with
  | rel n cs r => obtain ⟨a, ct, e, h1, h2⟩ := h; exact ⟨a, _, e, h1⟩
  | fact n row => obtain ⟨a, ct, e, h1, h2⟩ := h; exact ⟨a, _, e, h1⟩
  | str n rn cs b s => obtain ⟨a, ct, e, h1, h2⟩ := h; exact ⟨a, _, e, h1⟩
  | lay n cs => obtain ⟨a, ct, e, h1, h2⟩ := h; exact ⟨a, _, e, h1⟩
theorem FvOk.name {v : Fv} (h : FvOk v) : StrOk (nameOf v) := by
  cases v with
  | rel n cs r => exact h.1
  | fact n row => exact h.1
  | str n rn cs b s => exact h.1
  | lay n cs => exact h.1
theorem sort_at (v : Fv) : sortWs[sortOf v]? = some (wordOf v) := by cases v <;> rfl
theorem sort_min (v : Fv) : ∀ m, m < sortOf v → sortWs[m]? ≠ some (wordOf v) := by
  cases v
  · exact (by decide +kernel : ∀ m, m < 0 → sortWs[m]? ≠ some ("relation" : Str))
  · exact (by decide +kernel : ∀ m, m < 1 → sortWs[m]? ≠ some ("fact" : Str))
  · exact (by decide +kernel : ∀ m, m < 2 → sortWs[m]? ≠ some ("structure" : Str))
  · exact (by decide +kernel : ∀ m, m < 3 → sortWs[m]? ≠ some ("layout" : Str))
theorem wT (s : Str) : decide (V.str s = V.str s) = true := decide_eq_true rfl
theorem w_fr : ¬ decide (V.str "fact" = V.str "relation") = true := by decide +kernel
theorem w_sr : ¬ decide (V.str "structure" = V.str "relation") = true := by decide +kernel
theorem w_lr : ¬ decide (V.str "layout" = V.str "relation") = true := by decide +kernel
theorem w_sf : ¬ decide (V.str "structure" = V.str "fact") = true := by decide +kernel
theorem w_lf : ¬ decide (V.str "layout" = V.str "fact") = true := by decide +kernel
theorem w_ls : ¬ decide (V.str "layout" = V.str "structure") = true := by decide +kernel
/-- lists of numbers put together -/
theorem catI {H : Hp} {a b : Addr} {xs ys : List Int} {Q : VK} (ha : H a = some (.lst (xs.map V.int))) (hb : H b = some (.lst (ys.map V.int))) (l : xs.length + ys.length ≤ 1000000) (q : MkL H Q (xs ++ ys)) : rCat (.ref a) (.ref b) H Q := by
  refine ⟨a, b, _, _, rfl, rfl, ha, hb, by rw [List.length_map, List.length_map]; exact Nat.le_trans l (by decide), fun p np => ?_⟩
  exact q _ p (Same.new np) np (by rw [upd_same, List.map_append])
theorem lstI {H : Hp} {p : Addr} {xs : List Int} {ys : List V} (e : ys = xs.map V.int) (np : H p = none) : Same H (upd H p (.lst ys)) ∧ (upd H p (.lst ys)) p = some (.lst (xs.map V.int)) := ⟨Same.new np, by rw [upd_same, e]⟩
theorem MkL.mono {H H1 : Hp} {Q : VK} {xs : List Int} (s : Same H H1) (q : MkL H Q xs) : MkL H1 Q xs := fun H' p s' np ep => q H' p (s.trans s') (Same.free s np) ep
def spNames (K : PySem.W.Frag) : Sp := fun vs H Q _ => ∃ (a : Addr) (cs : List Str), vs = [.ref a] ∧ SqT K H a (cs.map V.str) ∧ StrsOk cs ∧ MkL H Q (namesB cs)
def spWItem (K : PySem.W.Frag) : Sp := fun vs H Q _ => ∃ (x : V) (v : Fv), vs = [x] ∧ FvAt K H x v ∧ FvOk v ∧ MkL H Q (fvB v)
def spWChange (K : PySem.W.Frag) : Sp := fun vs H Q _ => ∃ (x : V) (v : Cv), vs = [x] ∧ CvAt K H x v ∧ CvOk v ∧ MkL H Q (cvB v)
/-- changes by their values -/
def ChAt (K : PySem.W.Frag) (H : Hp) (xs : List V) (cs : List Cv) : Prop := xs.length = cs.length ∧ ∀ (i : Nat) (x : V) (c : Cv), xs[i]? = some x → cs[i]? = some c → CvAt K H x c ∧ CvOk c
theorem ChAt.tk {K : PySem.W.Frag} {H H' : Hp} {xs : List V} {cs : List Cv} (t : Tk K H H') (h : ChAt K H xs cs) : ChAt K H' xs cs := ⟨h.1, fun i x c e f => ⟨(h.2 i x c e f).1.tk t, (h.2 i x c e f).2⟩⟩
def chB (cs : List Cv) : List Int := listB (cs.map cvB)
def spWChanges (K : PySem.W.Frag) : Sp := fun vs H Q _ => ∃ (a : Addr) (xs : List V) (cs : List Cv), vs = [.ref a] ∧ SqL K H a xs ∧ ChAt K H xs cs ∧ xs.length ≤ 200 ∧ MkL H Q (chB cs)
theorem flat_pre {xs : List (List Int)} {b : Nat} (h : ∀ x ∈ xs, x.length ≤ b) (l : xs.length ≤ 200) (hb : b ≤ 5000) (i n : Nat) (hn : n ≤ 10000) : (numB n ++ (xs.take i).flatten).length ≤ 1000021 := by
  have h1 := flat_len (xs := xs.take i) (b := b) fun y m => h y (List.mem_of_mem_take m)
  rw [List.length_take] at h1
  have h2 := numB_len4 hn
  rw [List.length_append]
  have h3 : min i xs.length * b ≤ 200 * 5000 := Nat.mul_le_mul (by omega) hb
  omega
theorem flat_snoc {xs : List (List Int)} {i : Nat} {x : List Int} {p : List Int} (h : xs[i]? = some x) : p ++ (xs.take (i + 1)).flatten = (p ++ (xs.take i).flatten) ++ x := by
  rw [List.take_succ, h, List.flatten_append]
  simp
section
variable {P : Program} {w : World} {K : PySem.W.Frag} {mg : Str → Option Value} {base : Heap}
theorem ok_wnames {f : Addr} {fd : FuncData} (F : Fun K "write_names" "write_names" swrite_names f fd) (T0 : Bl mg) (Dwrite_number : Kn P w K mg base 1 "write_number" ["number"] spNumber) (Dwrite_string : Kn P w K mg base 2 "write_string" ["text"] spString) : FnOk P w K mg base CX0 3 f fd ["names"] (spNames K) := by
  refine F.ok scwrite_names (fun vs H Q E h => ?_) (fun cdv A outer s H vs Q E hr h => ?_)
  · obtain ⟨a, cs, rfl, _⟩ := h
    rfl
  · obtain ⟨a, cs, rfl, hx, oc, q⟩ := h
    refine ⟨_, (pss_cons (ps_set (i := 1) scwrite_names.nd rfl (.inl rfl) (pe_kn Dwrite_number hr (pa_cons (pe_callB call_len_seq (by rfl) T0.len PySem.boot_len (pa_cons (pv 0) pa_nil)) pa_nil)))
      (pss_cons (ps_for PassesOwn.never rfl (pi_tup (pv 0)) (pg_name (i := 2) scwrite_names.nd rfl (.inl rfl)) (pss_one (ps_expr (pe_bm PySem.F.plainAttrs_list PySem.F.slot_list_extend PySem.F.type_list_extend mt_extend (pv 1) (pa_cons (pe_kn Dwrite_string hr (pa_cons (pv 2) pa_nil)) pa_nil)))))
      (pss_one (ps_ret (pv 1))))), ?_⟩
    have lc := oc.1
    refine ⟨_, rfl, a, _, rfl, .inr hx, cs.length, by simp, Nat.lt_of_le_of_lt lc (by decide), fun H1 o sm no ho => ?_⟩
    refine ⟨_, rfl, a, rfl, ⟨_, Tk.same sm _ _ hx⟩, for_tup (K := K) (a := a) (xs := cs.map V.str) (fun i σ H4 => ∃ y2 : Option V, σ = [some (.ref a), some (.ref o), y2] ∧ Same H H4 ∧ H4 o = some (.lst ((numB cs.length ++ ((cs.map strB).take i).flatten).map V.int)))
      ⟨none, rfl, sm, by rw [ho]; simp⟩ (fun i σ H4 hi hP => ?_) (fun i x σ H4 hi hP => ?_) (fun σ H4 hP => ?_)⟩
    · obtain ⟨y2, _, s4, _⟩ := hP
      exact Tk.same s4 _ _ hx
    · obtain ⟨y2, rfl, s4, eo⟩ := hP
      rw [List.getElem?_map] at hi
      cases ez : cs[i]? with
      | none => rw [ez] at hi; cases hi
      | some z =>
        rw [ez] at hi
        cases hi
        have oz := oc.2 z (List.mem_of_getElem? ez)
        have eb : (cs.map strB)[i]? = some (strB z) := by rw [List.getElem?_map, ez]; rfl
        have lp := flat_pre (xs := cs.map strB) (b := 221) (fun x m => by
          obtain ⟨y, my, e⟩ := List.mem_map.mp m
          rw [← e]
          exact strB_len4 (oc.2 y my)) (by rw [List.length_map]; omega) (by decide) (i + 1) cs.length (by omega)
        refine ⟨_, rfl, .inl ⟨rfl, _, .inl (.inl eo)⟩, _, rfl, z, rfl, oz.1, oz.2, fun H5 p s5 np hp => ?_⟩
        refine ⟨o, p, _, _, rfl, rfl, s5 _ _ eo, hp, ?_, _, rfl, Same.over (s4.trans s5) no, ?_⟩
        · rw [← List.length_append, ← List.map_append, List.length_map, ← flat_snoc eb]
          exact Nat.le_trans lp (by decide)
        · rw [upd_same, flat_snoc eb, ← List.map_append]
    · obtain ⟨y2, rfl, s4, eo⟩ := hP
      have e2 : numB cs.length ++ ((cs.map strB).take (cs.map V.str).length).flatten = namesB cs := by
        unfold namesB listB
        rw [List.length_map, List.length_map, List.take_of_length_le (by rw [List.length_map]; exact Nat.le_refl _)]
      rw [e2] at eo
      exact ⟨_, rfl, q _ _ s4 no eo⟩
theorem ok_witem {f sA : Addr} {fd : FuncData} (F : Fun K "write_item" "write_item" swrite_item f fd) (T0 : Bl mg) (SM : SrtM K mg sA) (gSORTS : mg "SORTS" = some (.ref sA)) (Dwrite_number : Kn P w K mg base 1 "write_number" ["number"] spNumber) (Dwrite_string : Kn P w K mg base 2 "write_string" ["text"] spString) (Dwrite_names : Kn P w K mg base 3 "write_names" ["names"] (spNames K)) (Dwrite_row : Kn P w K mg base 4 "write_row" ["row"] (spRB K)) : FnOk P w K mg base CX0 5 f fd ["item"] (spWItem K) := by
  refine F.ok scwrite_item (fun vs H Q E h => ?_) (fun cdv A outer s H vs Q E hr h => ?_)
  · obtain ⟨x, v, rfl, _⟩ := h
    rfl
  · obtain ⟨x, v, rfl, hv, ov, q⟩ := h
    refine ⟨_, (pss_cons (ps_set (i := 1) scwrite_item.nd rfl (.inl rfl) (pe_ix ix_tup (pv 0) pe_int (fun _ _ => rfl)))
      (pss_mid (ps_set (i := 2) scwrite_item.nd rfl (.inl rfl) (pe_op op_cat (pe_lst (pa_cons (pe_bm PySem.F.plainAttrs_tuple PySem.F.slot_tuple_index PySem.F.type_tuple_index mt_tup_index (pe_cls (by rfl) gSORTS) (pa_cons (pv 1) pa_nil)) pa_nil)) (pe_kn Dwrite_string hr (pa_cons (pe_ix ix_tup (pv 0) pe_int (fun _ _ => rfl)) pa_nil))))
      (pss_cons (ps_if (pt_cmpR op_eq (pv 1) pe_str (nomark _)) (pss_one (ps_ret (pe_op op_cat (pe_op op_cat (pv 2) (pe_kn Dwrite_names hr (pa_cons (pe_ix ix_tup (pv 0) pe_int (fun _ _ => rfl)) pa_nil))) (pe_kn Dwrite_number hr (pa_cons (pe_ix ix_tup (pv 0) pe_int (fun _ _ => rfl)) pa_nil))))) pss_nil)
      (pss_cons (ps_if (pt_cmpR op_eq (pv 1) pe_str (nomark _)) (pss_one (ps_ret (pe_op op_cat (pv 2) (pe_kn Dwrite_row hr (pa_cons (pe_ix ix_tup (pv 0) pe_int (fun _ _ => rfl)) pa_nil))))) pss_nil)
      (pss_cons (ps_if (pt_cmpR op_eq (pv 1) pe_str (nomark _)) (pss_cons (ps_set (i := 3) scwrite_item.nd rfl (.inl rfl) (pe_op op_cat (pe_kn Dwrite_number hr (pa_cons (pe_ix ix_tup (pv 0) pe_int (fun _ _ => rfl)) pa_nil)) (pe_kn Dwrite_number hr (pa_cons (pe_ix ix_tup (pv 0) pe_int (fun _ _ => rfl)) pa_nil))))
      (pss_one (ps_ret (pe_op op_cat (pe_op op_cat (pe_op op_cat (pv 2) (pe_kn Dwrite_string hr (pa_cons (pe_ix ix_tup (pv 0) pe_int (fun _ _ => rfl)) pa_nil))) (pe_kn Dwrite_names hr (pa_cons (pe_ix ix_tup (pv 0) pe_int (fun _ _ => rfl)) pa_nil))) (pv 3))))) pss_nil)
      (pss_one (ps_ret (pe_op op_cat (pv 2) (pe_kn Dwrite_names hr (pa_cons (pe_ix ix_tup (pv 0) pe_int (fun _ _ => rfl)) pa_nil)))))))))), ?_⟩
    obtain ⟨a, rest, rfl, hx⟩ := hv.head
    have on := ov.name
    refine ⟨_, rfl, a, _, 0, .str (wordOf v), rfl, rfl, hx, at_of (j := 0) rfl rfl, ?_⟩
    refine ⟨fun σ' H' => ∃ dp, σ' = [some (.ref a), some (.str (wordOf v)), some (.ref dp), none] ∧ Same H H' ∧ H' dp = some (.lst (((sortOf v : Int) :: strB (nameOf v)).map V.int)), ?_, ?_⟩
    · refine ⟨SM.ty _, _, rfl, sA, sortWs, _, sortOf v, rfl, rfl, SM.sq _, sort_at v, sort_min v, by show 1 ≤ sizeLine; decide, fun l nl => ?_⟩
      obtain ⟨s1, e1⟩ := lstI (xs := [(sortOf v : Int)]) rfl nl
      refine ⟨_, rfl, a, _, 1, .str (nameOf v), rfl, rfl, Tk.same s1 _ _ hx, at_of (j := 1) rfl rfl, nameOf v, rfl, on.1, on.2, fun H2 p s2 np ep => ?_⟩
      refine catI (s2 _ _ e1) ep (by have := strB_len4 on; simp only [List.length_cons, List.length_nil]; omega) fun H3 p3 s3 np3 ep3 => ?_
      exact ⟨p3, rfl, (s1.trans s2).trans s3, ep3⟩
    · rintro σ' H1 ⟨dp, rfl, s1, ed⟩
      have hv1 := hv.tk (Tk.same s1)
      have ln := strB_len4 on
      have lv := fvB_len ov
      cases v with
      | rel n cs r =>
        obtain ⟨a', ct, e, h1, h2⟩ := hv1
        cases e
        obtain ⟨o1, o2, o3⟩ := ov
        refine ⟨_, rfl, rfl, _, rfl, ite2 (fun _ => ?_) (fun e => absurd (wT _) e)⟩
        refine ⟨_, rfl, _, rfl, a, _, 2, .ref ct, rfl, rfl, h1, at_of (j := 2) rfl rfl, ct, cs, rfl, h2, o2, fun H2 p s2 np ep => ?_⟩
        have l2 := namesB_len o2
        have l3 := numB_len4 o3
        refine catI (s2 _ _ ed) ep (by simp only [List.length_cons]; omega) fun H3 p3 s3 np3 ep3 => ?_
        refine ⟨_, rfl, a, _, 3, .int (r : Nat), rfl, rfl, Tk.same (s2.trans s3) _ _ h1, at_of (j := 3) rfl rfl, r, rfl, Nat.lt_of_le_of_lt o3 (by decide), fun H4 p4 s4 np4 ep4 => ?_⟩
        refine catI (s4 _ _ ep3) ep4 (by simp only [List.length_cons, List.length_append]; omega) ?_
        exact MkL.mono (((s1.trans s2).trans s3).trans s4) q
      | fact n row =>
        obtain ⟨a', ct, e, h1, h2⟩ := hv1
        cases e
        obtain ⟨o1, o2, o3⟩ := ov
        refine ⟨_, rfl, rfl, _, rfl, ite2 (fun e => absurd e w_fr) (fun _ => ?_)⟩
        refine ⟨_, rfl, rfl, _, rfl, ite2 (fun _ => ?_) (fun e => absurd (wT _) e)⟩
        refine ⟨_, rfl, _, rfl, a, _, 2, .ref ct, rfl, rfl, h1, at_of (j := 2) rfl rfl, ct, row, rfl, h2, o2, o3, fun H2 p s2 np ep => ?_⟩
        have l2 := rowB_len o2 o3
        refine catI (s2 _ _ ed) ep (by simp only [List.length_cons]; omega) ?_
        exact MkL.mono (s1.trans s2) q
      | str n rn cs b z =>
        obtain ⟨a', ct, e, h1, h2⟩ := hv1
        cases e
        obtain ⟨o1, o2, o3, o4, o5⟩ := ov
        refine ⟨_, rfl, rfl, _, rfl, ite2 (fun e => absurd e w_sr) (fun _ => ?_)⟩
        refine ⟨_, rfl, rfl, _, rfl, ite2 (fun e => absurd e w_sf) (fun _ => ?_)⟩
        refine ⟨_, rfl, rfl, _, rfl, ite2 (fun _ => ?_) (fun e => absurd (wT _) e)⟩
        have l2 := strB_len4 o2
        have l3 := namesB_len o3
        have l4 := numB_len4 o4
        have l5 := numB_len4 o5
        refine ⟨_, rfl, a, _, 4, .int (b : Nat), rfl, rfl, h1, at_of (j := 4) rfl rfl, b, rfl, Nat.lt_of_le_of_lt o4 (by decide), fun H2 p2 s2 np2 ep2 => ?_⟩
        refine ⟨_, rfl, a, _, 5, .int (z : Nat), rfl, rfl, Tk.same s2 _ _ h1, at_of (j := 5) rfl rfl, z, rfl, Nat.lt_of_le_of_lt o5 (by decide), fun H3 p3 s3 np3 ep3 => ?_⟩
        refine catI (s3 _ _ ep2) ep3 (by omega) fun H4 p4 s4 np4 ep4 => ?_
        have s14 := (s2.trans s3).trans s4
        refine ⟨_, rfl, _, rfl, a, _, 2, .str rn, rfl, rfl, Tk.same s14 _ _ h1, at_of (j := 2) rfl rfl, rn, rfl, o2.1, o2.2, fun H5 p5 s5 np5 ep5 => ?_⟩
        refine catI ((s14.trans s5) _ _ ed) ep5 (by simp only [List.length_cons]; omega) fun H6 p6 s6 np6 ep6 => ?_
        have s16 := (s14.trans s5).trans s6
        refine ⟨_, rfl, a, _, 3, .ref ct, rfl, rfl, Tk.same s16 _ _ h1, at_of (j := 3) rfl rfl, ct, cs, rfl, Tk.same s16 _ _ h2, o3, fun H7 p7 s7 np7 ep7 => ?_⟩
        refine catI (s7 _ _ ep6) ep7 (by simp only [List.length_cons, List.length_append]; omega) fun H8 p8 s8 np8 ep8 => ?_
        refine ⟨_, rfl, ?_⟩
        refine catI ep8 ((((s5.trans s6).trans s7).trans s8) _ _ ep4) (by simp only [List.length_cons, List.length_append]; omega) ?_
        exact MkL.mono (s1.trans ((s16.trans s7).trans s8)) q
      | lay n cs =>
        obtain ⟨a', ct, e, h1, h2⟩ := hv1
        cases e
        obtain ⟨o1, o2⟩ := ov
        refine ⟨_, rfl, rfl, _, rfl, ite2 (fun e => absurd e w_lr) (fun _ => ?_)⟩
        refine ⟨_, rfl, rfl, _, rfl, ite2 (fun e => absurd e w_lf) (fun _ => ?_)⟩
        refine ⟨_, rfl, rfl, _, rfl, ite2 (fun e => absurd e w_ls) (fun _ => ?_)⟩
        have l2 := namesB_len o2
        refine ⟨_, rfl, _, rfl, a, _, 2, .ref ct, rfl, rfl, h1, at_of (j := 2) rfl rfl, ct, cs, rfl, h2, o2, fun H2 p s2 np ep => ?_⟩
        refine catI (s2 _ _ ed) ep (by simp only [List.length_cons]; omega) ?_
        exact MkL.mono (s1.trans s2) q
end
end K1
namespace K1
open PySem PySem.Spec PyProof.Rows L2 Ow Tlz Bd
abbrev swrite_image : Stmt := topS 32
abbrev Nwrite_image : List Str := ["commits", "state", "items", "data", "item"]
theorem scwrite_image : FnScope Nwrite_image ["commits", "state"] (defScope swrite_image) := ⟨rfl, rfl, rfl, by decide +kernel, rfl, by decide +kernel, by decide +kernel⟩
theorem w_gc : ¬ decide (V.str "goes" = V.str "comes") = true := by decide +kernel
theorem n_comes : (!decide (V.str "comes" = V.str "comes")) = false := by decide +kernel
def imgB (c : Nat) (fs : List Fv) : List Int := numB c ++ listB (fs.map fvB)
def spWImage (K : PySem.W.Frag) (C : Addr) : Sp := fun vs H Q _ => ∃ (x dr df ds dl : Addr) (Z : Addr → Prop) (R S : Tb) (F : Fb) (L : List (Str × V)) (b c : Nat) (os : Its) (fs : List Fv), vs = [.int (c : Nat), .ref x] ∧ StAt K C Z H x dr df ds dl R F S L b ∧ b ≤ 300 ∧ ItsG K H os ∧ ItsV K H os fs ∧ KSrt os ∧ os.length ≤ 40 ∧ Rep os R F S L ∧ c < 2 ^ 140 ∧ MkL H Q (imgB c fs)
theorem range_map {α β : Type} (xs : List α) (d : α) (f : α → β) : (List.range xs.length).map (fun i => f (xs.getD i d)) = xs.map f := by
  apply List.ext_getElem?
  intro i
  by_cases h : i < xs.length
  · simp [h]
  · rw [List.getElem?_eq_none (by simp; omega), List.getElem?_eq_none (by simp; omega)]
theorem getD_of {α : Type} {xs : List α} {i : Nat} {x d : α} (h : xs[i]? = some x) : xs.getD i d = x := by rw [List.getD_eq_getElem?_getD, h]; rfl
theorem parts_of {H : Hp} {enc : Nat → List Int} : ∀ {ts : List Addr} {k : Nat}, (∀ i t, ts[i]? = some t → H t = some (.lst ((enc (k + i)).map V.int))) → ∃ qs : List (Addr × List Int), refs qs = ts.map V.ref ∧ Parts H qs ∧ qs.map (·.1) = ts ∧ qs.map (·.2) = (List.range ts.length).map fun i => enc (k + i)
  | [], k, _ => ⟨[], rfl, (fun t m => nomatch m), rfl, rfl⟩
  | t :: ts, k, h => by
    obtain ⟨qs, e1, p, e2, e3⟩ := parts_of (H := H) (enc := enc) (ts := ts) (k := k + 1) fun i u e => by
      have := h (i + 1) u e
      rw [show k + 1 + i = k + (i + 1) by omega]
      exact this
    refine ⟨(t, enc k) :: qs, by unfold refs at e1 ⊢; rw [List.map_cons, List.map_cons, e1], fun u m => ?_, by rw [List.map_cons, e2], ?_⟩
    · rcases List.mem_cons.mp m with z | m
      · rw [z]
        exact h 0 t rfl
      · exact p u m
    · rw [List.map_cons, e3, List.length_cons, List.range_succ_eq_map, List.map_cons, List.map_map]
      congr 1
      refine List.map_congr_left fun i _ => ?_
      show enc (k + 1 + i) = enc (k + (i + 1))
      rw [show k + 1 + i = k + (i + 1) by omega]
/-- every turn gives a new list of numbers -/
theorem lc_parts {J : L2.It} {n : Nat} {G : Hp → Prop} {Y : Nat → Hp → V → Hp → Prop} (w : Walk J n G Y) (enc : Nat → List Int) (hn : n ≤ 1000) {g : TG} {te : TE} {vs : List Nat} {σ : L2.St} {H1 : Hp} {D : Addr} {Qd : Hp → Prop} (hD : H1 D = none)
    (hG : ∀ H, Same H1 H → G H)
    (hs : ∀ i x H H' (N : VK), i < n → Same H1 H → Y i H x H' → MkL H N (enc i) → g x (wipe σ vs) H' fun σ2 H2 => wipe σ2 vs = wipe σ vs ∧ te σ2 H2 N)
    (hd : ∀ (H : Hp) (qs : List (Addr × List Int)), Same H1 H → H D = some (.lst (refs qs)) → Parts H qs → qs.map (·.2) = (List.range n).map enc → (∀ t ∈ qs, H1 t.1 = none) → Qd H) :
    ∃ W : Nat → Nat → Hp → Prop, (∃ m, W 0 m (upd H1 D (.lst []))) ∧ ∀ i m H, W i m H →
      (J.stop i H ∧ Qd H) ∨ (J.go i H ∧ ∃ Nx : Hp → Prop, (∀ H', Nx H' → ∃ m', m' < m ∧ W (i + 1) m' H') ∧ ∀ x H', J.yld i H x H' → g x (wipe σ vs) H' fun σ2 H2 => wipe σ2 vs = wipe σ vs ∧ tYes σ2 H2 fun b H3 =>
        if b = true then te σ2 H3 fun y H4 => ∃ acc, H4 D = some (.lst acc) ∧ acc.length < sizeLine ∧ Nx (upd H4 D (.lst (acc ++ [y]))) else Nx H3) := by
  refine lc_new w (fun i => (enc i).map V.int) (small hn (by decide)) hD hG (fun i x H H' N hi s y fin => hs i x H H' N hi s y fun H4 q s4 nq eq => fin H4 q s4 nq eq) fun H ts s eD lt h => ?_
  obtain ⟨qs, e1, p, e2, e3⟩ := parts_of (H := H) (enc := enc) (ts := ts) (k := 0) fun i t e => by rw [Nat.zero_add]; exact (h i t e).2.2
  refine hd H qs s (by rw [e1]; exact eD) p (by rw [e3, lt]; simp) fun t m => ?_
  have m1 : t.1 ∈ ts := by rw [← e2]; exact List.mem_map.mpr ⟨t, m, rfl⟩
  obtain ⟨i, hi, ei⟩ := List.mem_iff_getElem.mp m1
  exact (h i t.1 (List.getElem?_eq_some_iff.mpr ⟨hi, ei⟩)).1
def sortTab4 : List (Key × V) := mergeK [] [(Sum.inr "relation", .int 0), (Sum.inr "fact", .int 1), (Sum.inr "structure", .int 2), (Sum.inr "layout", .int 3)]
theorem tab4 (v : Fv) : valV sortTab4 (Sum.inr (wordOf v)) = some (.int (sortOf v : Nat)) := by
  cases v
  · exact (by decide +kernel : valV sortTab4 (Sum.inr "relation") = some (.int 0))
  · exact (by decide +kernel : valV sortTab4 (Sum.inr "fact") = some (.int 1))
  · exact (by decide +kernel : valV sortTab4 (Sum.inr "structure") = some (.int 2))
  · exact (by decide +kernel : valV sortTab4 (Sum.inr "layout") = some (.int 3))
section
variable {P : Program} {w : World} {K : PySem.W.Frag} {mg : Str → Option Value} {base : Heap}
theorem ok_wchange {f : Addr} {fd : FuncData} (F : Fun K "write_change" "write_change" swrite_change f fd) (Dwrite_string : Kn P w K mg base 2 "write_string" ["text"] spString) (Dwrite_item : Kn P w K mg base 5 "write_item" ["item"] (spWItem K)) (Dwrite_row : Kn P w K mg base 4 "write_row" ["row"] (spRB K)) : FnOk P w K mg base CX0 6 f fd ["change"] (spWChange K) := by
  refine F.ok scwrite_change (fun vs H Q E h => ?_) (fun cdv A outer s H vs Q E hr h => ?_)
  · obtain ⟨x, v, rfl, _⟩ := h
    rfl
  · obtain ⟨x, v, rfl, hv, ov, q⟩ := h
    refine ⟨_, (pss_cons (ps_asg (pv 0) (pg_tup rfl (pgs_cons (pg_name (i := 1) scwrite_change.nd rfl (.inl rfl)) (pgs_cons (pg_name (i := 2) scwrite_change.nd rfl (.inl rfl)) pgs_nil))))
      (pss_cons (ps_if (pt_cmpR op_eq (pv 1) pe_str (nomark _)) (pss_one (ps_ret (pe_op op_cat (pe_lst (pa_cons pe_int pa_nil)) (pe_kn Dwrite_item hr (pa_cons (pv 2) pa_nil))))) pss_nil)
      (pss_cons (ps_asg (pv 2) (pg_tup rfl (pgs_cons (pg_name (i := 3) scwrite_change.nd rfl (.inl rfl)) (pgs_cons (pg_name (i := 4) scwrite_change.nd rfl (.inl rfl)) (pgs_cons (pg_name (i := 5) scwrite_change.nd rfl (.inl rfl)) pgs_nil)))))
      (pss_one (ps_ret (pe_op op_cat (pe_op op_cat (pe_lst (pa_cons pe_int (pa_cons (pv 3) pa_nil))) (pe_kn Dwrite_string hr (pa_cons (pv 4) pa_nil))) (pe_kn Dwrite_row hr (pa_cons (pv 5) pa_nil)))))))), ?_⟩
    cases v with
    | comes v =>
      obtain ⟨a, y, rfl, h1, h2⟩ := hv
      have lv := fvB_len ov
      refine ⟨_, rfl, a, _, rfl, h1, rfl, _, _, rfl, _, _, rfl, rfl, ?_⟩
      refine ⟨_, rfl, rfl, _, rfl, ite2 (fun _ => ?_) (fun e => absurd (wT _) e)⟩
      refine ⟨by show 1 ≤ sizeLine; decide, fun l nl => ?_⟩
      obtain ⟨s1, e1⟩ := lstI (xs := [(0 : Int)]) rfl nl
      refine ⟨_, rfl, y, v, rfl, h2.tk (Tk.same s1), ov, fun H2 p s2 np ep => ?_⟩
      exact catI (s2 _ _ e1) ep (by simp only [List.length_cons, List.length_nil]; omega) (MkL.mono (s1.trans s2) q)
    | goes z n row =>
      obtain ⟨a, k, r, rfl, h1, h2, h3⟩ := hv
      obtain ⟨o0, o1, o2, o3⟩ := ov
      have l1 := strB_len4 o1
      have l2 := rowB_len o2 o3
      refine ⟨_, rfl, a, _, rfl, h1, rfl, _, _, rfl, _, _, rfl, rfl, ?_⟩
      refine ⟨_, rfl, rfl, _, rfl, ite2 (fun e => absurd e w_gc) (fun _ => ?_)⟩
      refine ⟨_, rfl, k, _, rfl, h2, rfl, _, _, rfl, _, _, rfl, _, _, rfl, rfl, ?_⟩
      refine ⟨_, rfl, by show 2 ≤ sizeLine; decide, fun l nl => ?_⟩
      obtain ⟨s1, e1⟩ := lstI (xs := [(1 : Int), (z : Int)]) rfl nl
      refine ⟨_, rfl, n, rfl, o1.1, o1.2, fun H2 p s2 np ep => ?_⟩
      refine catI (s2 _ _ e1) ep (by simp only [List.length_cons, List.length_nil]; omega) fun H3 p3 s3 np3 ep3 => ?_
      refine ⟨_, rfl, r, row, rfl, Tk.same ((s1.trans s2).trans s3) _ _ h3, o2, o3, fun H4 p4 s4 np4 ep4 => ?_⟩
      exact catI (s4 _ _ ep3) ep4 (by simp only [List.length_cons, List.length_nil, List.length_append]; omega) (MkL.mono (((s1.trans s2).trans s3).trans s4) q)
theorem ok_wchanges {f : Addr} {fd : FuncData} (F : Fun K "write_changes" "write_changes" swrite_changes f fd) (T0 : Bl mg) (Dwrite_number : Kn P w K mg base 1 "write_number" ["number"] spNumber) (Dwrite_change : Kn P w K mg base 6 "write_change" ["change"] (spWChange K)) : FnOk P w K mg base CX0 7 f fd ["changes"] (spWChanges K) := by
  refine F.ok scwrite_changes (fun vs H Q E h => ?_) (fun cdv A outer s H vs Q E hr h => ?_)
  · obtain ⟨a, xs, cs, rfl, _⟩ := h
    rfl
  · obtain ⟨a, xs, cs, rfl, hx, ch, lx, q⟩ := h
    refine ⟨_, (pss_cons (ps_set (i := 1) scwrite_changes.nd rfl (.inl rfl) (pe_kn Dwrite_number hr (pa_cons (pe_callB call_len_seq (by rfl) T0.len PySem.boot_len (pa_cons (pv 0) pa_nil)) pa_nil)))
      (pss_cons (ps_for PassesOwn.never rfl (pi_list (pv 0)) (pg_name (i := 2) scwrite_changes.nd rfl (.inl rfl)) (pss_one (ps_expr (pe_bm PySem.F.plainAttrs_list PySem.F.slot_list_extend PySem.F.type_list_extend mt_extend (pv 1) (pa_cons (pe_kn Dwrite_change hr (pa_cons (pv 2) pa_nil)) pa_nil)))))
      (pss_one (ps_ret (pv 1))))), ?_⟩
    have lc := ch.1
    refine ⟨_, rfl, a, _, rfl, .inl hx, cs.length, by rw [lc]; rfl, Nat.lt_of_le_of_lt (by omega : cs.length ≤ 200) (by decide), fun H1 o sm no ho => ?_⟩
    refine ⟨_, rfl, a, rfl, ⟨_, Same.seq sm hx⟩, for_list (K := K) (a := a) (xs := xs) (fun i σ H4 => ∃ y2 : Option V, σ = [some (.ref a), some (.ref o), y2] ∧ Same H H4 ∧ H4 o = some (.lst ((numB cs.length ++ ((cs.map cvB).take i).flatten).map V.int)))
      ⟨none, rfl, sm, by rw [ho]; simp⟩ (fun i σ H4 hi hP => ?_) (fun i x σ H4 hi hP => ?_) (fun σ H4 hP => ?_)⟩
    · obtain ⟨y2, _, s4, _⟩ := hP
      exact Same.seq s4 hx
    · obtain ⟨y2, rfl, s4, eo⟩ := hP
      have il := (List.getElem?_eq_some_iff.mp hi).1
      have ec : cs[i]? = some (cs[i]'(by omega)) := List.getElem?_eq_getElem _
      generalize cs[i]'(by omega) = c at ec
      obtain ⟨hc, oc⟩ := ch.2 i x c hi ec
      have eb : (cs.map cvB)[i]? = some (cvB c) := by rw [List.getElem?_map, ec]; rfl
      have lp := flat_pre (xs := cs.map cvB) (b := 4950) (fun y m => by
        obtain ⟨c', mc, e⟩ := List.mem_map.mp m
        obtain ⟨j, hj, ej⟩ := List.mem_iff_getElem.mp mc
        rw [← e]
        exact cvB_len (ch.2 j (xs[j]'(by omega)) c' (List.getElem?_eq_getElem _) (List.getElem?_eq_some_iff.mpr ⟨hj, ej⟩)).2) (by rw [List.length_map]; omega) (by decide) (i + 1) cs.length (by omega)
      refine ⟨_, rfl, .inl ⟨rfl, _, .inl (.inl eo)⟩, _, rfl, x, c, rfl, hc.tk (Tk.same s4), oc, fun H5 p s5 np hp => ?_⟩
      refine ⟨o, p, _, _, rfl, rfl, s5 _ _ eo, hp, ?_, _, rfl, Same.over (s4.trans s5) no, ?_⟩
      · rw [← List.length_append, ← List.map_append, List.length_map, ← flat_snoc eb]
        exact Nat.le_trans lp (by decide)
      · rw [upd_same, flat_snoc eb, ← List.map_append]
    · obtain ⟨y2, rfl, s4, eo⟩ := hP
      have e2 : numB cs.length ++ ((cs.map cvB).take xs.length).flatten = chB cs := by
        unfold chB listB
        rw [List.length_map, List.take_of_length_le (by rw [List.length_map]; omega)]
      rw [e2] at eo
      exact ⟨_, rfl, q _ _ s4 no eo⟩
theorem ok_wimage {f C : Addr} {fd : FuncData} (F : Fun K "write_image" "write_image" swrite_image f fd) (T0 : Bl mg) (Dwrite_number : Kn P w K mg base 1 "write_number" ["number"] spNumber) (Dwrite_item : Kn P w K mg base 5 "write_item" ["item"] (spWItem K)) (Sall : Kmt P w K mg base C 1 "all_items" ["self"] (spAll K C)) : FnOk P w K mg base CX0 6 f fd ["commits", "state"] (spWImage K C) := by
  refine F.ok scwrite_image (fun vs H Q E h => ?_) (fun cdv A outer s H vs Q E hr h => ?_)
  · obtain ⟨x, dr, df, ds, dl, Z, R, S, Fb, L, b, c, os, fs, rfl, _⟩ := h
    rfl
  · obtain ⟨x, dr, df, ds, dl, Z, R, S, Fb, L, b, c, os, fs, rfl, st, hb, og, ov, ks, lo, rep, hc, q⟩ := h
    refine ⟨_, (pss_cons (ps_set (i := 2) scwrite_image.nd rfl (.inl rfl) (pe_mt0 Sall hr (pv 1)))
      (pss_cons (ps_set (i := 3) scwrite_image.nd rfl (.inl rfl) (pe_op op_cat (pe_kn Dwrite_number hr (pa_cons (pv 0) pa_nil)) (pe_kn Dwrite_number hr (pa_cons (pe_callB call_len_seq (by rfl) T0.len PySem.boot_len (pa_cons (pv 2) pa_nil)) pa_nil))))
      (pss_cons (ps_for PassesOwn.never rfl (pi_list (pv 2)) (pg_name (i := 4) scwrite_image.nd rfl (.inl rfl)) (pss_one (ps_expr (pe_bm PySem.F.plainAttrs_list PySem.F.slot_list_extend PySem.F.type_list_extend mt_extend (pv 3) (pa_cons (pe_kn Dwrite_item hr (pa_cons (pv 4) pa_nil)) pa_nil)))))
      (pss_one (ps_ret (pv 3)))))), ?_⟩
    obtain ⟨dx, ob⟩ := st.ob
    obtain ⟨bR, bF, bS, bL⟩ := rep.len
    have tg := TabG.of rep og
    refine ⟨_, rfl, x, dx, _, rfl, ob, flds_no _ _ _ _ (by decide +kernel), ?_⟩
    refine ⟨x, dr, df, ds, dl, Z, R, S, Fb, L, b, rfl, st, hb, tg, by omega, by omega, by omega, by omega, fun its p ys fs' ss ls H1 py sy pf sf ps ss' pl sl ee s1 np ep ig => ?_⟩
    have eqt := ee.trans (allE_eq rep ks og.sc py sy pf sf ps ss' pl sl)
    have lits : its.length = os.length := by
      have := congrArg List.length eqt
      rw [List.length_map, List.length_map] at this
      exact this
    have iv : ∀ (i : Nat) (t : Addr × It) (v : Fv), its[i]? = some t → fs[i]? = some v → FvAt K H1 (.ref t.1) v ∧ FvOk v := fun i t v e1 e2 => by
      have h1 : (its.map te)[i]? = some (te t) := by rw [List.getElem?_map, e1]; rfl
      rw [eqt, List.getElem?_map] at h1
      cases e3 : os[i]? with
      | none => rw [e3] at h1; cases h1
      | some u =>
        rw [e3] at h1
        have e4 : te u = te t := Option.some.inj h1
        obtain ⟨g1, g2⟩ := ov.2 i u v e3 e2
        exact ⟨((g1.tk (Tk.same s1)).ier e4).at_ (ig t (List.mem_of_getElem? e1)).at_, g2⟩
    have lf : its.length = fs.length := lits.trans ov.1
    refine ⟨_, rfl, c, rfl, hc, fun H2 p2 s2 np2 ep2 => ?_⟩
    refine ⟨_, rfl, p, _, rfl, .inl (SqL.of (s2 _ _ ep)), fs.length, by rw [irf_len, lf]; rfl, Nat.lt_of_le_of_lt (by omega : fs.length ≤ 40) (by decide), fun H3 p3 s3 np3 ep3 => ?_⟩
    have lc := numB_20 hc
    have ln := numB_len4 (n := fs.length) (by omega)
    refine catI (s3 _ _ ep2) ep3 (by omega) fun H4 o s4 no ho => ?_
    have sm := ((s1.trans s2).trans s3).trans s4
    have no0 : H o = none := Same.free ((s1.trans s2).trans s3) no
    have ep4 := ((s2.trans s3).trans s4) _ _ ep
    refine ⟨_, rfl, p, rfl, ⟨_, SqL.of ep4⟩, for_list (K := K) (a := p) (xs := irf its) (fun i σ H5 => ∃ y4 : Option V, σ = [some (.int (c : Nat)), some (.ref x), some (.ref p), some (.ref o), y4] ∧ Same H H5 ∧ Same H1 H5 ∧ H5 p = some (.lst (irf its)) ∧ H5 o = some (.lst (((numB c ++ numB fs.length) ++ ((fs.map fvB).take i).flatten).map V.int)))
      ⟨none, rfl, sm, (s2.trans s3).trans s4, ep4, by rw [ho]; simp⟩ (fun i σ H5 hi hP => ?_) (fun i y σ H5 hi hP => ?_) (fun σ H5 hP => ?_)⟩
    · obtain ⟨y2, _, _, _, e5, _⟩ := hP
      exact SqL.of e5
    · obtain ⟨y4, rfl, s5, s15, e5, eo⟩ := hP
      obtain ⟨t, et, rfl⟩ := irf_get hi
      have il := (List.getElem?_eq_some_iff.mp et).1
      have ec : fs[i]? = some (fs[i]'(by omega)) := List.getElem?_eq_getElem _
      generalize fs[i]'(by omega) = v at ec
      obtain ⟨hc', oc⟩ := iv i t v et ec
      have eb : (fs.map fvB)[i]? = some (fvB v) := by rw [List.getElem?_map, ec]; rfl
      have lp := flat_pre (xs := fs.map fvB) (b := 4900) (fun y m => by
        obtain ⟨c', mc, e⟩ := List.mem_map.mp m
        obtain ⟨j, hj, ej⟩ := List.mem_iff_getElem.mp mc
        rw [← e]
        exact fvB_len (iv j (its[j]'(by omega)) c' (List.getElem?_eq_getElem _) (List.getElem?_eq_some_iff.mpr ⟨hj, ej⟩)).2) (by rw [List.length_map]; omega) (by decide) (i + 1) fs.length (by omega)
      have po : p ≠ o := ne_of_none ep (Same.free (s2.trans s3) no)
      refine ⟨_, rfl, .inl ⟨rfl, _, .inl (.inl eo)⟩, _, rfl, .ref t.1, v, rfl, hc'.tk (Tk.same s15), oc, fun H6 p6 s6 np6 hp6 => ?_⟩
      refine ⟨o, p6, _, _, rfl, rfl, s6 _ _ eo, hp6, ?_, _, rfl, Same.over (s5.trans s6) no0, Same.over (s15.trans s6) (Same.free (s2.trans s3) no), by rw [upd_ne po]; exact s6 _ _ e5, ?_⟩
      · rw [← List.length_append, ← List.map_append, List.length_map, ← flat_snoc eb, List.append_assoc, List.length_append]
        exact Nat.le_trans (Nat.add_le_add lc lp) (by decide)
      · rw [upd_same, flat_snoc eb, ← List.map_append]
    · obtain ⟨y4, rfl, s5, s15, e5, eo⟩ := hP
      have e2 : (numB c ++ numB fs.length) ++ ((fs.map fvB).take (irf its).length).flatten = imgB c fs := by
        unfold imgB listB
        rw [List.length_map, irf_len, List.take_of_length_le (by rw [List.length_map]; omega), List.append_assoc]
      rw [e2] at eo
      exact ⟨_, rfl, q _ _ s5 no0 eo⟩
end
end K1
namespace K1
open PySem PySem.Spec PyProof.Rows L2 Ow Tlz Bd
abbrev s_law_item_bytes : Stmt := topS 60
abbrev N_law_item_bytes : List Str := ["item", "data", "name"]
theorem sc_law_item_bytes : FnScope N_law_item_bytes ["item"] (defScope s_law_item_bytes) := ⟨rfl, rfl, rfl, by decide +kernel, rfl, by decide +kernel, by decide +kernel⟩
abbrev s_law_change_bytes : Stmt := topS 61
abbrev N_law_change_bytes : List Str := ["change", "sort", "name", "row"]
theorem sc_law_change_bytes : FnScope N_law_change_bytes ["change"] (defScope s_law_change_bytes) := ⟨rfl, rfl, rfl, by decide +kernel, rfl, by decide +kernel, by decide +kernel⟩
section
variable {P : Program} {w : World} {K : PySem.W.Frag} {mg : Str → Option Value} {base : Heap}
theorem w_sl : ¬ decide (V.str "structure" = V.str "layout") = true := by decide +kernel
/-- the names' bytes, as the law puts them together -/
theorem names_read {H : Hp} {ct D : Addr} {cs : List Str} {Qd : Hp → Prop} {te : TE} {σ : L2.St} {vs : List Nat} {g : TG} (h2 : SqT K H ct (cs.map V.str)) (oc : StrsOk cs) (nD : H D = none)
    (hstep : ∀ (z : Str) (H' : Hp) (N : VK), Pr z → z.length ≤ 200 → MkL H' N (strB z) → g (.str z) (wipe σ vs) H' fun σ2 H2 => wipe σ2 vs = wipe σ vs ∧ te σ2 H2 N)
    (q : ∀ (H1 : Hp) (qs : List (Addr × List Int)), Same H H1 → H1 D = some (.lst (refs qs)) → Parts H1 qs → qs.map (·.2) = cs.map strB → Qd H1) :
    ∃ W : Nat → Nat → Hp → Prop, (∃ m, W 0 m (upd H D (.lst []))) ∧ ∀ i m H', W i m H' →
      ((Itt K ct).stop i H' ∧ Qd H') ∨ ((Itt K ct).go i H' ∧ ∃ Nx : Hp → Prop, (∀ H'', Nx H'' → ∃ m', m' < m ∧ W (i + 1) m' H'') ∧ ∀ x H'', (Itt K ct).yld i H' x H'' → g x (wipe σ vs) H'' fun σ2 H2 => wipe σ2 vs = wipe σ vs ∧ tYes σ2 H2 fun b H3 =>
        if b = true then te σ2 H3 fun y H4 => ∃ acc, H4 D = some (.lst acc) ∧ acc.length < sizeLine ∧ Nx (upd H4 D (.lst (acc ++ [y]))) else Nx H3) := by
  have lc := oc.1
  refine lc_parts (walk_tup (K := K) (a := ct) (xs := cs.map V.str)) (fun i => strB (cs.getD i "")) (by rw [List.length_map]; omega) nD (fun H' s' => Tk.same s' _ _ h2) (fun i x H1 H1' N hi s1 yy fin => ?_) fun H1 qs s1 eD p e2 _ => ?_
  · obtain ⟨rfl, ex⟩ := yy
    rw [List.getElem?_map] at ex
    cases ez : cs[i]? with
    | none => rw [ez] at ex; cases ex
    | some z =>
      rw [ez] at ex
      cases ex
      rw [getD_of ez] at fin
      have oz := oc.2 z (List.mem_of_getElem? ez)
      exact hstep z _ N oz.1 oz.2 fin
  · rw [List.length_map, range_map] at e2
    exact q H1 qs s1 eD p e2
theorem names_parts {qs : List (Addr × List Int)} {cs : List Str} (e : qs.map (·.2) = cs.map strB) (oc : StrsOk cs) : qs.length ≤ 300 ∧ (∀ t ∈ qs, t.2.length ≤ 5000) ∧ listB (qs.map (·.2)) = namesB cs := by
  have l := congrArg List.length e
  rw [List.length_map, List.length_map] at l
  have := oc.1
  refine ⟨by omega, fun t m => ?_, by rw [e]; rfl⟩
  have m1 : t.2 ∈ qs.map (·.2) := List.mem_map.mpr ⟨t, m, rfl⟩
  rw [e] at m1
  obtain ⟨z, mz, ez⟩ := List.mem_map.mp m1
  have := strB_len4 (oc.2 z mz)
  rw [← ez]
  omega
theorem ok_litem {f : Addr} {fd : FuncData} (F : Fun K "_law_item_bytes" "_law_item_bytes" s_law_item_bytes f fd) (T0 : Bl mg) (D_law_number : Kn P w K mg base 1 "_law_number" ["number"] spNumber) (D_law_string : Kn P w K mg base 3 "_law_string" ["text"] spString) (D_law_listed : Kn P w K mg base 2 "_law_listed" ["parts"] spListed) (D_law_row_bytes : Kn P w K mg base 5 "_law_row_bytes" ["row"] (spRB K)) : FnOk P w K mg base CX0 6 f fd ["item"] (spWItem K) := by
  refine F.ok sc_law_item_bytes (fun vs H Q E h => ?_) (fun cdv A outer s H vs Q E hr h => ?_)
  · obtain ⟨x, v, rfl, _⟩ := h
    rfl
  · obtain ⟨x, v, rfl, hv, ov, q⟩ := h
    refine ⟨_, (pss_mid (ps_set (i := 1) sc_law_item_bytes.nd rfl (.inl rfl) (pe_op op_cat (pe_lst (pa_cons (pe_dget (hu_of hr) (pe_disp (pps_cons pe_str pe_int (pps_cons pe_str pe_int (pps_cons pe_str pe_int (pps_cons pe_str pe_int pps_nil)))) (by rfl) (by rfl) (fun z => by cases z) (by decide)) (pe_ix ix_tup (pv 0) pe_int (fun _ _ => rfl)) (fun _ _ => rfl)) pa_nil)) (pe_kn D_law_string hr (pa_cons (pe_ix ix_tup (pv 0) pe_int (fun _ _ => rfl)) pa_nil))))
      (pss_cons (ps_if (pt_cmpR op_eq (pe_ix ix_tup (pv 0) pe_int (fun _ _ => rfl)) pe_str (nomark _)) (pss_one (ps_ret (pe_op op_cat (pe_op op_cat (pv 1) (pe_kn D_law_listed hr (pa_cons (pe_lc (own := [("name", 2)]) (g := gName 2) (tt := tYes) rfl sc_law_item_bytes.nd (pi_tup (pe_ix ix_tup (pv 0) pe_int (fun _ _ => rfl))) (blkOk_by (own := [("name", 2)]) (N := N_law_item_bytes) (sc := defScope s_law_item_bytes) (by decide +kernel)) (fun _ _ _ _ _ => pg_name (i := 2) sc_law_item_bytes.nd rfl (Or.inl rfl)) (fun _ _ _ _ _ => pts_nil) (fun _ _ _ _ _ => (pe_kn D_law_string hr (pa_cons (pv 2) pa_nil)))) pa_nil))) (pe_kn D_law_number hr (pa_cons (pe_ix ix_tup (pv 0) pe_int (fun _ _ => rfl)) pa_nil))))) pss_nil)
      (pss_cons (ps_if (pt_cmpR op_eq (pe_ix ix_tup (pv 0) pe_int (fun _ _ => rfl)) pe_str (nomark _)) (pss_one (ps_ret (pe_op op_cat (pv 1) (pe_kn D_law_row_bytes hr (pa_cons (pe_ix ix_tup (pv 0) pe_int (fun _ _ => rfl)) pa_nil))))) pss_nil)
      (pss_cons (ps_if (pt_cmpR op_eq (pe_ix ix_tup (pv 0) pe_int (fun _ _ => rfl)) pe_str (nomark _)) (pss_one (ps_ret (pe_op op_cat (pv 1) (pe_kn D_law_listed hr (pa_cons (pe_lc (own := [("name", 2)]) (g := gName 2) (tt := tYes) rfl sc_law_item_bytes.nd (pi_tup (pe_ix ix_tup (pv 0) pe_int (fun _ _ => rfl))) (blkOk_by (own := [("name", 2)]) (N := N_law_item_bytes) (sc := defScope s_law_item_bytes) (by decide +kernel)) (fun _ _ _ _ _ => pg_name (i := 2) sc_law_item_bytes.nd rfl (Or.inl rfl)) (fun _ _ _ _ _ => pts_nil) (fun _ _ _ _ _ => (pe_kn D_law_string hr (pa_cons (pv 2) pa_nil)))) pa_nil))))) pss_nil)
      (pss_cons (ps_set (i := 1) sc_law_item_bytes.nd rfl (.inl rfl) (pe_op op_cat (pe_op op_cat (pv 1) (pe_kn D_law_string hr (pa_cons (pe_ix ix_tup (pv 0) pe_int (fun _ _ => rfl)) pa_nil))) (pe_kn D_law_listed hr (pa_cons (pe_lc (own := [("name", 2)]) (g := gName 2) (tt := tYes) rfl sc_law_item_bytes.nd (pi_tup (pe_ix ix_tup (pv 0) pe_int (fun _ _ => rfl))) (blkOk_by (own := [("name", 2)]) (N := N_law_item_bytes) (sc := defScope s_law_item_bytes) (by decide +kernel)) (fun _ _ _ _ _ => pg_name (i := 2) sc_law_item_bytes.nd rfl (Or.inl rfl)) (fun _ _ _ _ _ => pts_nil) (fun _ _ _ _ _ => (pe_kn D_law_string hr (pa_cons (pv 2) pa_nil)))) pa_nil))))
      (pss_one (ps_ret (pe_op op_cat (pe_op op_cat (pv 1) (pe_kn D_law_number hr (pa_cons (pe_ix ix_tup (pv 0) pe_int (fun _ _ => rfl)) pa_nil))) (pe_kn D_law_number hr (pa_cons (pe_ix ix_tup (pv 0) pe_int (fun _ _ => rfl)) pa_nil)))))))))), ?_⟩
    obtain ⟨a, rest, rfl, hx⟩ := hv.head
    have on := ov.name
    refine ⟨fun σ' H' => ∃ dp, σ' = [some (.ref a), some (.ref dp), none] ∧ Same H H' ∧ H' dp = some (.lst (((sortOf v : Int) :: strB (nameOf v)).map V.int)), ?_, ?_⟩
    · refine fun t nt => ⟨upd_same, [(Sum.inr "relation", .int 0), (Sum.inr "fact", .int 1), (Sum.inr "structure", .int 2), (Sum.inr "layout", .int 3)], rfl, by decide, ?_⟩
      have s0 : Same H (upd (upd H t (.dK [])) t (.dK sortTab4)) := Same.over (Same.new nt) nt
      refine ⟨_, rfl, a, _, 0, .str (wordOf v), rfl, rfl, Tk.same s0 _ _ hx, at_of (j := 0) rfl rfl, t, .int (sortOf v : Nat), rfl, tab4 v ▸ DGet.k (k := Sum.inr (wordOf v)) upd_same, ?_⟩
      refine ⟨by show 1 ≤ sizeLine; decide, fun l nl => ?_⟩
      obtain ⟨s1, e1⟩ := lstI (xs := [(sortOf v : Int)]) rfl nl
      refine ⟨_, rfl, a, _, 1, .str (nameOf v), rfl, rfl, Tk.same (s0.trans s1) _ _ hx, at_of (j := 1) rfl rfl, nameOf v, rfl, on.1, on.2, fun H2 p s2 np ep => ?_⟩
      refine catI (s2 _ _ e1) ep (by have := strB_len4 on; simp only [List.length_cons, List.length_nil]; omega) fun H3 p3 s3 np3 ep3 => ?_
      exact ⟨p3, rfl, ((s0.trans s1).trans s2).trans s3, ep3⟩
    · rintro σ' H1 ⟨dp, rfl, s1, ed⟩
      have hv1 := hv.tk (Tk.same s1)
      have ln := strB_len4 on
      have lv := fvB_len ov
      cases v with
      | rel n cs r =>
        obtain ⟨a', ct, e, h1, h2⟩ := hv1
        cases e
        obtain ⟨o1, o2, o3⟩ := ov
        have l2 := namesB_len o2
        have l3 := numB_len4 o3
        refine ⟨_, rfl, a, _, 0, _, rfl, rfl, h1, at_of (j := 0) rfl rfl, rfl, _, rfl, ite2 (fun _ => ?_) (fun e => absurd (wT _) e)⟩
        refine ⟨_, rfl, _, rfl, a, _, 2, .ref ct, rfl, rfl, h1, at_of (j := 2) rfl rfl, ct, rfl, ⟨_, h2⟩, fun D nD => ?_⟩
        refine names_read h2 o2 nD (fun z H' N pz lz fin => ⟨rfl, _, rfl, z, rfl, pz, lz, fin⟩) fun H2 qs s2 eD pq e2 => ?_
        obtain ⟨a1, a2, a3⟩ := names_parts e2 o2
        refine ⟨D, qs, rfl, eD, pq, a1, a2, fun H3 p3 s3 np3 ep3 => ?_⟩
        rw [a3] at ep3
        refine catI ((s2.trans s3) _ _ ed) ep3 (by simp only [List.length_cons]; omega) fun H4 p4 s4 np4 ep4 => ?_
        refine ⟨_, rfl, a, _, 3, .int (r : Nat), rfl, rfl, Tk.same ((s2.trans s3).trans s4) _ _ h1, at_of (j := 3) rfl rfl, r, rfl, Nat.lt_of_le_of_lt o3 (by decide), fun H5 p5 s5 np5 ep5 => ?_⟩
        exact catI (s5 _ _ ep4) ep5 (by simp only [List.length_cons, List.length_append]; omega) (MkL.mono ((((s1.trans s2).trans s3).trans s4).trans s5) q)
      | fact n row =>
        obtain ⟨a', ct, e, h1, h2⟩ := hv1
        cases e
        obtain ⟨o1, o2, o3⟩ := ov
        have l2 := rowB_len o2 o3
        refine ⟨_, rfl, a, _, 0, _, rfl, rfl, h1, at_of (j := 0) rfl rfl, rfl, _, rfl, ite2 (fun e => absurd e w_fr) (fun _ => ?_)⟩
        refine ⟨_, rfl, a, _, 0, _, rfl, rfl, h1, at_of (j := 0) rfl rfl, rfl, _, rfl, ite2 (fun _ => ?_) (fun e => absurd (wT _) e)⟩
        refine ⟨_, rfl, _, rfl, a, _, 2, .ref ct, rfl, rfl, h1, at_of (j := 2) rfl rfl, ct, row, rfl, h2, o2, o3, fun H2 p s2 np ep => ?_⟩
        exact catI (s2 _ _ ed) ep (by simp only [List.length_cons]; omega) (MkL.mono (s1.trans s2) q)
      | str n rn cs b z =>
        obtain ⟨a', ct, e, h1, h2⟩ := hv1
        cases e
        obtain ⟨o1, o2, o3, o4, o5⟩ := ov
        have l2 := strB_len4 o2
        have l3 := namesB_len o3
        have l4 := numB_len4 o4
        have l5 := numB_len4 o5
        refine ⟨_, rfl, a, _, 0, _, rfl, rfl, h1, at_of (j := 0) rfl rfl, rfl, _, rfl, ite2 (fun e => absurd e w_sr) (fun _ => ?_)⟩
        refine ⟨_, rfl, a, _, 0, _, rfl, rfl, h1, at_of (j := 0) rfl rfl, rfl, _, rfl, ite2 (fun e => absurd e w_sf) (fun _ => ?_)⟩
        refine ⟨_, rfl, a, _, 0, _, rfl, rfl, h1, at_of (j := 0) rfl rfl, rfl, _, rfl, ite2 (fun e => absurd e w_sl) (fun _ => ?_)⟩
        refine ⟨_, rfl, _, rfl, a, _, 2, .str rn, rfl, rfl, h1, at_of (j := 2) rfl rfl, rn, rfl, o2.1, o2.2, fun H2 p2 s2 np2 ep2 => ?_⟩
        refine catI (s2 _ _ ed) ep2 (by simp only [List.length_cons]; omega) fun H3 p3 s3 np3 ep3 => ?_
        have s13 := s2.trans s3
        refine ⟨_, rfl, a, _, 3, .ref ct, rfl, rfl, Tk.same s13 _ _ h1, at_of (j := 3) rfl rfl, ct, rfl, ⟨_, Tk.same s13 _ _ h2⟩, fun D nD => ?_⟩
        refine names_read (Tk.same s13 _ _ h2) o3 nD (fun z H' N pz lz fin => ⟨rfl, _, rfl, z, rfl, pz, lz, fin⟩) fun H4 qs s4 eD pq e2 => ?_
        obtain ⟨a1, a2, a3⟩ := names_parts e2 o3
        refine ⟨D, qs, rfl, eD, pq, a1, a2, fun H5 p5 s5 np5 ep5 => ?_⟩
        rw [a3] at ep5
        refine catI ((s4.trans s5) _ _ ep3) ep5 (by simp only [List.length_cons, List.length_append]; omega) fun H6 p6 s6 np6 ep6 => ?_
        have s16 := ((s13.trans s4).trans s5).trans s6
        refine ⟨_, rfl, _, rfl, a, _, 4, .int (b : Nat), rfl, rfl, Tk.same s16 _ _ h1, at_of (j := 4) rfl rfl, b, rfl, Nat.lt_of_le_of_lt o4 (by decide), fun H7 p7 s7 np7 ep7 => ?_⟩
        refine catI (s7 _ _ ep6) ep7 (by simp only [List.length_cons, List.length_append]; omega) fun H8 p8 s8 np8 ep8 => ?_
        refine ⟨_, rfl, a, _, 5, .int (z : Nat), rfl, rfl, Tk.same ((s16.trans s7).trans s8) _ _ h1, at_of (j := 5) rfl rfl, z, rfl, Nat.lt_of_le_of_lt o5 (by decide), fun H9 p9 s9 np9 ep9 => ?_⟩
        refine catI (s9 _ _ ep8) ep9 (by simp only [List.length_cons, List.length_append]; omega) ?_
        have q2 := MkL.mono (s1.trans (((s16.trans s7).trans s8).trans s9)) q
        rw [List.append_assoc]
        exact q2
      | lay n cs =>
        obtain ⟨a', ct, e, h1, h2⟩ := hv1
        cases e
        obtain ⟨o1, o2⟩ := ov
        have l2 := namesB_len o2
        refine ⟨_, rfl, a, _, 0, _, rfl, rfl, h1, at_of (j := 0) rfl rfl, rfl, _, rfl, ite2 (fun e => absurd e w_lr) (fun _ => ?_)⟩
        refine ⟨_, rfl, a, _, 0, _, rfl, rfl, h1, at_of (j := 0) rfl rfl, rfl, _, rfl, ite2 (fun e => absurd e w_lf) (fun _ => ?_)⟩
        refine ⟨_, rfl, a, _, 0, _, rfl, rfl, h1, at_of (j := 0) rfl rfl, rfl, _, rfl, ite2 (fun _ => ?_) (fun e => absurd (wT _) e)⟩
        refine ⟨_, rfl, _, rfl, a, _, 2, .ref ct, rfl, rfl, h1, at_of (j := 2) rfl rfl, ct, rfl, ⟨_, h2⟩, fun D nD => ?_⟩
        refine names_read h2 o2 nD (fun z H' N pz lz fin => ⟨rfl, _, rfl, z, rfl, pz, lz, fin⟩) fun H2 qs s2 eD pq e2 => ?_
        obtain ⟨a1, a2, a3⟩ := names_parts e2 o2
        refine ⟨D, qs, rfl, eD, pq, a1, a2, fun H3 p3 s3 np3 ep3 => ?_⟩
        rw [a3] at ep3
        exact catI ((s2.trans s3) _ _ ed) ep3 (by simp only [List.length_cons]; omega) (MkL.mono ((s1.trans s2).trans s3) q)
theorem ok_lchange {f : Addr} {fd : FuncData} (F : Fun K "_law_change_bytes" "_law_change_bytes" s_law_change_bytes f fd) (D_law_string : Kn P w K mg base 3 "_law_string" ["text"] spString) (D_law_item_bytes : Kn P w K mg base 6 "_law_item_bytes" ["item"] (spWItem K)) (D_law_row_bytes : Kn P w K mg base 5 "_law_row_bytes" ["row"] (spRB K)) : FnOk P w K mg base CX0 7 f fd ["change"] (spWChange K) := by
  refine F.ok sc_law_change_bytes (fun vs H Q E h => ?_) (fun cdv A outer s H vs Q E hr h => ?_)
  · obtain ⟨x, v, rfl, _⟩ := h
    rfl
  · obtain ⟨x, v, rfl, hv, ov, q⟩ := h
    refine ⟨_, (pss_cons (ps_if (pt_cmpR op_eq (pe_ix ix_tup (pv 0) pe_int (fun _ _ => rfl)) pe_str (nomark _)) (pss_one (ps_ret (pe_op op_cat (pe_lst (pa_cons pe_int pa_nil)) (pe_kn D_law_item_bytes hr (pa_cons (pe_ix ix_tup (pv 0) pe_int (fun _ _ => rfl)) pa_nil))))) pss_nil)
      (pss_cons (ps_asg (pe_ix ix_tup (pv 0) pe_int (fun _ _ => rfl)) (pg_tup rfl (pgs_cons (pg_name (i := 1) sc_law_change_bytes.nd rfl (.inl rfl)) (pgs_cons (pg_name (i := 2) sc_law_change_bytes.nd rfl (.inl rfl)) (pgs_cons (pg_name (i := 3) sc_law_change_bytes.nd rfl (.inl rfl)) pgs_nil)))))
      (pss_one (ps_ret (pe_op op_cat (pe_op op_cat (pe_lst (pa_cons pe_int (pa_cons (pv 1) pa_nil))) (pe_kn D_law_string hr (pa_cons (pv 2) pa_nil))) (pe_kn D_law_row_bytes hr (pa_cons (pv 3) pa_nil))))))), ?_⟩
    cases v with
    | comes v =>
      obtain ⟨a, y, rfl, h1, h2⟩ := hv
      have lv := fvB_len ov
      refine ⟨_, rfl, a, _, 0, _, rfl, rfl, h1, at_of (j := 0) rfl rfl, rfl, _, rfl, ite2 (fun _ => ?_) (fun e => absurd (wT _) e)⟩
      refine ⟨by show 1 ≤ sizeLine; decide, fun l nl => ?_⟩
      obtain ⟨s1, e1⟩ := lstI (xs := [(0 : Int)]) rfl nl
      refine ⟨_, rfl, a, _, 1, y, rfl, rfl, Tk.same s1 _ _ h1, at_of (j := 1) rfl rfl, y, v, rfl, h2.tk (Tk.same s1), ov, fun H2 p s2 np ep => ?_⟩
      exact catI (s2 _ _ e1) ep (by simp only [List.length_cons, List.length_nil]; omega) (MkL.mono (s1.trans s2) q)
    | goes z n row =>
      obtain ⟨a, k, r, rfl, h1, h2, h3⟩ := hv
      obtain ⟨o0, o1, o2, o3⟩ := ov
      have l1 := strB_len4 o1
      have l2 := rowB_len o2 o3
      refine ⟨_, rfl, a, _, 0, _, rfl, rfl, h1, at_of (j := 0) rfl rfl, rfl, _, rfl, ite2 (fun e => absurd e w_gc) (fun _ => ?_)⟩
      refine ⟨_, rfl, a, _, 1, .ref k, rfl, rfl, h1, at_of (j := 1) rfl rfl, k, _, rfl, h2, rfl, _, _, rfl, _, _, rfl, _, _, rfl, rfl, ?_⟩
      refine ⟨_, rfl, by show 2 ≤ sizeLine; decide, fun l nl => ?_⟩
      obtain ⟨s1, e1⟩ := lstI (xs := [(1 : Int), (z : Int)]) rfl nl
      refine ⟨_, rfl, n, rfl, o1.1, o1.2, fun H2 p s2 np ep => ?_⟩
      refine catI (s2 _ _ e1) ep (by simp only [List.length_cons, List.length_nil]; omega) fun H3 p3 s3 np3 ep3 => ?_
      refine ⟨_, rfl, r, row, rfl, Tk.same ((s1.trans s2).trans s3) _ _ h3, o2, o3, fun H4 p4 s4 np4 ep4 => ?_⟩
      exact catI (s4 _ _ ep3) ep4 (by simp only [List.length_cons, List.length_nil, List.length_append]; omega) (MkL.mono (((s1.trans s2).trans s3).trans s4) q)
end
end K1
namespace K1
open PySem PySem.Spec PyProof.Rows L2 Ow Tlz Bd
abbrev sReader_read_names : Stmt := inClass (topS 34) 8
abbrev NReader_read_names : List Str := ["self", "_"]
theorem scReader_read_names : FnScope NReader_read_names ["self"] (defScope sReader_read_names) := ⟨rfl, rfl, rfl, by decide +kernel, rfl, by decide +kernel, by decide +kernel⟩
abbrev sReader_read_item : Stmt := inClass (topS 34) 11
abbrev NReader_read_item : List Str := ["self", "word", "name", "columns", "relation", "buckets"]
theorem scReader_read_item : FnScope NReader_read_item ["self"] (defScope sReader_read_item) := ⟨rfl, rfl, rfl, by decide +kernel, rfl, by decide +kernel, by decide +kernel⟩
def spRdNames (C : Addr) : Sp := spRd C StrsOk namesB (fun cs v H => ∃ p, v = .ref p ∧ H p = some (.tup (cs.map V.str)))
def spRdItem (K : PySem.W.Frag) (C : Addr) : Sp := spRd C FvOk fvB (fun v x H => FvAt K H x v)
def spRdChange (K : PySem.W.Frag) (C : Addr) : Sp := spRd C CvOk cvB (fun c x H => CvAt K H x c)
def spRdChanges (K : PySem.W.Frag) (C : Addr) : Sp := spRd C (fun cs : List Cv => cs.length ≤ 200 ∧ ∀ c ∈ cs, CvOk c) chB (fun cs x H => ∃ p xs, x = .ref p ∧ H p = some (.lst xs) ∧ ChAt K H xs cs)
theorem RdTk {C : Addr} {K : PySem.W.Frag} {H H' : Hp} {x da : Addr} {ds : List Int} {k : Nat} (R : RdAt C H x da ds k) (g : Gw x H H') : Tk K H H' := by
  obtain ⟨dx, ob⟩ := R.ob
  exact Tk.gwi ob g
def tailB : Fv → List Int
  | .rel _ cs r => namesB cs ++ numB r
  | .fact _ row => rowB row
  | .str _ rn cs b s => strB rn ++ (namesB cs ++ (numB b ++ numB s))
  | .lay _ cs => namesB cs
theorem fvB_split (v : Fv) : fvB v = (sortOf v : Int) :: (strB (nameOf v) ++ tailB v) := by
  cases v <;> simp [fvB, sortOf, nameOf, tailB]
theorem strB_pos (z : Str) : 1 ≤ (strB z).length := by
  unfold strB
  rw [List.length_append]
  have := numB_pos z.length
  omega
theorem flat_pos' {α : Type} {f : α → List Int} (h : ∀ x, 1 ≤ (f x).length) : ∀ xs : List α, xs.length ≤ ((xs.map f).flatten).length
  | [] => Nat.zero_le _
  | x :: xs => by
    have h1 := h x
    have h2 := flat_pos' h xs
    rw [List.map_cons, List.flatten_cons, List.length_append, List.length_cons]
    omega
theorem fvB_pos (v : Fv) : 1 ≤ (fvB v).length := by rw [fvB_split, List.length_cons]; omega
theorem cvB_pos (v : Cv) : 1 ≤ (cvB v).length := by
  cases v
  · show 1 ≤ (0 :: _ : List Int).length
    rw [List.length_cons]
    omega
  · show 1 ≤ (1 :: _ : List Int).length
    rw [List.length_cons]
    omega
section
variable {P : Program} {w : World} {K : PySem.W.Frag} {mg : Str → Option Value} {base : Heap}
theorem ok_rnames {f C : Addr} {fd : FuncData} (F : Fun K "read_names" "Reader.read_names" sReader_read_names f fd) (T0 : Bl mg) (Rstring : Kmt P w K mg base C 5 "read_string" ["self"] (spStr C)) (Rlength : Kmt P w K mg base C 4 "read_length" ["self"] (spLen C)) : FnOk P w K mg base CX0 6 f fd ["self"] (spRdNames C) := by
  refine F.ok scReader_read_names (fun vs H Q E h => ?_) (fun cdv A outer s H vs Q E hr h => ?_)
  · obtain ⟨x, da, ds, k, n, rest, rfl, _⟩ := h
    rfl
  · obtain ⟨x, da, ds, k, xs, rest, rfl, R, ⟨hx, hs⟩, hd, q⟩ := h
    obtain ⟨dx, ob⟩ := R.ob
    have hd' : ds.drop k = numB xs.length ++ ((xs.map strB).flatten ++ rest) := by
      rw [hd]
      unfold namesB listB
      rw [List.length_map, List.append_assoc]
    have fp := flat_pos' strB_pos xs
    refine ⟨_, (pss_one (ps_ret (pe_callTy call_tuple_of (by rfl) T0.tuple (by decide +kernel) (pa_cons (pe_lc (own := [("_", 1)]) (g := gName 1) (tt := tYes) rfl scReader_read_names.nd (pi_range1 (by rfl) T0.range (pa_cons (pe_mt0 Rlength hr (pv 0)) pa_nil)) (blkOk_by (own := [("_", 1)]) (N := NReader_read_names) (sc := defScope sReader_read_names) (by decide +kernel)) (fun _ _ _ _ _ => pg_name (i := 1) scReader_read_names.nd rfl (Or.inl rfl)) (fun _ _ _ _ _ => pts_nil) (fun _ _ _ _ _ => (pe_mt0 Rstring hr (pv 0)))) pa_nil)))), ?_⟩
    refine ⟨_, rfl, x, dx, _, rfl, ob, rfl, x, da, ds, k, xs.length, _, rfl, R, Nat.lt_of_le_of_lt hx (by decide), hd', by rw [List.length_append]; omega, fun H1 R1 g1 => ?_⟩
    have hd1 := drop_enc hd'
    refine ⟨(xs.length : Nat), rfl, by omega, by omega, fun D nD => ?_⟩
    obtain ⟨n1, n2⟩ := RdNew R1 nD
    have oD := g1.free nD n1
    refine lc_it (walk_range (lo := 0) (n := xs.length)) (fun i H' => H' D = some (.lst ((xs.take i).map V.str)) ∧ Gw x H H' ∧ ∃ j, RdAt C H' x da ds j ∧ ds.drop j = ((xs.drop i).map strB).flatten ++ rest ∧ j + (((xs.drop i).map strB).flatten).length = k + (namesB xs).length) ⟨upd_same, g1.trans (Gw.new nD), _, RdUpd R1 n1 n2, hd1, ?_⟩ (fun _ _ _ _ => trivial) (fun i v H3 H3' hi ⟨eD, g3, j, R3, hd3, hl3⟩ yy => ?_) fun H3 ⟨eD, g3, j, R3, hd3, hl3⟩ => ?_
    · unfold namesB listB
      rw [List.length_append, List.length_map, List.drop_zero]
      omega
    · obtain ⟨rfl, rfl⟩ := yy
      obtain ⟨dx3, ob3⟩ := R3.ob
      have ei : xs[i]? = some xs[i] := List.getElem?_eq_getElem hi
      have hdi : ds.drop j = strB xs[i] ++ (((xs.drop (i + 1)).map strB).flatten ++ rest) := by
        rw [hd3, List.drop_eq_getElem_cons hi, List.map_cons, List.flatten_cons, List.append_assoc]
      refine ⟨rfl, _, rfl, x, dx3, _, rfl, ob3, rfl, x, da, ds, j, xs[i], _, rfl, R3, hs _ (List.getElem_mem hi), hdi, fun v H4 R4 g4 o4 => ?_⟩
      obtain rfl : v = .str xs[i] := o4
      refine ⟨_, g4 _ _ n1 eD, ?_, ?_, Gw.over (g3.trans g4) oD, _, RdUpd R4 n1 n2, drop_enc hdi, ?_⟩
      · rw [List.length_map, List.length_take]
        exact small (m := 1000) (by omega) (by decide)
      · rw [upd_same, List.take_succ, ei, List.map_append]
        rfl
      · rw [← hl3, List.drop_eq_getElem_cons hi, List.map_cons, List.flatten_cons, List.length_append]
        omega
    · rw [List.take_length] at eD
      rw [List.drop_length] at hl3
      refine ⟨D, _, rfl, .inl ⟨SqL.of eD, fun t nt => ?_⟩⟩
      have R4 := R3.same (Same.new (o := .tup (xs.map V.str)) nt)
      have ej : j = k + (namesB xs).length := by simpa using hl3
      rw [ej] at R4
      exact q _ _ R4 (g3.trans (Gw.new nt)) ⟨t, rfl, upd_same⟩
theorem ok_ritem {f C sA : Addr} {fd : FuncData} (F : Fun K "read_item" "Reader.read_item" sReader_read_item f fd) (SM : SrtM K mg sA) (gSORTS : mg "SORTS" = some (.ref sA)) (Rchoice : Kmt P w K mg base C 3 "read_choice" ["self", "many"] (spChoice C)) (Rnumber : Kmt P w K mg base C 3 "read_number" ["self"] (spNum C)) (Rstring : Kmt P w K mg base C 5 "read_string" ["self"] (spStr C)) (Rnames : Kmt P w K mg base C 6 "read_names" ["self"] (spRdNames C)) (Rrow : Kmt P w K mg base C 7 "read_row" ["self"] (spRdRow C)) : FnOk P w K mg base CX0 8 f fd ["self"] (spRdItem K C) := by
  refine F.ok scReader_read_item (fun vs H Q E h => ?_) (fun cdv A outer s H vs Q E hr h => ?_)
  · obtain ⟨x, da, ds, k, n, rest, rfl, _⟩ := h
    rfl
  · obtain ⟨x, da, ds, k, v, rest, rfl, R, ov, hd, q⟩ := h
    obtain ⟨dx, ob⟩ := R.ob
    rw [fvB_split, List.cons_append, List.append_assoc] at hd
    have on := ov.name
    have s4 : (sortOf v : Int) < 4 := by cases v <;> simp [sortOf]
    refine ⟨_, (pss_cons (ps_set (i := 1) scReader_read_item.nd rfl (.inl rfl) (pe_ix ix_tup (pe_cls (by rfl) gSORTS) (pe_mt Rchoice hr (pv 0) (pa_cons pe_int pa_nil)) (fun _ _ => rfl)))
      (pss_mid (ps_set (i := 2) scReader_read_item.nd rfl (.inl rfl) (pe_mt0 Rstring hr (pv 0)))
      (pss_cons (ps_if (pt_cmpR op_eq (pv 1) pe_str (nomark _)) (pss_cons (ps_set (i := 3) scReader_read_item.nd rfl (.inl rfl) (pe_mt0 Rnames hr (pv 0)))
      (pss_one (ps_ret (pe_tup (pa_cons (pv 1) (pa_cons (pv 2) (pa_cons (pv 3) (pa_cons (pe_mt0 Rnumber hr (pv 0)) pa_nil)))))))) pss_nil)
      (pss_cons (ps_if (pt_cmpR op_eq (pv 1) pe_str (nomark _)) (pss_one (ps_ret (pe_tup (pa_cons (pv 1) (pa_cons (pv 2) (pa_cons (pe_mt0 Rrow hr (pv 0)) pa_nil)))))) pss_nil)
      (pss_cons (ps_if (pt_cmpR op_eq (pv 1) pe_str (nomark _)) (pss_cons (ps_set (i := 4) scReader_read_item.nd rfl (.inl rfl) (pe_mt0 Rstring hr (pv 0)))
      (pss_cons (ps_set (i := 3) scReader_read_item.nd rfl (.inl rfl) (pe_mt0 Rnames hr (pv 0)))
      (pss_cons (ps_set (i := 5) scReader_read_item.nd rfl (.inl rfl) (pe_mt0 Rnumber hr (pv 0)))
      (pss_one (ps_ret (pe_tup (pa_cons (pv 1) (pa_cons (pv 2) (pa_cons (pv 4) (pa_cons (pv 3) (pa_cons (pv 5) (pa_cons (pe_mt0 Rnumber hr (pv 0)) pa_nil)))))))))))) pss_nil)
      (pss_one (ps_ret (pe_tup (pa_cons (pv 1) (pa_cons (pv 2) (pa_cons (pe_mt0 Rnames hr (pv 0)) pa_nil))))))))))), ?_⟩
    refine ⟨_, rfl, x, dx, _, rfl, ob, rfl, x, da, ds, k, (sortOf v : Int), 4, _, rfl, R, s4, hd, fun H1 R1 g1 => ?_⟩
    refine ⟨sA, _, _, .str (wordOf v), rfl, rfl, SM.sq _, atI_nat (by rw [List.getElem?_map, sort_at]; rfl), ?_⟩
    refine ⟨fun σ' H' => σ' = [some (.ref x), some (.str (wordOf v)), some (.str (nameOf v)), none, none, none] ∧ RdAt C H' x da ds (k + 1 + (strB (nameOf v)).length) ∧ Gw x H H', ?_, ?_⟩
    · obtain ⟨dx1, ob1⟩ := R1.ob
      refine ⟨_, rfl, x, dx1, _, rfl, ob1, rfl, x, da, ds, k + 1, nameOf v, _, rfl, R1, on, (drop_head hd).2.1, fun y H2 R2 g2 o2 => ?_⟩
      obtain rfl : y = .str (nameOf v) := o2
      exact ⟨rfl, R2, g1.trans g2⟩
    · rintro σ' H2 ⟨rfl, R2, g2⟩
      have hd2 : ds.drop (k + 1 + (strB (nameOf v)).length) = tailB v ++ rest := drop_enc (drop_head hd).2.1
      have len : k + (fvB v).length = k + 1 + (strB (nameOf v)).length + (tailB v).length := by rw [fvB_split, List.length_cons, List.length_append]; omega
      obtain ⟨dx2, ob2⟩ := R2.ob
      rw [len] at q
      cases v with
      | rel n cs r =>
        obtain ⟨o1, o2, o3⟩ := ov
        have hd2 : ds.drop (k + 1 + (strB n).length) = namesB cs ++ (numB r ++ rest) := by rw [← List.append_assoc]; exact hd2
        refine ⟨_, rfl, rfl, _, rfl, ite2 (fun _ => ?_) (fun e => absurd (wT _) e)⟩
        refine ⟨_, rfl, x, dx2, _, rfl, ob2, rfl, x, da, ds, _, cs, _, rfl, R2, o2, hd2, fun y H3 R3 g3 o3' => ?_⟩
        obtain ⟨ct, rfl, ect⟩ := o3'
        obtain ⟨dx3, ob3⟩ := R3.ob
        refine ⟨_, rfl, _, rfl, _, rfl, _, rfl, x, dx3, _, rfl, ob3, rfl, x, da, ds, _, r, _, rfl, R3, Nat.lt_of_le_of_lt o3 (by decide), drop_enc hd2, fun y H4 R4 g4 o4 => ?_⟩
        obtain rfl : y = .int (r : Nat) := o4
        refine ⟨by show 4 ≤ sizeLine; decide, fun t nt => ?_⟩
        have st := Same.new (o := .tup [.str "relation", .str n, .ref ct, .int (r : Nat)]) nt
        refine q _ _ ?_ (((g2.trans g3).trans g4).trans (Gw.new nt)) ⟨t, ct, rfl, SqT.of upd_same, Tk.same st _ _ (RdTk R3 g4 _ _ (SqT.of ect))⟩
        have e2 : k + 1 + (strB n).length + (tailB (.rel n cs r)).length = k + 1 + (strB n).length + (namesB cs).length + (numB r).length := by show _ + (namesB cs ++ numB r).length = _; rw [List.length_append]; omega
        show RdAt C _ x da ds (k + 1 + (strB n).length + (tailB (.rel n cs r)).length)
        rw [e2]
        exact R4.same st
      | fact n row =>
        obtain ⟨o1, o2, o3⟩ := ov
        refine ⟨_, rfl, rfl, _, rfl, ite2 (fun e => absurd e w_fr) (fun _ => ?_)⟩
        refine ⟨_, rfl, rfl, _, rfl, ite2 (fun _ => ?_) (fun e => absurd (wT _) e)⟩
        refine ⟨_, rfl, _, rfl, _, rfl, x, dx2, _, rfl, ob2, rfl, x, da, ds, _, row, _, rfl, R2, ⟨o2, o3⟩, hd2, fun y H3 R3 g3 o3' => ?_⟩
        obtain ⟨r, rfl, er⟩ := o3'
        refine ⟨by show 3 ≤ sizeLine; decide, fun t nt => ?_⟩
        have st := Same.new (o := .tup [.str "fact", .str n, .ref r]) nt
        exact q _ _ (R3.same st) ((g2.trans g3).trans (Gw.new nt)) ⟨t, r, rfl, SqT.of upd_same, Tk.same st _ _ (SqT.of er)⟩
      | str n rn cs b z =>
        obtain ⟨o1, o2, o3, o4, o5⟩ := ov
        have hd2 : ds.drop (k + 1 + (strB n).length) = strB rn ++ (namesB cs ++ (numB b ++ (numB z ++ rest))) := by
          rw [← List.append_assoc (numB b), ← List.append_assoc (namesB cs), ← List.append_assoc (strB rn)]
          exact hd2
        refine ⟨_, rfl, rfl, _, rfl, ite2 (fun e => absurd e w_sr) (fun _ => ?_)⟩
        refine ⟨_, rfl, rfl, _, rfl, ite2 (fun e => absurd e w_sf) (fun _ => ?_)⟩
        refine ⟨_, rfl, rfl, _, rfl, ite2 (fun _ => ?_) (fun e => absurd (wT _) e)⟩
        refine ⟨_, rfl, x, dx2, _, rfl, ob2, rfl, x, da, ds, _, rn, _, rfl, R2, o2, hd2, fun y H3 R3 g3 o3' => ?_⟩
        obtain rfl : y = .str rn := o3'
        obtain ⟨dx3, ob3⟩ := R3.ob
        have hd3 := drop_enc hd2
        refine ⟨_, rfl, x, dx3, _, rfl, ob3, rfl, x, da, ds, _, cs, _, rfl, R3, o3, hd3, fun y H4 R4 g4 o4' => ?_⟩
        obtain ⟨ct, rfl, ect⟩ := o4'
        obtain ⟨dx4, ob4⟩ := R4.ob
        have hd4 := drop_enc hd3
        refine ⟨_, rfl, x, dx4, _, rfl, ob4, rfl, x, da, ds, _, b, _, rfl, R4, Nat.lt_of_le_of_lt o4 (by decide), hd4, fun y H5 R5 g5 o5' => ?_⟩
        obtain rfl : y = .int (b : Nat) := o5'
        obtain ⟨dx5, ob5⟩ := R5.ob
        have hd5 := drop_enc hd4
        refine ⟨_, rfl, _, rfl, _, rfl, _, rfl, _, rfl, _, rfl, x, dx5, _, rfl, ob5, rfl, x, da, ds, _, z, _, rfl, R5, Nat.lt_of_le_of_lt o5 (by decide), hd5, fun y H6 R6 g6 o6' => ?_⟩
        obtain rfl : y = .int (z : Nat) := o6'
        refine ⟨by show 6 ≤ sizeLine; decide, fun t nt => ?_⟩
        have st := Same.new (o := .tup [.str "structure", .str n, .str rn, .ref ct, .int (b : Nat), .int (z : Nat)]) nt
        refine q _ _ ?_ (((((g2.trans g3).trans g4).trans g5).trans g6).trans (Gw.new nt)) ⟨t, ct, rfl, SqT.of upd_same, Tk.same st _ _ (RdTk R5 g6 _ _ (RdTk R4 g5 _ _ (SqT.of ect)))⟩
        have e2 : k + 1 + (strB n).length + (tailB (.str n rn cs b z)).length = k + 1 + (strB n).length + (strB rn).length + (namesB cs).length + (numB b).length + (numB z).length := by show _ + (strB rn ++ (namesB cs ++ (numB b ++ numB z))).length = _; simp only [List.length_append]; omega
        show RdAt C _ x da ds (k + 1 + (strB n).length + (tailB (.str n rn cs b z)).length)
        rw [e2]
        exact R6.same st
      | lay n cs =>
        obtain ⟨o1, o2⟩ := ov
        refine ⟨_, rfl, rfl, _, rfl, ite2 (fun e => absurd e w_lr) (fun _ => ?_)⟩
        refine ⟨_, rfl, rfl, _, rfl, ite2 (fun e => absurd e w_lf) (fun _ => ?_)⟩
        refine ⟨_, rfl, rfl, _, rfl, ite2 (fun e => absurd e w_ls) (fun _ => ?_)⟩
        refine ⟨_, rfl, _, rfl, _, rfl, x, dx2, _, rfl, ob2, rfl, x, da, ds, _, cs, _, rfl, R2, o2, hd2, fun y H3 R3 g3 o3' => ?_⟩
        obtain ⟨ct, rfl, ect⟩ := o3'
        refine ⟨by show 3 ≤ sizeLine; decide, fun t nt => ?_⟩
        have st := Same.new (o := .tup [.str "layout", .str n, .ref ct]) nt
        exact q _ _ (R3.same st) ((g2.trans g3).trans (Gw.new nt)) ⟨t, ct, rfl, SqT.of upd_same, Tk.same st _ _ (SqT.of ect)⟩
end
end K1
namespace K1
open PySem PySem.Spec PyProof.Rows L2 Ow Tlz Bd
abbrev sReader_read_change : Stmt := inClass (topS 34) 12
abbrev NReader_read_change : List Str := ["self", "sort", "name"]
theorem scReader_read_change : FnScope NReader_read_change ["self"] (defScope sReader_read_change) := ⟨rfl, rfl, rfl, by decide +kernel, rfl, by decide +kernel, by decide +kernel⟩
abbrev sReader_read_changes : Stmt := inClass (topS 34) 13
abbrev NReader_read_changes : List Str := ["self", "_"]
theorem scReader_read_changes : FnScope NReader_read_changes ["self"] (defScope sReader_read_changes) := ⟨rfl, rfl, rfl, by decide +kernel, rfl, by decide +kernel, by decide +kernel⟩
theorem strs_of {cs : List Str} (h : StrsOk cs) : ∀ x ∈ cs.map V.str, ∃ z, x = .str z ∧ Pr z := fun x m => by
  obtain ⟨z, mz, e⟩ := List.mem_map.mp m
  exact ⟨z, e.symm, (h.2 z mz).1⟩
theorem FvIt.g {K : PySem.W.Frag} {H : Hp} {a : Addr} {i : It} {v : Fv} (g : ItAt K H a i) (h : FvIt K H i v) (o : FvOk v) : ItG K H a i := by
  cases i <;> cases v <;> try exact h.elim
  · obtain ⟨rfl, ct, rfl, h2⟩ := h
    obtain ⟨o1, o2, o3⟩ := o
    exact ⟨g, o1.1, CD.strs h2 (strs_of o2) (by rw [List.length_map]; have := o2.1; omega) (CD.int CD.nil), rfl⟩
  · obtain ⟨rfl, rfl⟩ := h
    exact ⟨g, o.1.1, CD.nil, rfl⟩
  · obtain ⟨rfl, ct, rfl, h2⟩ := h
    obtain ⟨o1, o2, o3, o4⟩ := o
    exact ⟨g, o1.1, CD.str o2.1 (CD.strs h2 (strs_of o3) (by rw [List.length_map]; have := o3.1; omega) (CD.int (CD.int CD.nil))), rfl⟩
  · obtain ⟨rfl, ct, rfl, h2⟩ := h
    obtain ⟨o1, o2⟩ := o
    exact ⟨g, o1.1, CD.strs h2 (strs_of o2) (by rw [List.length_map]; have := o2.1; omega) CD.nil, rfl⟩
theorem fv_item {K : PySem.W.Frag} {H : Hp} {y : V} {v : Fv} (h : FvAt K H y v) (o : FvOk v) : ∃ a i, y = .ref a ∧ ItG K H a i ∧ FvIt K H i v := by
  cases v with
  | rel n cs r =>
    obtain ⟨a, ct, rfl, h1, h2⟩ := h
    exact ⟨a, .rel n _, rfl, FvIt.g (i := .rel n _) (v := .rel n cs r) h1 ⟨rfl, ct, rfl, h2⟩ o, rfl, ct, rfl, h2⟩
  | fact n row =>
    obtain ⟨a, r, rfl, h1, h2⟩ := h
    exact ⟨a, .fact n r row, rfl, FvIt.g (i := .fact n r row) (v := .fact n row) ⟨h1, h2, o.2.1, o.2.2⟩ ⟨rfl, rfl⟩ o, rfl, rfl⟩
  | str n rn cs b s =>
    obtain ⟨a, ct, rfl, h1, h2⟩ := h
    exact ⟨a, .str n _, rfl, FvIt.g (i := .str n _) (v := .str n rn cs b s) h1 ⟨rfl, ct, rfl, h2⟩ o, rfl, ct, rfl, h2⟩
  | lay n cs =>
    obtain ⟨a, ct, rfl, h1, h2⟩ := h
    exact ⟨a, .lay n _, rfl, FvIt.g (i := .lay n (.ref ct)) (v := .lay n cs) h1 ⟨rfl, ct, rfl, h2⟩ o, rfl, ct, rfl, h2⟩
section
variable {P : Program} {w : World} {K : PySem.W.Frag} {mg : Str → Option Value} {base : Heap}
theorem ok_rchange {f C : Addr} {fd : FuncData} (F : Fun K "read_change" "Reader.read_change" sReader_read_change f fd) (Rchoice : Kmt P w K mg base C 3 "read_choice" ["self", "many"] (spChoice C)) (Rstring : Kmt P w K mg base C 5 "read_string" ["self"] (spStr C)) (Rrow : Kmt P w K mg base C 7 "read_row" ["self"] (spRdRow C)) (Ritem : Kmt P w K mg base C 8 "read_item" ["self"] (spRdItem K C)) : FnOk P w K mg base CX0 9 f fd ["self"] (spRdChange K C) := by
  refine F.ok scReader_read_change (fun vs H Q E h => ?_) (fun cdv A outer s H vs Q E hr h => ?_)
  · obtain ⟨x, da, ds, k, n, rest, rfl, _⟩ := h
    rfl
  · obtain ⟨x, da, ds, k, v, rest, rfl, R, ov, hd, q⟩ := h
    obtain ⟨dx, ob⟩ := R.ob
    refine ⟨_, (pss_cons (ps_if (pt_cmpR op_eq (pe_mt Rchoice hr (pv 0) (pa_cons pe_int pa_nil)) pe_int (nomark _)) (pss_one (ps_ret (pe_tup (pa_cons pe_str (pa_cons (pe_mt0 Ritem hr (pv 0)) pa_nil))))) pss_nil)
      (pss_cons (ps_set (i := 1) scReader_read_change.nd rfl (.inl rfl) (pe_mt Rchoice hr (pv 0) (pa_cons pe_int pa_nil)))
      (pss_cons (ps_set (i := 2) scReader_read_change.nd rfl (.inl rfl) (pe_mt0 Rstring hr (pv 0)))
      (pss_one (ps_ret (pe_tup (pa_cons pe_str (pa_cons (pe_tup (pa_cons (pv 1) (pa_cons (pv 2) (pa_cons (pe_mt0 Rrow hr (pv 0)) pa_nil)))) pa_nil)))))))), ?_⟩
    cases v with
    | comes v =>
      have hd' : ds.drop k = (0 : Int) :: (fvB v ++ rest) := hd
      refine ⟨_, rfl, x, dx, _, rfl, ob, rfl, x, da, ds, k, 0, 2, _, rfl, R, by decide, hd', fun H1 R1 g1 => ?_⟩
      obtain ⟨dx1, ob1⟩ := R1.ob
      refine ⟨rfl, _, rfl, ite2 (fun _ => ?_) (fun e => absurd (decide_eq_true rfl) e)⟩
      refine ⟨_, rfl, x, dx1, _, rfl, ob1, rfl, x, da, ds, _, v, _, rfl, R1, ov, (drop_head hd').2.1, fun y H2 R2 g2 o2 => ?_⟩
      refine ⟨by show 2 ≤ sizeLine; decide, fun t nt => ?_⟩
      have st := Same.new (o := .tup [.str "comes", y]) nt
      refine q _ _ ?_ ((g1.trans g2).trans (Gw.new nt)) ⟨t, y, rfl, SqT.of upd_same, FvAt.tk (Tk.same st) o2⟩
      have e2 : k + (cvB (.comes v)).length = k + 1 + (fvB v).length := by show k + (0 :: fvB v).length = _; rw [List.length_cons]; omega
      rw [e2]
      exact R2.same st
    | goes z n row =>
      obtain ⟨o0, o1, o2, o3⟩ := ov
      have hd' : ds.drop k = (1 : Int) :: ((z : Int) :: (strB n ++ (rowB row ++ rest))) := by
        rw [hd]
        show 1 :: (z : Int) :: (strB n ++ rowB row) ++ rest = _
        simp
      refine ⟨_, rfl, x, dx, _, rfl, ob, rfl, x, da, ds, k, 1, 2, _, rfl, R, by decide, hd', fun H1 R1 g1 => ?_⟩
      obtain ⟨dx1, ob1⟩ := R1.ob
      have hd1 := (drop_head hd').2.1
      refine ⟨rfl, _, rfl, ite2 (fun e => absurd e (by decide)) (fun _ => ?_)⟩
      refine ⟨_, rfl, x, dx1, _, rfl, ob1, rfl, x, da, ds, _, (z : Int), 4, _, rfl, R1, by omega, hd1, fun H2 R2 g2 => ?_⟩
      obtain ⟨dx2, ob2⟩ := R2.ob
      have hd2 := (drop_head hd1).2.1
      refine ⟨_, rfl, x, dx2, _, rfl, ob2, rfl, x, da, ds, _, n, _, rfl, R2, o1, hd2, fun y H3 R3 g3 o3' => ?_⟩
      obtain rfl : y = .str n := o3'
      obtain ⟨dx3, ob3⟩ := R3.ob
      have hd3 := drop_enc hd2
      refine ⟨_, rfl, _, rfl, _, rfl, x, dx3, _, rfl, ob3, rfl, x, da, ds, _, row, _, rfl, R3, ⟨o2, o3⟩, hd3, fun y H4 R4 g4 o4 => ?_⟩
      obtain ⟨r, rfl, er⟩ := o4
      refine ⟨by show 3 ≤ sizeLine; decide, fun t nt => ⟨by show 2 ≤ sizeLine; decide, fun u nu => ?_⟩⟩
      have st := Same.new (o := .tup [.int (z : Nat), .str n, .ref r]) nt
      have su := Same.new (o := .tup [.str "goes", .ref t]) nu
      refine q _ _ ?_ (((((g1.trans g2).trans g3).trans g4).trans (Gw.new nt)).trans (Gw.new nu)) ⟨u, t, r, rfl, SqT.of upd_same, SqT.of (su _ _ upd_same), SqT.of (su _ _ (st _ _ er))⟩
      have e2 : k + (cvB (.goes z n row)).length = k + 1 + 1 + (strB n).length + (rowB row).length := by show k + (1 :: (z : Int) :: (strB n ++ rowB row)).length = _; simp only [List.length_cons, List.length_append]; omega
      rw [e2]
      exact (R4.same st).same su
theorem ok_rchanges {f C : Addr} {fd : FuncData} (F : Fun K "read_changes" "Reader.read_changes" sReader_read_changes f fd) (T0 : Bl mg) (Rlength : Kmt P w K mg base C 4 "read_length" ["self"] (spLen C)) (Rchange : Kmt P w K mg base C 9 "read_change" ["self"] (spRdChange K C)) : FnOk P w K mg base CX0 10 f fd ["self"] (spRdChanges K C) := by
  refine F.ok scReader_read_changes (fun vs H Q E h => ?_) (fun cdv A outer s H vs Q E hr h => ?_)
  · obtain ⟨x, da, ds, k, n, rest, rfl, _⟩ := h
    rfl
  · obtain ⟨x, da, ds, k, xs, rest, rfl, R, ⟨hx, hs⟩, hd, q⟩ := h
    obtain ⟨dx, ob⟩ := R.ob
    have hd' : ds.drop k = numB xs.length ++ ((xs.map cvB).flatten ++ rest) := by
      rw [hd]
      unfold chB listB
      rw [List.length_map, List.append_assoc]
    have fp := flat_pos' cvB_pos xs
    refine ⟨_, (pss_one (ps_ret (pe_lc (own := [("_", 1)]) (g := gName 1) (tt := tYes) rfl scReader_read_changes.nd (pi_range1 (by rfl) T0.range (pa_cons (pe_mt0 Rlength hr (pv 0)) pa_nil)) (blkOk_by (own := [("_", 1)]) (N := NReader_read_changes) (sc := defScope sReader_read_changes) (by decide +kernel)) (fun _ _ _ _ _ => pg_name (i := 1) scReader_read_changes.nd rfl (Or.inl rfl)) (fun _ _ _ _ _ => pts_nil) (fun _ _ _ _ _ => (pe_mt0 Rchange hr (pv 0)))))), ?_⟩
    refine ⟨_, rfl, x, dx, _, rfl, ob, rfl, x, da, ds, k, xs.length, _, rfl, R, Nat.lt_of_le_of_lt hx (by decide), hd', by rw [List.length_append]; omega, fun H1 R1 g1 => ?_⟩
    have hd1 := drop_enc hd'
    refine ⟨(xs.length : Nat), rfl, by omega, by omega, fun D nD => ?_⟩
    obtain ⟨n1, n2⟩ := RdNew R1 nD
    have oD := g1.free nD n1
    refine lc_it (walk_range (lo := 0) (n := xs.length)) (fun i H' => Gw x H H' ∧ (∃ ys, H' D = some (.lst ys) ∧ ChAt K H' ys (xs.take i)) ∧ ∃ j, RdAt C H' x da ds j ∧ ds.drop j = ((xs.drop i).map cvB).flatten ++ rest ∧ j + (((xs.drop i).map cvB).flatten).length = k + (chB xs).length) ⟨g1.trans (Gw.new nD), ⟨[], upd_same, rfl, fun i y c e => by simp at e⟩, _, RdUpd R1 n1 n2, hd1, ?_⟩ (fun _ _ _ _ => trivial) (fun i v H3 H3' hi ⟨g3, ⟨ys, eD, ch⟩, j, R3, hd3, hl3⟩ yy => ?_) fun H3 ⟨g3, ⟨ys, eD, ch⟩, j, R3, hd3, hl3⟩ => ?_
    · unfold chB listB
      rw [List.length_append, List.length_map, List.drop_zero]
      omega
    · obtain ⟨rfl, rfl⟩ := yy
      obtain ⟨dx3, ob3⟩ := R3.ob
      have ei : xs[i]? = some xs[i] := List.getElem?_eq_getElem hi
      have hdi : ds.drop j = cvB xs[i] ++ (((xs.drop (i + 1)).map cvB).flatten ++ rest) := by
        rw [hd3, List.drop_eq_getElem_cons hi, List.map_cons, List.flatten_cons, List.append_assoc]
      have oi := hs _ (List.getElem_mem hi)
      refine ⟨rfl, _, rfl, x, dx3, _, rfl, ob3, rfl, x, da, ds, j, xs[i], _, rfl, R3, oi, hdi, fun v H4 R4 g4 o4 => ?_⟩
      have eD4 := g4 _ _ n1 eD
      have lys := ch.1
      rw [List.length_take] at lys
      have tD : Tk K H4 (upd H4 D (.lst (ys ++ [v]))) := Tk.put eD4
      refine ⟨_, eD4, small (m := 1000) (by omega) (by decide), Gw.over (g3.trans g4) oD, ⟨_, upd_same, ?_, fun m y c e1 e2 => ?_⟩, _, RdUpd R4 n1 n2, drop_enc hdi, ?_⟩
      · rw [List.length_append, List.length_take, lys]
        simp only [List.length_cons, List.length_nil]
        omega
      · rw [List.take_succ, ei] at e2
        by_cases z : m < ys.length
        · rw [List.getElem?_append_left z] at e1
          rw [List.getElem?_append_left (by rw [List.length_take]; omega)] at e2
          obtain ⟨c1, c2⟩ := ch.2 m y c e1 e2
          exact ⟨(c1.tk (RdTk R3 g4)).tk tD, c2⟩
        · have hm := (List.getElem?_eq_some_iff.mp e1).1
          rw [List.length_append, List.length_singleton] at hm
          have : m = ys.length := by omega
          subst this
          have a1 : v = y := by simpa using e1
          rw [List.getElem?_append_right (by rw [List.length_take]; omega), List.length_take, lys, Nat.sub_self] at e2
          have a2 : xs[i] = c := by simpa using e2
          subst a1 a2
          exact ⟨o4.tk tD, oi⟩
      · rw [← hl3, List.drop_eq_getElem_cons hi, List.map_cons, List.flatten_cons, List.length_append]
        omega
    · rw [List.take_length] at ch
      rw [List.drop_length] at hl3
      have ej : j = k + (chB xs).length := by simpa using hl3
      rw [ej] at R3
      exact q _ _ R3 g3 ⟨D, ys, rfl, eD, ch⟩
end
end K1
namespace K1
open PySem PySem.Spec PyProof.Rows L2 Ow Tlz Bd
abbrev sReader_read_image : Stmt := inClass (topS 34) 14
abbrev NReader_read_image : List Str := ["self", "commits", "items", "_"]
theorem scReader_read_image : FnScope NReader_read_image ["self"] (defScope sReader_read_image) := ⟨rfl, rfl, rfl, by decide +kernel, rfl, by decide +kernel, by decide +kernel⟩
def spRdImage (K : PySem.W.Frag) (CR C : Addr) : Sp := fun vs H Q _ => ∃ (x da : Addr) (ds : List Int) (k c : Nat) (fs : List Fv) (rest : List Int), vs = [.ref x] ∧ RdAt CR H x da ds k ∧ c < 2 ^ 140 ∧ (∀ v ∈ fs, FvOk v) ∧ fs.length ≤ 40 ∧ ds.drop k = imgB c fs ++ rest ∧
  ∀ (t y dr df dS dl : Addr) (Z : Addr → Prop) (R S : Tb) (F : Fb) (L : List (Str × V)) (its : Its) H', RdAt CR H' x da ds (k + (imgB c fs).length) → Gw x H H' → H' t = some (.tup [.int (c : Nat), .ref y]) → StAt K C Z H' y dr df dS dl R F S L 300 → Rep (plcAll its) R F S L → ItsG K H' its → its.length = fs.length →
    (∀ (i : Nat) (u : Addr × It) (v : Fv), its[i]? = some u → fs[i]? = some v → FvIt K H' u.2 v) → Q (.ref t) H'
section
variable {P : Program} {w : World} {K : PySem.W.Frag} {mg : Str → Option Value} {base : Heap}
theorem ok_rimage {f CR C : Addr} {fd : FuncData} (F0 : Fun K "read_image" "Reader.read_image" sReader_read_image f fd) (T0 : Bl mg) (X : Txt K mg C) (St : Sta P w K mg base C) (Rnumber : Kmt P w K mg base CR 3 "read_number" ["self"] (spNum CR)) (Rlength : Kmt P w K mg base CR 4 "read_length" ["self"] (spLen CR)) (Ritem : Kmt P w K mg base CR 8 "read_item" ["self"] (spRdItem K CR)) : FnOk P w K mg base CX0 9 f fd ["self"] (spRdImage K CR C) := by
  obtain ⟨fI, fdI, a0, dsI, M, GI, GI0, bI, bI0, vI0, hA0⟩ := St.ex
  refine F0.ok scReader_read_image (fun vs H Q E h => ?_) (fun cdv A outer s H vs Q E hr h => ?_)
  · obtain ⟨x, da, ds, k, c, n, rest, rfl, _⟩ := h
    rfl
  · obtain ⟨x, da, ds, k, c, xs, rest, rfl, R, hc, hs, hx, hd, q⟩ := h
    obtain ⟨dx, ob⟩ := R.ob
    have hr7 := hr.mono (show 7 ≤ 8 by decide)
    have hd' : ds.drop k = numB c ++ (numB xs.length ++ ((xs.map fvB).flatten ++ rest)) := by
      rw [hd]
      unfold imgB listB
      rw [List.length_map]
      simp only [List.append_assoc]
    have fp := flat_pos' fvB_pos xs
    refine ⟨_, (pss_cons (ps_set (i := 1) scReader_read_image.nd rfl (.inl rfl) (pe_mt0 Rnumber hr (pv 0)))
      (pss_cons (ps_setLc (i := 2) (own := [("_", 3)]) (g := gName 3) (tt := tYes) rfl scReader_read_image.nd rfl rfl (sw_true rfl rfl rfl (by decide +kernel)) (pi_range1 (by rfl) T0.range (pa_cons (pe_mt0 Rlength hr (pv 0)) pa_nil)) (blkOk_by (own := [("_", 3)]) (N := NReader_read_image) (sc := defScope sReader_read_image) (by decide +kernel)) (fun _ _ _ _ _ => pg_name (i := 3) scReader_read_image.nd rfl (Or.inl rfl)) (fun _ _ _ _ _ => pts_nil) (fun _ _ _ _ _ => (pe_mt0 Ritem hr (pv 0))))
      (pss_one (ps_ret (pe_tup (pa_cons (pv 1) (pa_cons (pe_make M GI hr7 (by rfl) X.mgC bI .nil pass0 (pa_cons (pv 2) pa_nil)) pa_nil))))))), ?_⟩
    refine ⟨_, rfl, x, dx, _, rfl, ob, rfl, x, da, ds, k, c, _, rfl, R, hc, hd', fun y H0 R0 g0 o0 => ?_⟩
    obtain rfl : y = .int (c : Nat) := o0
    have hd0 := drop_enc hd'
    obtain ⟨dx0, ob0⟩ := R0.ob
    refine ⟨_, rfl, x, dx0, _, rfl, ob0, rfl, x, da, ds, _, xs.length, _, rfl, R0, Nat.lt_of_le_of_lt hx (by decide), hd0, by rw [List.length_append]; omega, fun H1 R1 g1 => ?_⟩
    have g1 := g0.trans g1
    have hd1 := drop_enc hd0
    refine ⟨(xs.length : Nat), rfl, by omega, by omega, fun D nD => ?_⟩
    obtain ⟨n1, n2⟩ := RdNew R1 nD
    have oD := g1.free nD n1
    refine lc_it (walk_range (lo := 0) (n := xs.length)) (fun i H' => Gw x H H' ∧ (∃ its : Its, H' D = some (.lst (irf its)) ∧ its.length = i ∧ ItsG K H' its ∧ ∀ (j : Nat) (u : Addr × It) (v : Fv), its[j]? = some u → xs[j]? = some v → FvIt K H' u.2 v) ∧ ∃ j, RdAt CR H' x da ds j ∧ ds.drop j = ((xs.drop i).map fvB).flatten ++ rest ∧ j + (((xs.drop i).map fvB).flatten).length = k + (imgB c xs).length) ⟨g1.trans (Gw.new nD), ⟨[], upd_same, rfl, (fun _ m => nomatch m), fun i y c e => by simp at e⟩, _, RdUpd R1 n1 n2, hd1, ?_⟩ (fun _ _ _ _ => trivial) (fun i v H3 H3' hi ⟨g3, ⟨its, eD, li, ig, iv⟩, j, R3, hd3, hl3⟩ yy => ?_) fun H3 ⟨g3, ⟨its, eD, li, ig, iv⟩, j, R3, hd3, hl3⟩ => ?_
    · unfold imgB listB
      rw [List.length_append, List.length_append, List.length_map, List.drop_zero]
      omega
    · obtain ⟨rfl, rfl⟩ := yy
      obtain ⟨dx3, ob3⟩ := R3.ob
      have ei : xs[i]? = some xs[i] := List.getElem?_eq_getElem hi
      have hdi : ds.drop j = fvB xs[i] ++ (((xs.drop (i + 1)).map fvB).flatten ++ rest) := by
        rw [hd3, List.drop_eq_getElem_cons hi, List.map_cons, List.flatten_cons, List.append_assoc]
      have oi := hs _ (List.getElem_mem hi)
      refine ⟨rfl, _, rfl, x, dx3, _, rfl, ob3, rfl, x, da, ds, j, xs[i], _, rfl, R3, oi, hdi, fun v H4 R4 g4 o4 => ?_⟩
      obtain ⟨a, it, rfl, gi, vi⟩ := fv_item o4 oi
      have eD4 := g4 _ _ n1 eD
      have tD : Tk K H4 (upd H4 D (.lst (irf its ++ [.ref a]))) := Tk.put eD4
      refine ⟨_, eD4, by rw [irf_len]; exact small (m := 1000) (by omega) (by decide), Gw.over (g3.trans g4) oD, ⟨its ++ [(a, it)], by rw [upd_same, irf_app]; rfl, by rw [List.length_append, li]; rfl, ((ig.tk (RdTk R3 g4)).tk tD).app (ItsG.one (t := (a, it)) (gi.tk tD)), fun m u w e1 e2 => ?_⟩, _, RdUpd R4 n1 n2, drop_enc hdi, ?_⟩
      · by_cases z : m < its.length
        · rw [List.getElem?_append_left z] at e1
          exact ((iv m u w e1 e2).tk (RdTk R3 g4)).tk tD
        · have hm := (List.getElem?_eq_some_iff.mp e1).1
          rw [List.length_append, List.length_singleton] at hm
          have : m = its.length := by omega
          subst this
          have a1 : (a, it) = u := by simpa using e1
          rw [li, ei] at e2
          cases e2
          subst a1
          exact vi.tk tD
      · rw [← hl3, List.drop_eq_getElem_cons hi, List.map_cons, List.flatten_cons, List.length_append]
        omega
    · rw [List.drop_length] at hl3
      have ej : j = k + (imgB c xs).length := by simpa using hl3
      rw [ej] at R3
      refine ⟨_, rfl, _, rfl, fun y dy ny ndy ney => ?_⟩
      have sm := same_make (C := C) ny ndy
      refine ⟨y, D, dy, its, rfl, upd_same, SqL.of (sm _ _ eD), fun t m => ((ig t m).same sm).at_, by omega, fun er ef es eL R' S' F' L' H6 st6 pu gw6 => ⟨rfl, ?_⟩⟩
      have s6 := same_made ny ndy gw6
      refine ⟨by show 2 ≤ sizeLine; decide, fun t nt => ?_⟩
      have st := Same.new (o := .tup [.int (c : Nat), .ref y]) nt
      have rep := pu.rep its rfl ig.sc
      exact q t y er ef es eL _ R' S' F' L' its _ ((R3.same s6).same st) ((g3.trans (Gw.same s6)).trans (Gw.same st)) upd_same (st6.same st) rep ((ig.same s6).same st) li (fun i u v e1 e2 => (iv i u v e1 e2).tk (Tk.same (s6.trans st)))
end
end K1
namespace K1
open PySem PySem.Spec PyProof.Rows L2 Ow Tlz Bd
/-! two rows of items that tell the same values -/
def Tw (K : PySem.W.Frag) (H : Hp) (t u : Addr × It) : Prop := ∃ v, FvOk v ∧ FvIt K H t.2 v ∧ FvIt K H u.2 v
inductive Twl (K : PySem.W.Frag) (H : Hp) : Its → Its → Prop
  | nil : Twl K H [] []
  | cons {t u : Addr × It} {ts us : Its} : Tw K H t u → Twl K H ts us → Twl K H (t :: ts) (u :: us)
section
variable {K : PySem.W.Frag} {H : Hp}
theorem Tw.tk {H' : Hp} {t u : Addr × It} (k : Tk K H H') (h : Tw K H t u) : Tw K H' t u := by
  obtain ⟨v, o, a, b⟩ := h
  exact ⟨v, o, a.tk k, b.tk k⟩
theorem Tw.symm {t u : Addr × It} (h : Tw K H t u) : Tw K H u t := by
  obtain ⟨v, o, a, b⟩ := h
  exact ⟨v, o, b, a⟩
theorem Twl.tk {H' : Hp} {ts us : Its} (k : Tk K H H') (h : Twl K H ts us) : Twl K H' ts us := by
  induction h with
  | nil => exact .nil
  | cons a _ ih => exact .cons (a.tk k) ih
theorem Twl.symm {ts us : Its} (h : Twl K H ts us) : Twl K H us ts := by
  induction h with
  | nil => exact .nil
  | cons a _ ih => exact .cons a.symm ih
theorem Twl.len {ts us : Its} (h : Twl K H ts us) : ts.length = us.length := by
  induction h with
  | nil => rfl
  | cons _ _ ih => rw [List.length_cons, List.length_cons, ih]
theorem Twl.mem {ts us : Its} (h : Twl K H ts us) {u : Addr × It} (m : u ∈ us) : ∃ t ∈ ts, Tw K H t u := by
  induction h with
  | nil => cases m
  | cons a _ ih =>
    rcases List.mem_cons.mp m with z | m
    · rw [z]; exact ⟨_, List.mem_cons_self, a⟩
    · obtain ⟨t, mt, g⟩ := ih m
      exact ⟨t, List.mem_cons_of_mem _ mt, g⟩
theorem Twl.of : ∀ {ts us : Its} {fs : List Fv}, ItsV K H us fs → ts.length = us.length → (∀ (i : Nat) (t : Addr × It) (v : Fv), ts[i]? = some t → fs[i]? = some v → FvIt K H t.2 v) → Twl K H ts us
  | [], [], _, _, _, _ => .nil
  | [], _ :: _, _, _, l, _ => by cases l
  | _ :: _, [], _, _, l, _ => by cases l
  | t :: ts, u :: us, fs, ⟨l2, g⟩, l, h => by
    cases fs with
    | nil => cases l2
    | cons v fs =>
      obtain ⟨a, b⟩ := g 0 u v rfl rfl
      exact .cons ⟨v, b, h 0 t v rfl rfl, a⟩ (Twl.of (fs := fs) ⟨Nat.succ.inj l2, fun i t' v' e f => g (i + 1) t' v' e f⟩ (Nat.succ.inj l) fun i t' v' e f => h (i + 1) t' v' e f)
theorem FvIt.key {i j : It} {v : Fv} (h : FvIt K H i v) (g : FvIt K H j v) : (K1.ier i).1 = (K1.ier j).1 ∧ (K1.ier i).2.1 = (K1.ier j).2.1 ∧ (K1.ier i).2.2.1 = (K1.ier j).2.2.1 := by
  cases i <;> cases v <;> (try exact h.elim) <;> cases j <;> (try exact g.elim)
  · exact ⟨rfl, h.1.trans g.1.symm, rfl⟩
  · exact ⟨rfl, h.1.trans g.1.symm, h.2.trans g.2.symm⟩
  · exact ⟨rfl, h.1.trans g.1.symm, rfl⟩
  · exact ⟨rfl, h.1.trans g.1.symm, rfl⟩
theorem Tw.ord {t u t' u' : Addr × It} (h : Tw K H t u) (g : Tw K H t' u') : tOrd (te t) (te t') = tOrd (te u) (te u') := by
  obtain ⟨v, _, a, b⟩ := h
  obtain ⟨v', _, a', b'⟩ := g
  obtain ⟨e1, e2, e3⟩ := a.key b
  obtain ⟨f1, f2, f3⟩ := a'.key b'
  unfold tOrd te
  rw [e1, e2, e3, f1, f2, f3]
theorem Twl.filter {P Q : Addr × It → Bool} {ts us : Its} (h : Twl K H ts us) (e : ∀ t u, Tw K H t u → P t = Q u) : Twl K H (ts.filter P) (us.filter Q) := by
  induction h with
  | nil => exact .nil
  | cons a _ ih =>
    rw [List.filter_cons, List.filter_cons, e _ _ a]
    split
    · exact .cons a ih
    · exact ih
theorem Twl.count {P Q : Addr × It → Bool} {ts us : Its} (h : Twl K H ts us) (e : ∀ t u, Tw K H t u → P t = Q u) : ts.countP P = us.countP Q := by
  induction h with
  | nil => rfl
  | cons a _ ih => rw [List.countP_cons, List.countP_cons, e _ _ a, ih]
theorem Twl.take {ts us : Its} (h : Twl K H ts us) : ∀ n, Twl K H (ts.take n) (us.take n) := by
  induction h with
  | nil => intro n; rw [List.take_nil]; exact .nil
  | cons a _ ih =>
    intro n
    cases n with
    | zero => exact .nil
    | succ n => exact .cons a (ih n)
theorem Twl.drop {ts us : Its} (h : Twl K H ts us) : ∀ n, Twl K H (ts.drop n) (us.drop n) := by
  induction h with
  | nil => intro n; rw [List.drop_nil]; exact .nil
  | cons a b ih =>
    intro n
    cases n with
    | zero => exact .cons a b
    | succ n => exact ih n
theorem Twl.app {ts us ts' us' : Its} (h : Twl K H ts us) (g : Twl K H ts' us') : Twl K H (ts ++ ts') (us ++ us') := by
  induction h with
  | nil => exact g
  | cons a _ ih => exact .cons a ih
theorem Twl.plc {ts us : Its} {t u : Addr × It} (h : Twl K H ts us) (g : Tw K H t u) : Twl K H (plc ts t) (plc us u) := by
  unfold K1.plc
  rw [h.count (P := fun x => decide (tOrd (te x) (te t) < 0)) (Q := fun x => decide (tOrd (te x) (te u) < 0)) fun a b w => by rw [w.ord g]]
  have f := h.filter (P := fun x => decide (tOrd (te x) (te t) ≠ 0)) (Q := fun x => decide (tOrd (te x) (te u) ≠ 0)) fun a b w => by rw [w.ord g]
  exact ((f.take _).app (.cons g .nil)).app (f.drop _)
theorem Twl.foldl {ts us : Its} (h : Twl K H ts us) : ∀ {os os' : Its}, Twl K H os os' → Twl K H (ts.foldl K1.plc os) (us.foldl K1.plc os') := by
  induction h with
  | nil => exact fun g => g
  | cons a _ ih => exact fun g => ih (g.plc a)
theorem Twl.plcAll {ts us : Its} (h : Twl K H ts us) : Twl K H (K1.plcAll ts) (K1.plcAll us) := h.foldl .nil
theorem Twl.te : ∀ {is ts us : Its}, is.map te = ts.map te → Twl K H ts us → Twl K H is us
  | [], _, _, e, .nil => .nil
  | _ :: _, _, _, e, .nil => by cases e
  | [], _, _, e, .cons _ _ => by cases e
  | i :: is, _, _, e, .cons ⟨v, o, a, b⟩ h => by
    rw [List.map_cons, List.map_cons] at e
    exact .cons ⟨v, o, a.ier (List.cons.inj e).1.symm, b⟩ (Twl.te (List.cons.inj e).2 h)
/-! the data of an item by its value -/
def fvD : Fv → List PyData
  | .rel _ cs r => [.tuple (cs.map PyData.str), .int (r : Nat)]
  | .fact _ _ => []
  | .str _ rn cs b s => [.str rn, .tuple (cs.map PyData.str), .int (b : Nat), .int (s : Nat)]
  | .lay _ cs => [.tuple (cs.map PyData.str)]
theorem strD : ∀ cs : List Str, DpAll K H (cs.map V.str) (cs.map PyData.str)
  | [] => .nil
  | c :: cs => .cons (.str c) (strD cs)
theorem FvIt.dp {i : It} {v : Fv} (h : FvIt K H i v) : DpAll K H (cnt i) (fvD v) := by
  cases i <;> cases v <;> (try exact h.elim)
  · obtain ⟨_, ct, rfl, h2⟩ := h
    exact .cons (.tup h2 (strD _)) (.cons (.int _) .nil)
  · exact .nil
  · obtain ⟨_, ct, rfl, h2⟩ := h
    exact .cons (.str _) (.cons (.tup h2 (strD _)) (.cons (.int _) (.cons (.int _) .nil)))
  · obtain ⟨_, ct, rfl, h2⟩ := h
    exact .cons (.tup h2 (strD _)) .nil
theorem strs_gd {cs : List Str} (h : StrsOk cs) : Gd 1 (.tuple (cs.map PyData.str)) := Gd.tup (by rw [List.length_map]; have := h.1; omega) fun d m => by
  obtain ⟨z, mz, rfl⟩ := List.mem_map.mp m
  exact Gd.str (h.2 z mz).1
theorem fvD_gd {v : Fv} (o : FvOk v) : (∀ d ∈ fvD v, Gd 1 d) ∧ (fvD v).length ≤ 10 := by
  cases v with
  | rel n cs r =>
    refine ⟨fun d m => ?_, by show 2 ≤ 10; decide⟩
    simp only [fvD, List.mem_cons, List.not_mem_nil, or_false] at m
    rcases m with z | z <;> rw [z]
    · exact strs_gd o.2.1
    · exact (Gd.int _).up (by omega)
  | fact n row => exact ⟨fun d m => (by cases m), Nat.zero_le _⟩
  | str n rn cs b s =>
    refine ⟨fun d m => ?_, by show 4 ≤ 10; decide⟩
    simp only [fvD, List.mem_cons, List.not_mem_nil, or_false] at m
    rcases m with z | z | z | z <;> rw [z]
    · exact (Gd.str o.2.1.1).up (by omega)
    · exact strs_gd o.2.2.1
    · exact (Gd.int _).up (by omega)
    · exact (Gd.int _).up (by omega)
  | lay n cs =>
    refine ⟨fun d m => ?_, by show 1 ≤ 10; decide⟩
    simp only [fvD, List.mem_cons, List.not_mem_nil, or_false] at m
    rw [m]
    exact strs_gd o.2
theorem tw_data {a b : Addr} {i j : It} {v : Fv} (h : ItAt K H a i) (g : ItAt K H b j) (o : FvOk v) (hi : FvIt K H i v) (hj : FvIt K H j v) : ∃ d, Dp K H (.ref a) d ∧ Dp K H (.ref b) d ∧ Gd 2 d := by
  have pw : ∀ w : String, (w = "relation" ∨ w = "fact" ∨ w = "structure" ∨ w = "layout") → Pr (PySem.Str.ofString w) := fun w hw => by
    rcases hw with rfl | rfl | rfl | rfl <;> decide +kernel
  have d1 := hi.dp
  have d2 := hj.dp
  obtain ⟨gd, gl⟩ := fvD_gd o
  have two : ∀ {w n : Str} {ds : List PyData}, Pr w → Pr n → (∀ d ∈ ds, Gd 1 d) → ds.length ≤ 10 → Gd 2 (.tuple (.str w :: .str n :: ds)) := fun {w n ds} p1 p2 h l => by
    refine Gd.tup (k := 1) (by rw [List.length_cons, List.length_cons]; omega) fun d m => ?_
    rcases List.mem_cons.mp m with z | m
    · rw [z]; exact (Gd.str p1).up (by omega)
    · rcases List.mem_cons.mp m with z | m
      · rw [z]; exact (Gd.str p2).up (by omega)
      · exact h d m
  cases v with
  | rel n cs r =>
    cases i <;> (try exact hi.elim)
    cases j <;> (try exact hj.elim)
    obtain ⟨rfl, _⟩ := hi
    obtain ⟨rfl, _⟩ := hj
    exact ⟨_, .tup h (.cons (.str _) (.cons (.str _) d1)), .tup g (.cons (.str _) (.cons (.str _) d2)), two (pw "relation" (.inl rfl)) o.1.1 gd gl⟩
  | str n rn cs b s =>
    cases i <;> (try exact hi.elim)
    cases j <;> (try exact hj.elim)
    obtain ⟨rfl, _⟩ := hi
    obtain ⟨rfl, _⟩ := hj
    exact ⟨_, .tup h (.cons (.str _) (.cons (.str _) d1)), .tup g (.cons (.str _) (.cons (.str _) d2)), two (pw "structure" (.inr (.inr (.inl rfl)))) o.1.1 gd gl⟩
  | lay n cs =>
    cases i <;> (try exact hi.elim)
    cases j <;> (try exact hj.elim)
    obtain ⟨rfl, _⟩ := hi
    obtain ⟨rfl, _⟩ := hj
    exact ⟨_, .tup h (.cons (.str _) (.cons (.str _) d1)), .tup g (.cons (.str _) (.cons (.str _) d2)), two (pw "layout" (.inr (.inr (.inr rfl)))) o.1.1 gd gl⟩
  | fact n row =>
    cases i <;> (try exact hi.elim)
    cases j <;> (try exact hj.elim)
    obtain ⟨rfl, rfl⟩ := hi
    obtain ⟨rfl, rfl⟩ := hj
    obtain ⟨h1, h2, h3, h4⟩ := h
    obtain ⟨g1, g2, _, _⟩ := g
    refine ⟨.tuple [.str "fact", .str _, rowD _], .tup h1 (.cons (.str _) (.cons (.str _) (.cons (.tup h2 (sc_dp h3)) .nil))), .tup g1 (.cons (.str _) (.cons (.str _) (.cons (.tup g2 (sc_dp h3)) .nil))), ?_⟩
    refine Gd.tup (by show 3 ≤ 1000; decide) fun d m => ?_
    simp only [List.mem_cons, List.not_mem_nil, or_false] at m
    rcases m with z | z | z
    · rw [z]; exact (Gd.str (pw "fact" (.inr (.inl rfl)))).up (by omega)
    · rw [z]; exact (Gd.str o.1.1).up (by omega)
    · rw [z]; exact Gd.row h3 (by omega)
theorem Twl.data {ts us : Its} (h : Twl K H ts us) : ItsG K H ts → ItsG K H us → ∃ ds, DpAll K H (irf ts) ds ∧ DpAll K H (irf us) ds ∧ ∀ d ∈ ds, Gd 2 d := by
  induction h with
  | nil => exact fun _ _ => ⟨[], .nil, .nil, fun _ m => nomatch m⟩
  | @cons t u ts us a _ ih =>
    intro g1 g2
    obtain ⟨ds, a1, a2, a3⟩ := ih (fun x m => g1 x (List.mem_cons_of_mem _ m)) (fun x m => g2 x (List.mem_cons_of_mem _ m))
    obtain ⟨v, o, b1, b2⟩ := a
    obtain ⟨d, p, q, r⟩ := tw_data (g1 t List.mem_cons_self).at_ (g2 u List.mem_cons_self).at_ o b1 b2
    refine ⟨d :: ds, .cons p a1, .cons q a2, fun x m => ?_⟩
    rcases List.mem_cons.mp m with z | m
    · rw [z]; exact r
    · exact a3 x m
/-! tables that tell the same values -/
theorem some_of {β : Type} {T : List (Str × β)} {n : Str} {P : β → Prop} (h : ∀ b, valG T n = some b → P b) (g : (∃ b, P b) → ∃ b, valG T n = some b) : (valG T n).isSome = true ↔ ∃ b, P b := by
  refine ⟨fun e => ?_, fun w => ?_⟩
  · cases z : valG T n with
    | none => rw [z] at e; cases e
    | some b => exact ⟨b, h b z⟩
  · obtain ⟨b, e⟩ := g w
    rw [e]
    rfl
variable {os os2 : Its} {R S R' S' : Tb} {F F' : Fb} {L L' : List (Str × V)}
theorem Twl.hasR (t : Twl K H os2 os) {n : Str} {c : List V} (h : Has os (.rel n c)) : ∃ c2, Has os2 (.rel n c2) ∧ ∃ v, FvOk v ∧ DpAll K H c2 (fvD v) ∧ DpAll K H c (fvD v) := by
  obtain ⟨a, m⟩ := h
  obtain ⟨⟨b, j⟩, mj, v, o, h1, h2⟩ := t.mem m
  have d1 := h1.dp
  have d2 := h2.dp
  cases v <;> (try exact h2.elim)
  cases j <;> (try exact h1.elim)
  obtain ⟨rfl, _⟩ := h1
  obtain ⟨rfl, _⟩ := h2
  exact ⟨_, ⟨b, mj⟩, _, o, d1, d2⟩
theorem Twl.hasS (t : Twl K H os2 os) {n : Str} {c : List V} (h : Has os (.str n c)) : ∃ c2, Has os2 (.str n c2) ∧ ∃ v, FvOk v ∧ DpAll K H c2 (fvD v) ∧ DpAll K H c (fvD v) := by
  obtain ⟨a, m⟩ := h
  obtain ⟨⟨b, j⟩, mj, v, o, h1, h2⟩ := t.mem m
  have d1 := h1.dp
  have d2 := h2.dp
  cases v <;> (try exact h2.elim)
  cases j <;> (try exact h1.elim)
  obtain ⟨rfl, _⟩ := h1
  obtain ⟨rfl, _⟩ := h2
  exact ⟨_, ⟨b, mj⟩, _, o, d1, d2⟩
theorem Twl.hasL (t : Twl K H os2 os) {n : Str} {c : V} (h : Has os (.lay n c)) : ∃ c2, Has os2 (.lay n c2) ∧ ∃ d, Gd 1 d ∧ Dp K H c2 d ∧ Dp K H c d := by
  obtain ⟨a, m⟩ := h
  obtain ⟨⟨b, j⟩, mj, v, o, h1, h2⟩ := t.mem m
  cases v <;> (try exact h2.elim)
  cases j <;> (try exact h1.elim)
  obtain ⟨rfl, ct, rfl, e1⟩ := h1
  obtain ⟨rfl, ct2, rfl, e2⟩ := h2
  exact ⟨_, ⟨b, mj⟩, _, strs_gd o.2, .tup e1 (strD _), .tup e2 (strD _)⟩
theorem Twl.hasF (t : Twl K H os2 os) {n : Str} {row : List V} (h : ∃ r, Has os (.fact n r row)) : ∃ r, Has os2 (.fact n r row) := by
  obtain ⟨r, a, m⟩ := h
  obtain ⟨⟨b, j⟩, mj, v, o, h1, h2⟩ := t.mem m
  cases v <;> (try exact h2.elim)
  cases j <;> (try exact h1.elim)
  obtain ⟨rfl, rfl⟩ := h1
  obtain ⟨rfl, rfl⟩ := h2
  exact ⟨_, b, mj⟩
theorem Twl.eqR (t : Twl K H os2 os) (h : Rep os2 R F S L) (h' : Rep os R' F' S' L') : R.length = R'.length ∧ ∀ n q c, valG R' n = some (q, c) → ∃ q' c' v, valG R n = some (q', c') ∧ FvOk v ∧ DpAll K H c' (fvD v) ∧ DpAll K H c (fvD v) := by
  have key : ∀ n q c, valG R' n = some (q, c) → ∃ q' c' v, valG R n = some (q', c') ∧ FvOk v ∧ DpAll K H c' (fvD v) ∧ DpAll K H c (fvD v) := fun n q c e => by
    obtain ⟨c2, h2, v, o, d1, d2⟩ := t.hasR ((h'.r n c).mp ⟨q, e⟩)
    obtain ⟨q2, e2⟩ := (h.r n c2).mpr h2
    exact ⟨q2, c2, v, e2, o, d1, d2⟩
  have key2 : ∀ n q c, valG R n = some (q, c) → ∃ b, valG R' n = some b := fun n q c e => by
    obtain ⟨c2, h2, _⟩ := t.symm.hasR ((h.r n c).mp ⟨q, e⟩)
    obtain ⟨q2, e2⟩ := (h'.r n c2).mpr h2
    exact ⟨_, e2⟩
  refine ⟨keys_len h.rn h'.rn fun n => ?_, key⟩
  cases e : valG R n with
  | none =>
    cases e' : valG R' n with
    | none => rfl
    | some b =>
      obtain ⟨q', c', v, z, _⟩ := key n b.1 b.2 e'
      rw [e] at z
      cases z
  | some b =>
    obtain ⟨b', z⟩ := key2 n b.1 b.2 e
    rw [z]
    rfl
theorem Twl.eqS (t : Twl K H os2 os) (h : Rep os2 R F S L) (h' : Rep os R' F' S' L') : S.length = S'.length ∧ ∀ n q c, valG S' n = some (q, c) → ∃ q' c' v, valG S n = some (q', c') ∧ FvOk v ∧ DpAll K H c' (fvD v) ∧ DpAll K H c (fvD v) := by
  have key : ∀ n q c, valG S' n = some (q, c) → ∃ q' c' v, valG S n = some (q', c') ∧ FvOk v ∧ DpAll K H c' (fvD v) ∧ DpAll K H c (fvD v) := fun n q c e => by
    obtain ⟨c2, h2, v, o, d1, d2⟩ := t.hasS ((h'.s n c).mp ⟨q, e⟩)
    obtain ⟨q2, e2⟩ := (h.s n c2).mpr h2
    exact ⟨q2, c2, v, e2, o, d1, d2⟩
  have key2 : ∀ n q c, valG S n = some (q, c) → ∃ b, valG S' n = some b := fun n q c e => by
    obtain ⟨c2, h2, _⟩ := t.symm.hasS ((h.s n c).mp ⟨q, e⟩)
    obtain ⟨q2, e2⟩ := (h'.s n c2).mpr h2
    exact ⟨_, e2⟩
  refine ⟨keys_len h.sn h'.sn fun n => ?_, key⟩
  cases e : valG S n with
  | none =>
    cases e' : valG S' n with
    | none => rfl
    | some b =>
      obtain ⟨q', c', v, z, _⟩ := key n b.1 b.2 e'
      rw [e] at z
      cases z
  | some b =>
    obtain ⟨b', z⟩ := key2 n b.1 b.2 e
    rw [z]
    rfl
theorem Twl.eqL (t : Twl K H os2 os) (h : Rep os2 R F S L) (h' : Rep os R' F' S' L') : L.length = L'.length ∧ ∀ n v, valG L' n = some v → ∃ v' d, valG L n = some v' ∧ Gd 1 d ∧ Dp K H v' d ∧ Dp K H v d := by
  have key : ∀ n v, valG L' n = some v → ∃ v' d, valG L n = some v' ∧ Gd 1 d ∧ Dp K H v' d ∧ Dp K H v d := fun n v e => by
    obtain ⟨c2, h2, d, o, d1, d2⟩ := t.hasL ((h'.l n v).mp e)
    exact ⟨c2, d, (h.l n c2).mpr h2, o, d1, d2⟩
  have key2 : ∀ n v, valG L n = some v → ∃ b, valG L' n = some b := fun n v e => by
    obtain ⟨c2, h2, _⟩ := t.symm.hasL ((h.l n v).mp e)
    exact ⟨_, (h'.l n c2).mpr h2⟩
  refine ⟨keys_len h.ln h'.ln fun n => ?_, key⟩
  cases e : valG L n with
  | none =>
    cases e' : valG L' n with
    | none => rfl
    | some b =>
      obtain ⟨v', d, z, _⟩ := key n b e'
      rw [e] at z
      cases z
  | some b =>
    obtain ⟨b', z⟩ := key2 n b e
    rw [z]
    rfl
theorem Twl.eqF (t : Twl K H os2 os) (h : Rep os2 R F S L) (h' : Rep os R' F' S' L') : F.length = F'.length ∧ ∀ n q rs, valG F' n = some (q, rs) → ∃ q' rs', valG F n = some (q', rs') ∧ rs'.map (·.2) = rs.map (·.2) := by
  have sm : ∀ n, (valG F n).isSome = (valG F' n).isSome := fun n => Bool.eq_iff_iff.mpr (by
    rw [h.fn, h'.fn]
    refine ⟨fun w => ?_, fun w => ?_⟩
    · rcases w with ⟨c, w⟩ | ⟨r, row, w⟩
      · obtain ⟨c2, w2, _⟩ := t.symm.hasR w
        exact .inl ⟨c2, w2⟩
      · obtain ⟨r2, w2⟩ := t.symm.hasF ⟨r, w⟩
        exact .inr ⟨r2, row, w2⟩
    · rcases w with ⟨c, w⟩ | ⟨r, row, w⟩
      · obtain ⟨c2, w2, _⟩ := t.hasR w
        exact .inl ⟨c2, w2⟩
      · obtain ⟨r2, w2⟩ := t.hasF ⟨r, w⟩
        exact .inr ⟨r2, row, w2⟩)
  refine ⟨keys_len h.fd h'.fd sm, fun n q rs e => ?_⟩
  have z := sm n
  rw [e] at z
  cases e2 : valG F n with
  | none => rw [e2] at z; cases z
  | some b =>
    refine ⟨b.1, b.2, rfl, rows_eq (h.fs _ _ _ e2) (h'.fs _ _ _ e) fun row => ?_⟩
    have a1 := h.f n row
    have a2 := h'.f n row
    rw [e2] at a1
    rw [e] at a2
    refine ⟨fun w => ?_, fun w => ?_⟩
    · obtain ⟨q3, rs3, e3, w3⟩ := a2.mpr (t.symm.hasF (a1.mp ⟨_, _, rfl, w⟩))
      cases e3
      exact w3
    · obtain ⟨q3, rs3, e3, w3⟩ := a1.mpr (t.hasF (a2.mp ⟨_, _, rfl, w⟩))
      cases e3
      exact w3
end
end K1
namespace K1
open PySem PySem.Spec PyProof.Rows L2 Ow Tlz Bd
def spIsSt2 (K : PySem.W.Frag) (C : Addr) : Sp := fun vs H Q _ => ∃ (x o dr df ds dl : Addr) (Z : Addr → Prop) (R S : Tb) (F : Fb) (L : List (Str × V)) (b : Nat) (os os2 : Its), vs = [.ref x, .ref o] ∧ StAt K C Z H x dr df ds dl R F S L b ∧ b ≤ 300 ∧
  SqL K H o (irf os) ∧ ItsG K H os ∧ KSrt os ∧ os.length ≤ 40 ∧ Rep os2 R F S L ∧ ItsG K H os2 ∧ KSrt os2 ∧ Twl K H os2 os ∧ Mak H Q fun z _ => z = .bl true
theorem isd_tab2 {K : PySem.W.Frag} {H : Hp} {T T' : Tb} (rt : ∀ e ∈ T, SqT K H e.2.1 e.2.2) (rt' : ∀ n q c, valG T' n = some (q, c) → SqT K H q c)
    (h : ∀ n q c, valG T' n = some (q, c) → ∃ q' c' v, valG T n = some (q', c') ∧ FvOk v ∧ DpAll K H c' (fvD v) ∧ DpAll K H c (fvD v)) : ∀ k v, valV (kvR T') k = some v → ∃ v' d, valV (kvR T) k = some v' ∧ Dp K H v' d ∧ Dp K H v d ∧ Gd 2 d := by
  intro k v e
  cases k with
  | inl i => rw [show valV (kvR T') (Sum.inl i) = none from valV_inl _ i T'] at e; cases e
  | inr n =>
    rw [kvR_val] at e
    cases z : valG T' n with
    | none => rw [z] at e; cases e
    | some x =>
      rw [z] at e
      have ev : V.ref x.1 = v := Option.some.inj e
      obtain ⟨q', c', w, e', o, d1, d2⟩ := h n x.1 x.2 z
      obtain ⟨g1, g2⟩ := fvD_gd o
      refine ⟨.ref q', .tuple (fvD w), by rw [kvR_val, e']; rfl, .tup (rt _ (valG_mem e')) d1, ?_, Gd.tup (by omega) g1⟩
      rw [← ev]
      exact .tup (rt' n x.1 x.2 z) d2
section
variable {P : Program} {w : World} {K : PySem.W.Frag} {mg : Str → Option Value} {base : Heap} {C : Addr}
theorem ok_isst2 {f : Addr} {fd : FuncData} (F0 : Fun K "_law_is_state" "_law_is_state" s_law_is_state f fd) (T : Bl mg) (X : Txt K mg C) (Sall : Kmt P w K mg base C 1 "all_items" ["self"] (spAll K C))
    (D_law_is_dict : Kn P w K mg base 5 "_law_is_dict" ["actual", "expected"] (spIsD K))
    (D_law_same : Kn P w K mg base 5 "_law_same" ["actual", "expected"] (spSm K 4)) :
    FnOk P w K mg base CX0 6 f fd ["actual", "ordered"] (spIsSt2 K C) := by
  refine F0.ok sc_law_is_state (fun vs H Q E h => ?_) (fun cdv A outer s0 H vs Q E hr h => ?_)
  · obtain ⟨x, o, dr, df, ds, dl, Z, R, S, F, L, b, os, os2, rfl, _⟩ := h
    rfl
  · obtain ⟨x, o, dr, df, ds, dl, Z, R, S, F, L, b, os, os2, rfl, st, hb, ho, og, ks, lo, rep, og2, ks2, tw, q⟩ := h
    have hu := hu_of hr
    have hr1 := hr.mono (show 1 ≤ 5 by decide)
    refine ⟨_, (pss_cons (ps_set (i := 2) sc_law_is_state.nd rfl (.inl rfl) (pe_lst (pa_cons pe_dnewK (pa_cons pe_dnewK (pa_cons pe_dnewK (pa_cons pe_dnewK pa_nil))))))
      (pss_cons (ps_for PassesOwn.never rfl (pi_list (pv 1)) (pg_name (i := 3) sc_law_is_state.nd rfl (.inl rfl)) (pss_one (ps_if (pt_cmpR op_eq (pe_ix ix_tup (pv 3) pe_int (fun _ _ => rfl)) pe_str (nomark _)) (pss_cons (ps_set (i := 4) sc_law_is_state.nd rfl (.inl rfl) (pe_ix ix_list (pv 2) pe_int (fun _ _ => rfl)))
      (pss_cons (ps_dput hu (pv 4) (pe_ix ix_tup (pv 3) pe_int (fun _ _ => rfl)) (pe_tup (pa_cons (pe_ix ix_tup (pv 3) pe_int (fun _ _ => rfl)) (pa_cons (pe_ix ix_tup (pv 3) pe_int (fun _ _ => rfl)) pa_nil))) rfl)
      (pss_cons (ps_set (i := 5) sc_law_is_state.nd rfl (.inl rfl) (pe_ix ix_list (pv 2) pe_int (fun _ _ => rfl)))
      (pss_one (ps_dput hu (pv 5) (pe_ix ix_tup (pv 3) pe_int (fun _ _ => rfl)) (pe_lst pa_nil) rfl))))) pss_nil)))
      (pss_cons (ps_for PassesOwn.never rfl (pi_list (pv 1)) (pg_name (i := 3) sc_law_is_state.nd rfl (.inl rfl)) (pss_cons (ps_if (pt_cmpR op_eq (pe_ix ix_tup (pv 3) pe_int (fun _ _ => rfl)) pe_str (nomark _)) (pss_cons (ps_set (i := 5) sc_law_is_state.nd rfl (.inl rfl) (pe_ix ix_list (pv 2) pe_int (fun _ _ => rfl)))
      (pss_one (ps_dput hu (pv 5) (pe_ix ix_tup (pv 3) pe_int (fun _ _ => rfl)) (pe_op op_cat (pe_dget2 hu (pv 5) (pe_ix ix_tup (pv 3) pe_int (fun _ _ => rfl)) (pe_lst pa_nil) ⟨rfl, rfl, rfl, rfl⟩) (pe_lst (pa_cons (pe_ix ix_tup (pv 3) pe_int (fun _ _ => rfl)) pa_nil))) rfl))) pss_nil)
      (pss_cons (ps_if (pt_cmpR op_eq (pe_ix ix_tup (pv 3) pe_int (fun _ _ => rfl)) pe_str (nomark _)) (pss_cons (ps_set (i := 6) sc_law_is_state.nd rfl (.inl rfl) (pe_ix ix_list (pv 2) pe_int (fun _ _ => rfl)))
      (pss_one (ps_dput hu (pv 6) (pe_ix ix_tup (pv 3) pe_int (fun _ _ => rfl)) (pe_slice sl_tupA (pv 3) (po_some pe_int) po_none) rfl))) pss_nil)
      (pss_one (ps_if (pt_cmpR op_eq (pe_ix ix_tup (pv 3) pe_int (fun _ _ => rfl)) pe_str (nomark _)) (pss_cons (ps_set (i := 7) sc_law_is_state.nd rfl (.inl rfl) (pe_ix ix_list (pv 2) pe_int (fun _ _ => rfl)))
      (pss_one (ps_dput hu (pv 7) (pe_ix ix_tup (pv 3) pe_int (fun _ _ => rfl)) (pe_ix ix_tup (pv 3) pe_int (fun _ _ => rfl)) rfl))) pss_nil)))))
      (pss_cons (ps_if (PW.pt (pw_or (pt_not (pt_val (pe_kn D_law_is_dict hr (pa_cons (pe_fld (pv 0) rfl) (pa_cons (pe_ix ix_list (pv 2) pe_int (fun _ _ => rfl)) pa_nil))))) (pw_or1 (pt_not (pt_val (pe_kn D_law_is_dict hr (pa_cons (pe_fld (pv 0) rfl) (pa_cons (pe_ix ix_list (pv 2) pe_int (fun _ _ => rfl)) pa_nil)))))))) (pss_one (ps_ret pe_bl)) pss_nil)
      (pss_cons (ps_if (PW.pt (pw_or (pt_not (pt_val (pe_kn D_law_is_dict hr (pa_cons (pe_fld (pv 0) rfl) (pa_cons (pe_ix ix_list (pv 2) pe_int (fun _ _ => rfl)) pa_nil))))) (pw_or1 (pt_not (pt_val (pe_kn D_law_is_dict hr (pa_cons (pe_fld (pv 0) rfl) (pa_cons (pe_ix ix_list (pv 2) pe_int (fun _ _ => rfl)) pa_nil)))))))) (pss_one (ps_ret pe_bl)) pss_nil)
      (pss_one (ps_ret (pe_kn D_law_same hr (pa_cons (pe_mt0 Sall hr (pv 0)) (pa_cons (pv 1) pa_nil)))))))))), ?_⟩
    have so := og.sc
    have n1 : ∀ {u v : Str}, u ≠ v → ¬ decide (V.str u = V.str v) = true := fun h e => h (V.str.inj (of_decide_eq_true e))
    have big : ∀ {β : Type} (vv : β → V) (l : List (Str × β)), l.length ≤ 60 → (kvG vv l).length < sizeLine := fun vv l hl => by
      rw [kvG_len]
      exact small (m := 1000) (by omega) (by decide)
    -- the four dicts
    refine fun e0 m0 => fun e1 m1 => fun e2 m2 => fun e3 m3 => ⟨sz 4, fun du ndu => ?_⟩
    have m1' : (upd H e0 (.dK [])) e1 = none := m1
    have s4 : Same H (upd (upd (upd (upd (upd H e0 (.dK [])) e1 (.dK [])) e2 (.dK [])) e3 (.dK [])) du (.lst [.ref e0, .ref e1, .ref e2, .ref e3])) := ((((Same.new m0).trans (Same.new m1)).trans (Same.new m2)).trans (Same.new m3)).trans (Same.new ndu)
    have x0 : (upd (upd (upd (upd (upd H e0 (.dK [])) e1 (.dK [])) e2 (.dK [])) e3 (.dK [])) du (.lst [.ref e0, .ref e1, .ref e2, .ref e3])) e0 = some (.dK []) := (((Same.new m1).trans (Same.new m2)).trans (Same.new m3)).trans (Same.new ndu) _ _ upd_same
    have x1 : (upd (upd (upd (upd (upd H e0 (.dK [])) e1 (.dK [])) e2 (.dK [])) e3 (.dK [])) du (.lst [.ref e0, .ref e1, .ref e2, .ref e3])) e1 = some (.dK []) := ((Same.new m2).trans (Same.new m3)).trans (Same.new ndu) _ _ upd_same
    have x2 : (upd (upd (upd (upd (upd H e0 (.dK [])) e1 (.dK [])) e2 (.dK [])) e3 (.dK [])) du (.lst [.ref e0, .ref e1, .ref e2, .ref e3])) e2 = some (.dK []) := (Same.new m3).trans (Same.new ndu) _ _ upd_same
    have x3 : (upd (upd (upd (upd (upd H e0 (.dK [])) e1 (.dK [])) e2 (.dK [])) e3 (.dK [])) du (.lst [.ref e0, .ref e1, .ref e2, .ref e3])) e3 = some (.dK []) := (Same.new ndu) _ _ upd_same
    have xd : (upd (upd (upd (upd (upd H e0 (.dK [])) e1 (.dK [])) e2 (.dK [])) e3 (.dK [])) du (.lst [.ref e0, .ref e1, .ref e2, .ref e3])) du = some (.lst [.ref e0, .ref e1, .ref e2, .ref e3]) := upd_same
    have n01 : e0 ≠ e1 := ne_of_none upd_same m1
    have n02 : e0 ≠ e2 := ne_of_none ((Same.new m1) _ _ upd_same) m2
    have n03 : e0 ≠ e3 := ne_of_none (((Same.new m1).trans (Same.new m2)) _ _ upd_same) m3
    have n12 : e1 ≠ e2 := ne_of_none upd_same m2
    have n13 : e1 ≠ e3 := ne_of_none ((Same.new m2) _ _ upd_same) m3
    have n23 : e2 ≠ e3 := ne_of_none upd_same m3
    have k0 : H e0 = none := m0
    have k1 : H e1 = none := (Same.new m0).free m1
    have k2 : H e2 = none := ((Same.new m0).trans (Same.new m1)).free m2
    have k3 : H e3 = none := (((Same.new m0).trans (Same.new m1)).trans (Same.new m2)).free m3
    clear m1' m1 m2 m3 ndu
    generalize (upd (upd (upd (upd (upd H e0 (.dK [])) e1 (.dK [])) e2 (.dK [])) e3 (.dK [])) du (.lst [.ref e0, .ref e1, .ref e2, .ref e3])) = H1 at *
    have da : DueAt K H1 e0 e1 e2 e3 [] [] [] [] 0 := ⟨x0, (fun n q c e => by cases e), x1, (fun n q rs e => by cases e), x2, (fun n q c e => by cases e), x3, n01, n02, n03, n12, n13, n23⟩
    clear x0 x1 x2 x3
    have dn0 : ∀ {H9 : Hp} {us : List V}, H9 du = some (.lst us) → ∀ {p : Addr} {kvs : List (Key × V)}, H9 p = some (.dK kvs) → du ≠ p := by
      intro H9 us h p kvs g z
      rw [z, g] at h
      cases h
    -- the relations
    refine ⟨_, rfl, o, rfl, ⟨_, s4.seq ho⟩, for_list (K := K) (a := o) (xs := irf os) (fun j σ H4 => ∃ (y3 y4 y5 : Option V) (R' : Tb) (F' : Fb), σ = [some (.ref x), some (.ref o), some (.ref du), y3, y4, y5, none, none] ∧ Same H H4 ∧ H4 du = some (.lst [.ref e0, .ref e1, .ref e2, .ref e3]) ∧
        DueAt K H4 e0 e1 e2 e3 R' F' [] [] 0 ∧ Rep ((os.take j).filter isRel) R' F' [] [])
      ⟨none, none, none, [], [], rfl, s4, xd, da, Rep.nil⟩ (fun j σ H4 _ hP => ?_) (fun j y σ H4 hy hP => ?_) (fun σ H4 hP => ?_)⟩
    · obtain ⟨_, _, _, _, _, _, s5, _⟩ := hP
      exact s5.seq ho
    · obtain ⟨y3, y4, y5, R', F', rfl, s5, ed, da, rp⟩ := hP
      obtain ⟨⟨a, i⟩, et, rfl⟩ := irf_get hy
      have mt := List.mem_of_getElem? et
      have jl : j < os.length := (List.getElem?_eq_some_iff.mp et).1
      have ig := (og _ mt).same s5
      have ft := filter_take (P := isRel) et
      obtain ⟨lR, lF, _, _⟩ := rp.len
      have lf := List.length_filter_le isRel (os.take j)
      rw [List.length_take] at lf
      cases i with
      | rel n c =>
        have ht : SqT K H4 a (.str "relation" :: .str n :: c) := ig.at_
        have lc : c.length = 2 := ig.l
        obtain ⟨u, v, ec⟩ : ∃ u v, c = [u, v] := by
          match c, lc with
          | [u, v], _ => exact ⟨u, v, rfl⟩
        subst ec
        refine ⟨_, rfl, a, _, 0, _, rfl, rfl, ht, at_of (j := 0) rfl rfl, rfl, _, rfl, ite2 (fun _ => ?_) (fun e => absurd (decide_eq_true rfl) e)⟩
        refine ⟨_, rfl, du, _, 0, .ref e0, rfl, rfl, SqL.of ed, at_of (j := 0) rfl rfl, ?_⟩
        refine ⟨_, rfl, a, _, 2, u, rfl, rfl, ht, at_of (j := 2) rfl rfl, _, rfl, a, _, 3, v, rfl, rfl, ht, at_of (j := 3) rfl rfl, sz 2, fun p np => ?_⟩
        have s6 := Same.new (o := .tup [u, v]) np
        have e6 := upd_same (H := H4) (a := p) (o := .tup [u, v])
        generalize (upd H4 p (.tup [u, v])) = H6 at *
        have da6 := da.same s6
        have dp := DPut.k (k := Sum.inr n) (v := .ref p) da6.r (big _ R' (by omega))
        refine ⟨_, rfl, _, rfl, a, _, 1, .str n, rfl, rfl, Tk.same s6 _ _ ht, at_of (j := 1) rfl rfl, e0, _, rfl, dp, ?_⟩
        have da7 := da6.rel (n := n) (SqT.of e6)
        have s7 : Same H (upd H6 e0 (.dK (putK (kvR R') (Sum.inr n) (.ref p)))) := Same.over (s5.trans s6) k0
        have ed7 : (upd H6 e0 (.dK (putK (kvR R') (Sum.inr n) (.ref p)))) du = some (.lst [.ref e0, .ref e1, .ref e2, .ref e3]) := by rw [upd_ne (dn0 (s6 _ _ ed) da6.r)]; exact s6 _ _ ed
        have tk7 : Tk K H4 (upd H6 e0 (.dK (putK (kvR R') (Sum.inr n) (.ref p)))) := (Tk.same s6).trans (Tk.dK da6.r)
        generalize (upd H6 e0 (.dK (putK (kvR R') (Sum.inr n) (.ref p)))) = H7 at *
        refine ⟨_, rfl, du, _, 1, .ref e1, rfl, rfl, SqL.of ed7, at_of (j := 1) rfl rfl, ?_⟩
        refine ⟨sz 0, fun p2 np2 => ?_⟩
        have s8 := Same.new (o := .lst []) np2
        have e8 := upd_same (H := H7) (a := p2) (o := .lst [])
        generalize (upd H7 p2 (.lst [])) = H8 at *
        have da8 := da7.same s8
        have dp2 := DPut.k (k := Sum.inr n) (v := .ref p2) da8.f (big _ F' (by omega))
        refine ⟨_, rfl, _, rfl, a, _, 1, .str n, rfl, rfl, (tk7.trans (Tk.same s8)) _ _ ht, at_of (j := 1) rfl rfl, e1, _, rfl, dp2, ?_⟩
        have da9 := da8.fac (n := n) (rs := []) e8 (fun _ m => nomatch m) (Nat.le_refl _)
        have s9 : Same H (upd H8 e1 (.dK (putK (kvF F') (Sum.inr n) (.ref p2)))) := Same.over (s7.trans s8) k1
        have ed9 : (upd H8 e1 (.dK (putK (kvF F') (Sum.inr n) (.ref p2)))) du = some (.lst [.ref e0, .ref e1, .ref e2, .ref e3]) := by rw [upd_ne (dn0 (s8 _ _ ed7) da8.f)]; exact s8 _ _ ed7
        refine ⟨_, _, _, _, _, rfl, s9, ed9, da9, ?_⟩
        have fn : valG F' n = none := by
          cases z : valG F' n with
          | none => rfl
          | some bb =>
            have w1 := (rp.fn n).mp (by rw [z]; rfl)
            rcases w1 with ⟨c', hc⟩ | ⟨r, row, hc⟩
            · obtain ⟨a', m', _⟩ := has_filter.mp hc
              obtain ⟨k, hk⟩ := List.mem_iff_getElem?.mp m'
              have kj : k < j := by
                have := (List.getElem?_eq_some_iff.mp hk).1
                rw [List.length_take] at this
                omega
              rw [List.getElem?_take_of_lt kj] at hk
              obtain ⟨pk, ek⟩ := List.getElem?_eq_some_iff.mp hk
              obtain ⟨pj, ej⟩ := List.getElem?_eq_some_iff.mp et
              have l := List.pairwise_iff_getElem.mp ks k j pk pj kj
              rw [ek, ej] at l
              exact (tEq_lt (so _ mt) (eq_rel.mpr rfl) l).elim
            · obtain ⟨a', m', z'⟩ := has_filter.mp hc
              cases z'
        rw [ft]
        refine rp.last (t := (a, .rel n [u, v])) ⟨⟨p, rfl⟩, .inr ⟨p2, fn, putG_new _ fn⟩, rfl, rfl⟩ (fun u m => so u (List.mem_of_mem_take (List.mem_filter.mp m).1)) (so _ mt) fun u m => ?_
        obtain ⟨k, hk⟩ := List.mem_iff_getElem?.mp (List.mem_filter.mp m).1
        have kj : k < j := by
          have := (List.getElem?_eq_some_iff.mp hk).1
          rw [List.length_take] at this
          omega
        rw [List.getElem?_take_of_lt kj] at hk
        obtain ⟨pk, ek⟩ := List.getElem?_eq_some_iff.mp hk
        obtain ⟨pj, ej⟩ := List.getElem?_eq_some_iff.mp et
        have l := List.pairwise_iff_getElem.mp ks k j pk pj kj
        rw [ek, ej] at l
        exact l
      | fact n r row =>
        refine ⟨_, rfl, a, _, 0, _, rfl, rfl, ig.at_.1, at_of (j := 0) rfl rfl, rfl, _, rfl, ite2 (fun e => absurd e (n1 (by decide +kernel))) (fun _ => ?_)⟩
        rw [ft]
        exact ⟨_, _, _, _, _, rfl, s5, ed, da, by rw [show isRel (a, It.fact n r row) = false from rfl, if_neg Bool.false_ne_true, List.append_nil]; exact rp⟩
      | str n c =>
        refine ⟨_, rfl, a, _, 0, _, rfl, rfl, ig.at_, at_of (j := 0) rfl rfl, rfl, _, rfl, ite2 (fun e => absurd e (n1 (by decide +kernel))) (fun _ => ?_)⟩
        rw [ft]
        exact ⟨_, _, _, _, _, rfl, s5, ed, da, by rw [show isRel (a, It.str n c) = false from rfl, if_neg Bool.false_ne_true, List.append_nil]; exact rp⟩
      | lay n v =>
        refine ⟨_, rfl, a, _, 0, _, rfl, rfl, ig.at_, at_of (j := 0) rfl rfl, rfl, _, rfl, ite2 (fun e => absurd e (n1 (by decide +kernel))) (fun _ => ?_)⟩
        rw [ft]
        exact ⟨_, _, _, _, _, rfl, s5, ed, da, by rw [show isRel (a, It.lay n v) = false from rfl, if_neg Bool.false_ne_true, List.append_nil]; exact rp⟩
    obtain ⟨y3, y4, y5, R1, F1, rfl, s5, ed, da, rp⟩ := hP
    rw [irf_len, List.take_length] at rp
    clear s4 xd
    -- the others
    refine ⟨_, rfl, o, rfl, ⟨_, s5.seq ho⟩, for_list (K := K) (a := o) (xs := irf os) (fun j σ H4 => ∃ (y3 y5 y6 y7 : Option V) (F' : Fb) (S' : Tb) (L' : List (Str × V)), σ = [some (.ref x), some (.ref o), some (.ref du), y3, y4, y5, y6, y7] ∧ Same H H4 ∧ H4 du = some (.lst [.ref e0, .ref e1, .ref e2, .ref e3]) ∧
        DueAt K H4 e0 e1 e2 e3 R1 F' S' L' j ∧ Rep (os.filter isRel ++ (os.take j).filter fun t => !isRel t) R1 F' S' L')
      ⟨y3, y5, none, none, F1, [], [], rfl, s5, ed, da, by rw [List.take_zero, List.filter_nil, List.append_nil]; exact rp⟩ (fun j σ H4 _ hP => ?_) (fun j y σ H4 hy hP => ?_) (fun σ H4 hP => ?_)⟩
    · obtain ⟨_, _, _, _, _, _, _, _, s6, _⟩ := hP
      exact s6.seq ho
    · obtain ⟨y3, y5, y6, y7, F', S', L', rfl, s6, ed, da, rp⟩ := hP
      obtain ⟨⟨a, i⟩, et, rfl⟩ := irf_get hy
      have mt := List.mem_of_getElem? et
      have jl : j < os.length := (List.getElem?_eq_some_iff.mp et).1
      have ig := (og _ mt).same s6
      have ft := filter_take (P := fun t => !isRel t) et
      have sp : ScI (os.filter isRel ++ (os.take j).filter fun t => !isRel t) := fun u m => by
        rcases List.mem_append.mp m with m | m
        · exact so u (List.mem_filter.mp m).1
        · exact so u (List.mem_of_mem_take (List.mem_filter.mp m).1)
      have lt : isRel (a, i) = false → ∀ u ∈ os.filter isRel ++ (os.take j).filter fun t => !isRel t, tLt (te u) (te (a, i)) := fun hi u m => by
        rcases List.mem_append.mp m with m | m
        · obtain ⟨m, hu⟩ := List.mem_filter.mp m
          obtain ⟨b', i'⟩ := u
          cases i' with
          | rel n' c' =>
            refine (tLt_iff _ _).mpr (.inl ?_)
            cases i with
            | rel n c => cases hi
            | fact n r row => show (0 : Int) < 1; decide
            | str n c => show (0 : Int) < 2; decide
            | lay n v => show (0 : Int) < 3; decide
          | _ => cases hu
        · obtain ⟨k, hk⟩ := List.mem_iff_getElem?.mp (List.mem_filter.mp m).1
          have kj : k < j := by
            have := (List.getElem?_eq_some_iff.mp hk).1
            rw [List.length_take] at this
            omega
          rw [List.getElem?_take_of_lt kj] at hk
          obtain ⟨pk, ek⟩ := List.getElem?_eq_some_iff.mp hk
          obtain ⟨pj, ej⟩ := List.getElem?_eq_some_iff.mp et
          have l := List.pairwise_iff_getElem.mp ks k j pk pj kj
          rw [ek, ej] at l
          exact l
      obtain ⟨lR, lF, lS, lL⟩ := rp.len
      have lf := List.length_filter_le (fun t => !isRel t) (os.take j)
      have lf2 := List.length_filter_le isRel os
      rw [List.length_take] at lf
      rw [List.length_append] at lR lF lS lL
      have lF' : F'.length ≤ 60 ∨ 60 < F'.length := by omega
      have wle : F'.length ≤ 80 := by omega
      have big2 : ∀ {β : Type} (vv : β → V) (l : List (Str × β)), l.length ≤ 80 → (kvG vv l).length < sizeLine := fun vv l hl => by
        rw [kvG_len]
        exact small (m := 1000) (by omega) (by decide)
      cases i with
      | rel n c =>
        refine ⟨_, rfl, a, _, 0, _, rfl, rfl, ig.at_, at_of (j := 0) rfl rfl, rfl, _, rfl, ite2 (fun e => absurd e (n1 (by decide +kernel))) (fun _ => ?_)⟩
        refine ⟨_, rfl, a, _, 0, _, rfl, rfl, ig.at_, at_of (j := 0) rfl rfl, rfl, _, rfl, ite2 (fun e => absurd e (n1 (by decide +kernel))) (fun _ => ?_)⟩
        refine ⟨_, rfl, a, _, 0, _, rfl, rfl, ig.at_, at_of (j := 0) rfl rfl, rfl, _, rfl, ite2 (fun e => absurd e (n1 (by decide +kernel))) (fun _ => ?_)⟩
        rw [ft]
        exact ⟨_, _, _, _, _, _, _, rfl, s6, ed, da.up (by omega), by rw [show (!isRel (a, It.rel n c)) = false from rfl, if_neg Bool.false_ne_true, List.append_nil]; exact rp⟩
      | fact n r row =>
        obtain ⟨ht, hrow, srow, lrow⟩ := ig.at_
        refine ⟨_, rfl, a, _, 0, _, rfl, rfl, ht, at_of (j := 0) rfl rfl, rfl, _, rfl, ite2 (fun _ => ?_) (fun e => absurd (decide_eq_true rfl) e)⟩
        refine ⟨_, rfl, du, _, 1, .ref e1, rfl, rfl, SqL.of ed, at_of (j := 1) rfl rfl, ?_⟩
        refine ⟨_, rfl, e1, rfl, .inl ⟨_, .inl da.f⟩, _, rfl, a, _, 1, .str n, rfl, rfl, ht, at_of (j := 1) rfl rfl, sz 0, fun p np => ?_⟩
        have s7 := Same.new (o := .lst []) np
        have e7 := upd_same (H := H4) (a := p) (o := .lst [])
        generalize (upd H4 p (.lst [])) = H7 at *
        have da7 := da.same s7
        have fnd : ∃ (z : Option V) (l : Addr), DGet H7 e1 (.str n) z ∧ z.getD (.ref p) = .ref l ∧ H7 l = some (.lst (rrefs (rOf F' n))) ∧ RowsOk K H7 (rOf F' n) ∧ (rOf F' n).length ≤ j := by
          cases e : valG F' n with
          | none =>
            have er : rOf F' n = [] := by unfold rOf; rw [e]
            rw [er]
            exact ⟨none, p, .inl ⟨kvF F', Sum.inr n, .inl da7.f, rfl, by rw [kvF_val, e]; rfl⟩, rfl, e7, (fun _ m => nomatch m), Nat.zero_le _⟩
          | some b' =>
            obtain ⟨q0, rs⟩ := b'
            rw [rOf_eq e]
            obtain ⟨h1, h2, h3⟩ := da7.ft n q0 rs e
            exact ⟨some (.ref q0), q0, dgetF (.inl da7.f) e, rfl, h1, h2, h3⟩
        obtain ⟨z, l, dg, ez, hl, hro, hlen⟩ := fnd
        refine ⟨z, dg, ?_⟩
        rw [ez]
        refine ⟨_, rfl, a, _, 2, .ref r, rfl, rfl, Tk.same s7 _ _ ht, at_of (j := 2) rfl rfl, sz 1, fun p2 np2 => ?_⟩
        have s8 := Same.new (o := .lst [V.ref r]) np2
        have e8 := upd_same (H := H7) (a := p2) (o := .lst [V.ref r])
        generalize (upd H7 p2 (.lst [V.ref r])) = H8 at *
        refine ⟨l, p2, _, _, rfl, rfl, s8 _ _ hl, e8, sz _ (by rw [rrefs_len]; show _ + 1 ≤ 1000; omega), fun p3 np3 => ?_⟩
        have s9 := Same.new (o := .lst (rrefs (rOf F' n) ++ [V.ref r])) np3
        have e9 := upd_same (H := H8) (a := p3) (o := .lst (rrefs (rOf F' n) ++ [V.ref r]))
        generalize (upd H8 p3 (.lst (rrefs (rOf F' n) ++ [V.ref r]))) = H9 at *
        have s79 := (s7.trans s8).trans s9
        have da9 := da.same s79
        have dp2 := DPut.k (k := Sum.inr n) (v := .ref p3) da9.f (big2 _ F' wle)
        refine ⟨_, rfl, _, rfl, a, _, 1, .str n, rfl, rfl, Tk.same s79 _ _ ht, at_of (j := 1) rfl rfl, e1, _, rfl, dp2, ?_⟩
        have er9 : rrefs (rOf F' n) ++ [V.ref r] = rrefs (rOf F' n ++ [(r, row)]) := (rrefs_snoc (t := (r, row))).symm
        rw [er9] at e9
        have da10 := (da9.up (c := j + 1) (by omega)).fac (n := n) e9 ((hro.same (s8.trans s9)).snoc (Tk.same s79 _ _ hrow) srow lrow) (by rw [List.length_append]; show _ + 1 ≤ j + 1; omega)
        have s10 : Same H (upd H9 e1 (.dK (putK (kvF F') (Sum.inr n) (.ref p3)))) := Same.over (s6.trans s79) k1
        have ed9 := s79 _ _ ed
        have ed10 : (upd H9 e1 (.dK (putK (kvF F') (Sum.inr n) (.ref p3)))) du = some (.lst [.ref e0, .ref e1, .ref e2, .ref e3]) := by rw [upd_ne (dn0 ed9 da9.f)]; exact ed9
        have tk10 : Tk K H4 (upd H9 e1 (.dK (putK (kvF F') (Sum.inr n) (.ref p3)))) := (Tk.same s79).trans (Tk.dK da9.f)
        generalize (upd H9 e1 (.dK (putK (kvF F') (Sum.inr n) (.ref p3)))) = H10 at *
        refine ⟨_, rfl, a, _, 0, _, rfl, rfl, tk10 _ _ ht, at_of (j := 0) rfl rfl, rfl, _, rfl, ite2 (fun e => absurd e (n1 (by decide +kernel))) (fun _ => ?_)⟩
        refine ⟨_, rfl, a, _, 0, _, rfl, rfl, tk10 _ _ ht, at_of (j := 0) rfl rfl, rfl, _, rfl, ite2 (fun e => absurd e (n1 (by decide +kernel))) (fun _ => ?_)⟩
        refine ⟨_, _, _, _, _, _, _, rfl, s10, ed10, da10, ?_⟩
        rw [ft, show (!isRel (a, It.fact n r row)) = true from rfl, if_pos rfl, ← List.append_assoc]
        exact rp.lastF sp srow (lt rfl)
      | str n c =>
        have ht : SqT K H4 a (.str "structure" :: .str n :: c) := ig.at_
        refine ⟨_, rfl, a, _, 0, _, rfl, rfl, ht, at_of (j := 0) rfl rfl, rfl, _, rfl, ite2 (fun e => absurd e (n1 (by decide +kernel))) (fun _ => ?_)⟩
        refine ⟨_, rfl, a, _, 0, _, rfl, rfl, ht, at_of (j := 0) rfl rfl, rfl, _, rfl, ite2 (fun _ => ?_) (fun e => absurd (decide_eq_true rfl) e)⟩
        refine ⟨_, rfl, du, _, 2, .ref e2, rfl, rfl, SqL.of ed, at_of (j := 2) rfl rfl, ?_⟩
        refine ⟨_, rfl, 2, rfl, a, _, rfl, ht, fun w => absurd w (cut2 _ _ c).2, fun _ p np => ?_⟩
        rw [(cut2 _ _ c).1]
        have s7 := Same.new (o := .tup c) np
        have e7 := upd_same (H := H4) (a := p) (o := .tup c)
        generalize (upd H4 p (.tup c)) = H7 at *
        have da7 := da.same s7
        have dp2 := DPut.k (k := Sum.inr n) (v := .ref p) da7.s (big2 _ S' (by omega))
        refine ⟨_, rfl, _, rfl, a, _, 1, .str n, rfl, rfl, Tk.same s7 _ _ ht, at_of (j := 1) rfl rfl, e2, _, rfl, dp2, ?_⟩
        have da8 := (da7.up (c := j + 1) (by omega)).stru (n := n) (SqT.of e7)
        have s8 : Same H (upd H7 e2 (.dK (putK (kvR S') (Sum.inr n) (.ref p)))) := Same.over (s6.trans s7) k2
        have ed8 : (upd H7 e2 (.dK (putK (kvR S') (Sum.inr n) (.ref p)))) du = some (.lst [.ref e0, .ref e1, .ref e2, .ref e3]) := by rw [upd_ne (dn0 (s7 _ _ ed) da7.s)]; exact s7 _ _ ed
        have tk8 : Tk K H4 (upd H7 e2 (.dK (putK (kvR S') (Sum.inr n) (.ref p)))) := (Tk.same s7).trans (Tk.dK da7.s)
        generalize (upd H7 e2 (.dK (putK (kvR S') (Sum.inr n) (.ref p)))) = H8 at *
        refine ⟨_, rfl, a, _, 0, _, rfl, rfl, tk8 _ _ ht, at_of (j := 0) rfl rfl, rfl, _, rfl, ite2 (fun e => absurd e (n1 (by decide +kernel))) (fun _ => ?_)⟩
        refine ⟨_, _, _, _, _, _, _, rfl, s8, ed8, da8, ?_⟩
        rw [ft, show (!isRel (a, It.str n c)) = true from rfl, if_pos rfl, ← List.append_assoc]
        exact rp.last (t := (a, .str n c)) ⟨⟨p, rfl⟩, rfl, rfl, rfl⟩ sp (so _ mt) (lt rfl)
      | lay n v =>
        have ht : SqT K H4 a [.str "layout", .str n, v] := ig.at_
        refine ⟨_, rfl, a, _, 0, _, rfl, rfl, ht, at_of (j := 0) rfl rfl, rfl, _, rfl, ite2 (fun e => absurd e (n1 (by decide +kernel))) (fun _ => ?_)⟩
        refine ⟨_, rfl, a, _, 0, _, rfl, rfl, ht, at_of (j := 0) rfl rfl, rfl, _, rfl, ite2 (fun e => absurd e (n1 (by decide +kernel))) (fun _ => ?_)⟩
        refine ⟨_, rfl, a, _, 0, _, rfl, rfl, ht, at_of (j := 0) rfl rfl, rfl, _, rfl, ite2 (fun _ => ?_) (fun e => absurd (decide_eq_true rfl) e)⟩
        refine ⟨_, rfl, du, _, 3, .ref e3, rfl, rfl, SqL.of ed, at_of (j := 3) rfl rfl, ?_⟩
        have dp2 := DPut.k (k := Sum.inr n) (v := v) da.l (big2 _ L' (by omega))
        refine ⟨_, rfl, a, _, 2, v, rfl, rfl, ht, at_of (j := 2) rfl rfl, _, rfl, _, rfl, a, _, 1, .str n, rfl, rfl, ht, at_of (j := 1) rfl rfl, e3, _, rfl, dp2, ?_⟩
        have ed8 : (upd H4 e3 (.dK (putK (kvG id L') (Sum.inr n) v))) du = some (.lst [.ref e0, .ref e1, .ref e2, .ref e3]) := by rw [upd_ne (dn0 ed da.l)]; exact ed
        refine ⟨_, _, _, _, _, _, _, rfl, Same.over s6 k3, ed8, (da.up (c := j + 1) (by omega)).lay (n := n), ?_⟩
        rw [ft, show (!isRel (a, It.lay n v)) = true from rfl, if_pos rfl, ← List.append_assoc]
        exact rp.last (t := (a, .lay n v)) ⟨rfl, rfl, rfl, rfl⟩ sp (so _ mt) (lt rfl)
    obtain ⟨y3, y5, y6, y7, F', S', L', rfl, s6, ed, da, rp⟩ := hP
    rw [irf_len] at da rp
    rw [List.take_length] at rp
    clear s5
    have rp2 : Rep os R1 F' S' L' := rp.congr fun i => by
      unfold Has
      refine exists_congr fun a => ?_
      rw [List.mem_append, List.mem_filter, List.mem_filter]
      cases isRel (a, i) <;> simp
    have tg := (TabG.of rep og2).same s6
    have tw6 := tw.tk (Tk.same s6)
    have lo2 := tw.len
    have st6 := st.same s6
    obtain ⟨dx, ob⟩ := st6.ob
    have ne0 : dr ≠ e0 := ne_of_none st.r k0
    have ne1 : df ≠ e1 := ne_of_none st.f k1
    have ne2 : ds ≠ e2 := ne_of_none st.s k2
    have ne3 : dl ≠ e3 := ne_of_none st.l k3
    obtain ⟨lR, vR⟩ := tw6.eqR rep rp2
    obtain ⟨lF, vF⟩ := tw6.eqF rep rp2
    obtain ⟨lS, vS⟩ := tw6.eqS rep rp2
    obtain ⟨lL, vL⟩ := tw6.eqL rep rp2
    obtain ⟨bR, bF, bS, bL⟩ := rep.len
    -- relations, facts
    refine ⟨_, rfl, x, C, dx, _, _, rfl, ob, X.cl, X.nR, flds_r _ _ _ _, _, rfl, du, _, 0, .ref e0, rfl, rfl, SqL.of ed, at_of (j := 0) rfl rfl, dr, e0, kvR R, kvR R1, rfl, st6.r, da.r, ne0, by unfold kvR; rw [kvG_len, kvG_len, lR], isd_tab2 st6.rt da.rt vR, ?_⟩
    rintro z7 H7 rfl s7
    refine ⟨_, rfl, ?_⟩
    refine iteF ?_
    have st7 := st6.same s7
    have da7 := da.same s7
    refine ⟨_, rfl, x, C, dx, _, _, rfl, s7 _ _ ob, X.cl, X.nF, flds_f _ _ _ _, _, rfl, du, _, 1, .ref e1, rfl, rfl, SqL.of (s7 _ _ ed), at_of (j := 1) rfl rfl, df, e1, kvF F, kvF F', rfl, st7.f, da7.f, ne1, by unfold kvF; rw [kvG_len, kvG_len, lF], ?_, ?_⟩
    · intro k v e
      cases k with
      | inl i => rw [show valV (kvF F') (Sum.inl i) = none from valV_inl _ i F'] at e; cases e
      | inr n =>
        rw [kvF_val] at e
        cases z : valG F' n with
        | none => rw [z] at e; cases e
        | some xx =>
          rw [z] at e
          have ev : V.ref xx.1 = v := Option.some.inj e
          obtain ⟨q', rs', e', er⟩ := vF n xx.1 xx.2 z
          obtain ⟨h1, h2, h3⟩ := da7.ft n xx.1 xx.2 z
          obtain ⟨h4, h5, h6⟩ := st7.ft _ (valG_mem e')
          have h6' : rs'.length ≤ b := h6
          have ed1 : rs'.map (fun t => rowD t.2) = xx.2.map fun t => rowD t.2 := by
            have := congrArg (List.map rowD) er
            rw [List.map_map, List.map_map] at this
            exact this
          refine ⟨.ref q', .list (rs'.map fun t => rowD t.2), by rw [kvF_val, e']; rfl, .lst (SqL.of h4) (rws_dp h5), ?_, Gd.lst (by rw [List.length_map]; omega) fun d m => ?_⟩
          · rw [← ev, ed1]
            exact .lst (SqL.of h1) (rws_dp h2)
          · obtain ⟨t, mt, rfl⟩ := List.mem_map.mp m
            exact Gd.row (h5 t mt).2.1 (by have := (h5 t mt).2.2; omega)
    rintro z8 H8 rfl s8
    refine ⟨_, rfl, ?_⟩
    refine iteF ?_
    have s78 := s7.trans s8
    have st8 := st6.same s78
    have da8 := da.same s78
    have tg8 := tg.same s78
    -- structures, layouts
    refine ⟨_, rfl, x, C, dx, _, _, rfl, s78 _ _ ob, X.cl, X.nS, flds_s _ _ _ _, _, rfl, du, _, 2, .ref e2, rfl, rfl, SqL.of (s78 _ _ ed), at_of (j := 2) rfl rfl, ds, e2, kvR S, kvR S', rfl, st8.s, da8.s, ne2, by unfold kvR; rw [kvG_len, kvG_len, lS], isd_tab2 st8.st da8.st ((tw6.tk (Tk.same s78)).eqS rep rp2).2, ?_⟩
    rintro z9 H9 rfl s9
    refine ⟨_, rfl, ?_⟩
    refine iteF ?_
    have s79 := s78.trans s9
    have st9 := st6.same s79
    have da9 := da.same s79
    have tg9 := tg.same s79
    refine ⟨_, rfl, x, C, dx, _, _, rfl, s79 _ _ ob, X.cl, X.nL, flds_l _ _ _ _, _, rfl, du, _, 3, .ref e3, rfl, rfl, SqL.of (s79 _ _ ed), at_of (j := 3) rfl rfl, dl, e3, kvG id L, kvG id L', rfl, st9.l, da9.l, ne3, by rw [kvG_len, kvG_len, lL], ?_, ?_⟩
    · intro k v e
      cases k with
      | inl i => rw [show valV (kvG id L') (Sum.inl i) = none from valV_inl _ i L'] at e; cases e
      | inr n =>
        rw [kvG_val] at e
        cases z : valG L' n with
        | none => rw [z] at e; cases e
        | some v' =>
          rw [z] at e
          have ev : v' = v := Option.some.inj e
          subst ev
          obtain ⟨v2, d, e', g1, d1, d2⟩ := ((tw6.tk (Tk.same s79)).eqL rep rp2).2 n v' z
          exact ⟨v2, d, by rw [kvG_val, e']; rfl, d1, d2, g1.up (by omega)⟩
    rintro z10 H10 rfl s10
    refine ⟨_, rfl, ?_⟩
    refine iteF ?_
    have s70 := s79.trans s10
    have st10 := st6.same s70
    -- all items
    refine ⟨_, rfl, x, dx, _, rfl, s70 _ _ ob, flds_no _ _ _ _ (by decide +kernel), ?_⟩
    refine ⟨x, dr, df, ds, dl, Z, R, S, F, L, b, rfl, st10, hb, tg.same s70, by omega, by omega, by omega, by omega, fun its p ys fs ss ls H11 py sy pf sf ps ss' pl sl ee s11 np ep ig => ?_⟩
    have s611 := (s6.trans s70).trans s11
    have eqt := ee.trans (allE_eq rep ks2 og2.sc py sy pf sf ps ss' pl sl)
    obtain ⟨dd, d1, d2, gd⟩ := (Twl.te eqt (tw.tk (Tk.same s611))).data ig (og.same s611)
    have ll : dd.length ≤ 1000 := by
      have := DpAll.len d2
      rw [irf_len] at this
      omega
    have gl := Gd.lst ll gd
    refine ⟨_, rfl, .ref p, .ref o, .list dd, rfl, .lst (SqL.of ep) d1, .lst (s611.seq ho) d2, gl.i, gl.d, ?_⟩
    rintro z12 H12 rfl s12
    exact q _ _ rfl (s611.trans s12)
end
end K1
/-! methods and makings that may raise -/
namespace Ow
open PySem PySem.Spec PyProof.Rows L2
/-- the method m of the class C keeps sp, by k levels; it may raise -/
structure Kmx (P : Program) (w : World) (K : PySem.W.Frag) (mg : Str → Option Value) (base : Heap) (C : Addr) (k : Nat) (m : Str) (ps : List Str) (sp : Sp) : Prop where
  ex : ∃ f fd, Meth K C m f ∧ FnOk P w K mg base (L2.CX P w) k f fd ps sp ∧ Binds K fd ps []
  cl : Cls K C
def tMethS (C : Addr) (m : Str) (sp : Sp) (E : L2.St → XK) (ta : TE) (t : TA) : TE := fun σ H Q => ta σ H fun x H1 => ∃ a dx fs, x = .ref a ∧ H1 a = some (.ins C dx fs) ∧ fs.lookup m = none ∧ t σ H1 fun vs H2 => sp (x :: vs) H2 Q (E σ)
theorem pe_mx {X : Cx} {W : WX} {k j : Nat} {C : Addr} {m : Str} {ps : List Str} {sp : Sp} {o e : Expr} {es : List Expr} {ta : TE} {t : TA} {apos pos : Pos} {pl : Sem Bool} (c : Kmx X.prog X.w X.K X.mg X.base C k m ps sp) (hr : Room j X.A) (tk : Takes X W) (he : PE X o ta) (ha : PA X (e :: es) t) (hk : k ≤ j := by decide)
    (hst : starEach (e :: es) X.env = (false, eval e X.env) :: starEach es X.env := by rfl) (hpl : (backTo pos (starEach es X.env)).any (·.1) = false := by rfl)
    (ht : eval (.Call (.Attribute o m apos) (e :: es) [] pos) X.env = (do
      let ov ← eval o X.env; standAt apos.atName
      let (f, first) ← holding [ov] (getMethod ov m pl)
      callWith pos f first (backTo pos (starEach (e :: es) X.env)) (backToKw pos (keywordEach [] X.env))) := by rfl) :
    PE X (.Call (.Attribute o m apos) (e :: es) [] pos) (tMethS C m sp (WE W) ta t) := by
  obtain ⟨f, fd, hm, F, b⟩ := c.ex
  refine ⟨fun pins s σ H Q I h => ?_⟩
  refine PySem.W.methodCall_KW (pl := pl) (thn (he.run pins s σ H _ I h) fun u s1 ⟨x, H1, I1, rx, a, dx, fs, ex, ea, l, q⟩ => ?_) ht
  subst ex
  obtain rfl : u = Value.ref a := rx
  refine getmeth_ok I1 ea c.cl hm l ?_
  refine PySem.W.callWith_K (first := [.ref a]) (h₀ := X.base) I.ok.mod.kin hm.kp (thn (ha.run pos pins s1 σ H1 _ I1 q) fun us s2 ⟨vs, H2, I2, r, q2⟩ => ⟨I2.kIn, ?_⟩) hst hpl
  exact run_fnS (us := .ref a :: us) (vs := .ref a :: vs) F (hr.mono hk) b (passAt tk σ) I2 (.cons rfl r) q2
theorem pe_mx0 {X : Cx} {W : WX} {k j : Nat} {C : Addr} {m : Str} {ps : List Str} {sp : Sp} {o : Expr} {ta : TE} {apos pos : Pos} {pl : Sem Bool} (c : Kmx X.prog X.w X.K X.mg X.base C k m ps sp) (hr : Room j X.A) (tk : Takes X W) (he : PE X o ta) (hk : k ≤ j := by decide)
    (ht : eval (.Call (.Attribute o m apos) [] [] pos) X.env = (do
      let ov ← eval o X.env; standAt apos.atName
      let (f, first) ← holding [ov] (getMethod ov m pl)
      callWith pos f first (backTo pos (starEach [] X.env)) (backToKw pos (keywordEach [] X.env))) := by rfl) :
    PE X (.Call (.Attribute o m apos) [] [] pos) (tMethS C m sp (WE W) ta tNil) := by
  obtain ⟨f, fd, hm, F, b⟩ := c.ex
  refine ⟨fun pins s σ H Q I h => ?_⟩
  refine PySem.W.methodCall_KW (pl := pl) (thn (he.run pins s σ H _ I h) fun u s1 ⟨x, H1, I1, rx, a, dx, fs, ex, ea, l, q⟩ => ?_) ht
  subst ex
  obtain rfl : u = Value.ref a := rx
  refine getmeth_ok I1 ea c.cl hm l ?_
  exact PySem.W.callWith_K0 (first := [.ref a]) I1.kIn hm.kp (run_fnS (us := [.ref a]) (vs := [.ref a]) F (hr.mono hk) b (passAt tk σ) I1 (.cons rfl .nil) q)
/-- the class C is made by an __init__ that keeps sp, by k levels; it may raise -/
structure Kmkx (P : Program) (w : World) (K : PySem.W.Frag) (mg : Str → Option Value) (base : Heap) (C : Addr) (k : Nat) (ps : List Str) (sp : Sp) : Prop where
  ex : ∃ f fd, Mk K C f ∧ FnOk P w K mg base (L2.CX P w) k f fd ps sp ∧ Binds K fd ps []
def tMakeS (C : Addr) (sp : Sp) (E : L2.St → XK) (t : TA) : TE := fun σ H Q => t σ H fun vs H1 => ∀ x dx, H1 x = none → H1 dx = none → dx ≠ x →
  sp (.ref x :: vs) (upd (upd H1 dx (.own x)) x (.ins C dx [])) (fun v H2 => v = .non ∧ Q (.ref x) H2) (E σ)
theorem pe_mkx {X : Cx} {W : WX} {k j : Nat} {C : Addr} {x : Str} {ps : List Str} {sp : Sp} {e : Expr} {es : List Expr} {t : TA} {p pos : Pos} (c : Kmkx X.prog X.w X.K X.mg X.base C k ps sp) (hm : X.mg x = some (.ref C)) (hr : Room j X.A) (tk : Takes X W) (ha : PA X (e :: es) t) (hk : k + 1 ≤ j := by decide) (hg : Gl X x := by rfl)
    (hdb : (x == ("__debug__" : Str)) = false := by decide) (he : starEach (e :: es) X.env = (false, eval e X.env) :: starEach es X.env := by rfl) (hpl : (backTo pos (starEach es X.env)).any (·.1) = false := by rfl) :
    PE X (.Call (.Name x p) (e :: es) [] pos) (tMakeS C sp (WE W) t) := by
  obtain ⟨f, fd, M, F, b⟩ := c.ex
  refine ⟨fun pins s σ H Q I h => ?_⟩
  refine wpAny_Call_Name_kw (ld_glob I hg hm ?_ hdb)
  refine PySem.W.callWith_K (h₀ := X.base) I.ok.mod.kin M.kp (thn (ha.run pos pins s σ H _ I h) fun us s1 ⟨vs, H1, I1, r, q⟩ => ⟨I1.kIn, ?_⟩) he hpl
  have hq := q (s1.heap.objs.size + 1) s1.heap.objs.size (I1.hok.fresh (Nat.le_succ _)) (I1.hok.fresh (Nat.le_refl _)) (Nat.ne_of_lt (Nat.lt_succ_self _))
  have I2 := Inv.made (C := C) I1
  have r2 : Vals (V.ref (s1.heap.objs.size + 1) :: vs) (Value.ref (s1.heap.objs.size + 1) :: us) := .cons rfl r
  have hl : (Value.ref (s1.heap.objs.size + 1) :: us).length = ps.length := by
    have e := r2.length
    rw [F.len _ _ _ _ hq] at e
    exact e.symm
  have bb := b _ (Value.ref (s1.heap.objs.size + 1) :: us) I2.kIn (by rw [List.append_nil]; exact hl)
  rw [List.append_nil] at bb
  refine wpAny_call (make_map (f := f) I1.kIn M.makes M.init (beq_iff_eq.mp M.fn) (codeAny_mono (F.run _ X.stack _ _ ⟨Value.ref (s1.heap.objs.size + 1) :: us, []⟩ (Value.ref (s1.heap.objs.size + 1) :: us) _ _ (WE W σ) ((hr.mono hk).make C us [])
    (I2.env0.make C us []) bb r2 hq) fun r s' hq' => ?_))
  cases r with
  | error e => exact passAt tk σ pins _ _ e s' I2 hq'
  | ok fl =>
    cases fl with
    | ret u =>
      obtain ⟨v, H', I3, rv, ev, q3⟩ := I2.after hq'
      subst ev
      exact ⟨rv, ⟨V.ref (s1.heap.objs.size + 1), H', I3, rfl, q3⟩⟩
    | next => exact False.elim hq'
    | brk => exact False.elim hq'
    | cont => exact False.elim hq'
end Ow
/-! a suite for a known exception -/
namespace Ow
open PySem PySem.Spec PyProof.Rows L2
theorem PSs.when {X : Cx} {ss : List Stmt} {t : TS} {p : Prop} (h : p → PSs X ss t) : PSs X ss (fun D σ H => p ∧ t D σ H) := ⟨fun pins s σ H D I ⟨hp, q⟩ => (h hp).run pins s σ H D I q⟩
theorem zc_of {cls : Value} {d : Option Addr} {oe : Obj} {D : Addr} (h : cls = .ref D ∧ d = none) (z : Zc cls d oe) : Zc (.ref D) none oe := by
  obtain ⟨h1, h2⟩ := h
  subst h1 h2
  exact z
end Ow
namespace K1
open PySem PySem.Spec PyProof.Rows L2 Ow Tlz Bd
abbrev sReader_end : Stmt := inClass (topS 34) 15
abbrev NReader_end : List Str := ["self"]
theorem scReader_end : FnScope NReader_end ["self"] (defScope sReader_end) := ⟨rfl, rfl, rfl, by decide +kernel, rfl, by decide +kernel, by decide +kernel⟩
abbrev s_law_read : Stmt := topS 63
abbrev N_law_read : List Str := ["reader", "form"]
theorem sc_law_read : FnScope N_law_read ["reader", "form"] (defScope s_law_read) := ⟨rfl, rfl, rfl, by decide +kernel, rfl, by decide +kernel, by decide +kernel⟩
abbrev s_law_ends : Stmt := topS 64
abbrev N_law_ends : List Str := ["reader", "tail", "e"]
theorem sc_law_ends : FnScope N_law_ends ["reader", "tail"] (defScope s_law_ends) := ⟨rfl, rfl, rfl, by decide +kernel, rfl, by decide +kernel, by decide +kernel⟩
/-- an own exception over ValueError, without __init__ -/
structure ExK (K : PySem.W.Frag) (mg : Str → Option Value) (C : Addr) (n : Str) : Prop where
  x : PySem.W.excIn K C [.type "ValueError", .type "Exception", .type "BaseException", .type "object"] "ValueError.__new__" = true
  g : mg n = some (.ref C)
  k : PySem.W.keepIn K (.ref C) = true
  b : PySem.W.subIn K (.ref C) (.type "BaseException") = some true
  t : PySem.W.typeIn K (.ref C) = some (.type "type")
structure ExcI (K : PySem.W.Frag) (CI CS : Addr) : Prop where
  c : ExcC K CI
  own : PySem.W.kitOne K (.ref CI) (.ref CI) = some true
  ver : PySem.W.kitOne K (.ref CI) (.type "ValueError") = some true
  te : PySem.W.exmOne K (.ref CI) (.ref CS) = some true
def spEnd (CR CD : Addr) : Sp := fun vs H Q E => ∃ (x da : Addr) (ds : List Int) (k : Nat), vs = [.ref x] ∧ RdAt CR H x da ds k ∧ (ds.length = k → Q .non H) ∧ (k < ds.length → E (.ref CD) none H)
/-! the things that are written -/
inductive Th where
  | num (n : Nat)
  | int (i : Int)
  | str (z : Str)
  | val (v : V)
  | row (xs : List V)
  | item (v : Fv)
  | change (c : Cv)
  | changes (cs : List Cv)
def thW : Th → Str
  | .num _ => "number"
  | .int _ => "integer"
  | .str _ => "string"
  | .val _ => "value"
  | .row _ => "row"
  | .item _ => "item"
  | .change _ => "change"
  | .changes _ => "changes"
def ThOk : Th → Prop
  | .num n => n < 2 ^ 140
  | .int i => i.natAbs < 2 ^ 140
  | .str z => Pr z ∧ z.length ≤ 200
  | .val v => Scal v
  | .row xs => (∀ x ∈ xs, Scal x) ∧ xs.length ≤ 10
  | .item v => FvOk v
  | .change c => CvOk c
  | .changes cs => cs.length ≤ 200 ∧ ∀ c ∈ cs, CvOk c
def thB : Th → List Int
  | .num n => numB n
  | .int i => intB i
  | .str z => strB z
  | .val v => valB v
  | .row xs => rowB xs
  | .item v => fvB v
  | .change c => cvB c
  | .changes cs => chB cs
def ThAt (K : PySem.W.Frag) (H : Hp) (y : V) : Th → Prop
  | .num n => y = .int (n : Nat)
  | .int i => y = .int i
  | .str z => y = .str z
  | .val v => y = v
  | .row xs => ∃ p, y = .ref p ∧ SqT K H p xs
  | .item v => FvAt K H y v
  | .change c => CvAt K H y c
  | .changes cs => ∃ p xs, y = .ref p ∧ SqL K H p xs ∧ ChAt K H xs cs
def spLRead (K : PySem.W.Frag) (C : Addr) : Sp := fun vs H Q _ => ∃ (x da : Addr) (ds : List Int) (k : Nat) (a : Th) (rest : List Int), vs = [.ref x, .str (thW a)] ∧ RdAt C H x da ds k ∧ ThOk a ∧ ds.drop k = thB a ++ rest ∧
  ∀ v H', RdAt C H' x da ds (k + (thB a).length) → Gw x H H' → ThAt K H' v a → Q v H'
def spEnds (K : PySem.W.Frag) (CR : Addr) : Sp := fun vs H Q _ => ∃ (x da t : Addr) (ds tl : List Int) (k : Nat), vs = [.ref x, .ref t] ∧ RdAt CR H x da ds k ∧ SqL K H t (tl.map V.int) ∧ ds.length = k + tl.length ∧ Mak H Q fun z _ => z = .bl true
section
variable {P : Program} {w : World} {K : PySem.W.Frag} {mg : Str → Option Value} {base : Heap}
theorem ok_rend {f CR CD : Addr} {fd : FuncData} (F : Fun K "end" "Reader.end" sReader_end f fd) (XDamagedData : ExK K mg CD "DamagedData") (Rleft : Kmt P w K mg base CR 1 "left" ["self"] (spLeft CR)) : FnOk P w K mg base (L2.CX P w) 2 f fd ["self"] (spEnd CR CD) := by
  refine F.okX scReader_end (fun vs H Q E h => ?_) (fun cdv A outer s H vs Q E hr h => ?_)
  · obtain ⟨x, da, ds, k, rfl, _⟩ := h
    rfl
  · obtain ⟨x, da, ds, k, rfl, R, q0, q1⟩ := h
    obtain ⟨dx, ob⟩ := R.ob
    refine ⟨_, (pss_one (ps_if (pt_cmpR op_gt (pe_mt0 Rleft hr (pv 0)) pe_int (nomark _)) (pss_one (ps_raise rfl (takes_of rfl rfl rfl rfl) (pmk_own PySem.F.excBase_ValueError XDamagedData.x XDamagedData.g XDamagedData.k (raises_own XDamagedData.b XDamagedData.t) rfl))) pss_nil)), ?_⟩
    refine ⟨_, rfl, x, dx, _, rfl, ob, rfl, x, da, ds, k, rfl, R, _, _, rfl, rfl, _, rfl, ?_⟩
    have hl := R.l
    by_cases z : k < ds.length
    · rw [decide_eq_true (by omega)]
      exact iteT (q1 z)
    · rw [decide_eq_false (by omega)]
      exact iteF (q0 (by omega))
theorem ok_lread {f C : Addr} {fd : FuncData} (F : Fun K "_law_read" "_law_read" s_law_read f fd) (Rnumber : Kmt P w K mg base C 3 "read_number" ["self"] (spNum C)) (Rinteger : Kmt P w K mg base C 4 "read_integer" ["self"] (spInt C)) (Rstring : Kmt P w K mg base C 5 "read_string" ["self"] (spStr C)) (Rvalue : Kmt P w K mg base C 6 "read_value" ["self"] (spVal C)) (Rrow : Kmt P w K mg base C 7 "read_row" ["self"] (spRdRow C)) (Ritem : Kmt P w K mg base C 8 "read_item" ["self"] (spRdItem K C)) (Rchange : Kmt P w K mg base C 9 "read_change" ["self"] (spRdChange K C)) (Rchanges : Kmt P w K mg base C 10 "read_changes" ["self"] (spRdChanges K C)) :
    FnOk P w K mg base CX0 11 f fd ["reader", "form"] (spLRead K C) := by
  refine F.ok sc_law_read (fun vs H Q E h => ?_) (fun cdv A outer s H vs Q E hr h => ?_)
  · obtain ⟨x, da, ds, k, a, rest, rfl, _⟩ := h
    rfl
  · obtain ⟨x, da, ds, k, a, rest, rfl, R, oa, hd, q⟩ := h
    obtain ⟨dx, ob⟩ := R.ob
    refine ⟨_, (pss_cons (ps_if (pt_cmpR op_eq (pv 1) pe_str (nomark _)) (pss_one (ps_ret (pe_mt0 Rnumber hr (pv 0)))) pss_nil)
      (pss_cons (ps_if (pt_cmpR op_eq (pv 1) pe_str (nomark _)) (pss_one (ps_ret (pe_mt0 Rinteger hr (pv 0)))) pss_nil)
      (pss_cons (ps_if (pt_cmpR op_eq (pv 1) pe_str (nomark _)) (pss_one (ps_ret (pe_mt0 Rstring hr (pv 0)))) pss_nil)
      (pss_cons (ps_if (pt_cmpR op_eq (pv 1) pe_str (nomark _)) (pss_one (ps_ret (pe_mt0 Rvalue hr (pv 0)))) pss_nil)
      (pss_cons (ps_if (pt_cmpR op_eq (pv 1) pe_str (nomark _)) (pss_one (ps_ret (pe_mt0 Rrow hr (pv 0)))) pss_nil)
      (pss_cons (ps_if (pt_cmpR op_eq (pv 1) pe_str (nomark _)) (pss_one (ps_ret (pe_mt0 Ritem hr (pv 0)))) pss_nil)
      (pss_cons (ps_if (pt_cmpR op_eq (pv 1) pe_str (nomark _)) (pss_one (ps_ret (pe_mt0 Rchange hr (pv 0)))) pss_nil)
      (pss_one (ps_ret (pe_mt0 Rchanges hr (pv 0))))))))))), ?_⟩
    have nx : ∀ {u v : Str} {A B : Prop}, u ≠ v → B → (if decide (V.str u = V.str v) = true then A else B) := fun h b => by
      rw [if_neg (by rw [decide_eq_false (fun z => h (V.str.inj z))]; decide)]
      exact b
    have yx : ∀ {u : Str} {A B : Prop}, A → (if decide (V.str u = V.str u) = true then A else B) := fun b => by
      rw [if_pos (decide_eq_true rfl)]
      exact b
    cases a with
    | num n =>
      refine ⟨_, rfl, rfl, _, rfl, yx ?_⟩
      refine ⟨_, rfl, x, dx, _, rfl, ob, rfl, x, da, ds, k, n, rest, rfl, R, oa, hd, fun v H1 R1 g1 o1 => q v H1 R1 g1 o1⟩
    | int n =>
      refine ⟨_, rfl, rfl, _, rfl, nx (u := "integer") (v := "number") (by decide +kernel) ?_⟩
      refine ⟨_, rfl, rfl, _, rfl, yx ?_⟩
      refine ⟨_, rfl, x, dx, _, rfl, ob, rfl, x, da, ds, k, n, rest, rfl, R, oa, hd, fun v H1 R1 g1 o1 => q v H1 R1 g1 o1⟩
    | str n =>
      refine ⟨_, rfl, rfl, _, rfl, nx (u := "string") (v := "number") (by decide +kernel) ?_⟩
      refine ⟨_, rfl, rfl, _, rfl, nx (u := "string") (v := "integer") (by decide +kernel) ?_⟩
      refine ⟨_, rfl, rfl, _, rfl, yx ?_⟩
      refine ⟨_, rfl, x, dx, _, rfl, ob, rfl, x, da, ds, k, n, rest, rfl, R, oa, hd, fun v H1 R1 g1 o1 => q v H1 R1 g1 o1⟩
    | val n =>
      refine ⟨_, rfl, rfl, _, rfl, nx (u := "value") (v := "number") (by decide +kernel) ?_⟩
      refine ⟨_, rfl, rfl, _, rfl, nx (u := "value") (v := "integer") (by decide +kernel) ?_⟩
      refine ⟨_, rfl, rfl, _, rfl, nx (u := "value") (v := "string") (by decide +kernel) ?_⟩
      refine ⟨_, rfl, rfl, _, rfl, yx ?_⟩
      refine ⟨_, rfl, x, dx, _, rfl, ob, rfl, x, da, ds, k, n, rest, rfl, R, oa, hd, fun v H1 R1 g1 o1 => q v H1 R1 g1 o1⟩
    | row n =>
      refine ⟨_, rfl, rfl, _, rfl, nx (u := "row") (v := "number") (by decide +kernel) ?_⟩
      refine ⟨_, rfl, rfl, _, rfl, nx (u := "row") (v := "integer") (by decide +kernel) ?_⟩
      refine ⟨_, rfl, rfl, _, rfl, nx (u := "row") (v := "string") (by decide +kernel) ?_⟩
      refine ⟨_, rfl, rfl, _, rfl, nx (u := "row") (v := "value") (by decide +kernel) ?_⟩
      refine ⟨_, rfl, rfl, _, rfl, yx ?_⟩
      refine ⟨_, rfl, x, dx, _, rfl, ob, rfl, x, da, ds, k, n, rest, rfl, R, oa, hd, fun v H1 R1 g1 o1 => ?_⟩
      obtain ⟨p, e, ep⟩ := o1
      exact q v H1 R1 g1 ⟨p, e, SqT.of ep⟩
    | item n =>
      refine ⟨_, rfl, rfl, _, rfl, nx (u := "item") (v := "number") (by decide +kernel) ?_⟩
      refine ⟨_, rfl, rfl, _, rfl, nx (u := "item") (v := "integer") (by decide +kernel) ?_⟩
      refine ⟨_, rfl, rfl, _, rfl, nx (u := "item") (v := "string") (by decide +kernel) ?_⟩
      refine ⟨_, rfl, rfl, _, rfl, nx (u := "item") (v := "value") (by decide +kernel) ?_⟩
      refine ⟨_, rfl, rfl, _, rfl, nx (u := "item") (v := "row") (by decide +kernel) ?_⟩
      refine ⟨_, rfl, rfl, _, rfl, yx ?_⟩
      refine ⟨_, rfl, x, dx, _, rfl, ob, rfl, x, da, ds, k, n, rest, rfl, R, oa, hd, fun v H1 R1 g1 o1 => q v H1 R1 g1 o1⟩
    | change n =>
      refine ⟨_, rfl, rfl, _, rfl, nx (u := "change") (v := "number") (by decide +kernel) ?_⟩
      refine ⟨_, rfl, rfl, _, rfl, nx (u := "change") (v := "integer") (by decide +kernel) ?_⟩
      refine ⟨_, rfl, rfl, _, rfl, nx (u := "change") (v := "string") (by decide +kernel) ?_⟩
      refine ⟨_, rfl, rfl, _, rfl, nx (u := "change") (v := "value") (by decide +kernel) ?_⟩
      refine ⟨_, rfl, rfl, _, rfl, nx (u := "change") (v := "row") (by decide +kernel) ?_⟩
      refine ⟨_, rfl, rfl, _, rfl, nx (u := "change") (v := "item") (by decide +kernel) ?_⟩
      refine ⟨_, rfl, rfl, _, rfl, yx ?_⟩
      refine ⟨_, rfl, x, dx, _, rfl, ob, rfl, x, da, ds, k, n, rest, rfl, R, oa, hd, fun v H1 R1 g1 o1 => q v H1 R1 g1 o1⟩
    | changes n =>
      refine ⟨_, rfl, rfl, _, rfl, nx (u := "changes") (v := "number") (by decide +kernel) ?_⟩
      refine ⟨_, rfl, rfl, _, rfl, nx (u := "changes") (v := "integer") (by decide +kernel) ?_⟩
      refine ⟨_, rfl, rfl, _, rfl, nx (u := "changes") (v := "string") (by decide +kernel) ?_⟩
      refine ⟨_, rfl, rfl, _, rfl, nx (u := "changes") (v := "value") (by decide +kernel) ?_⟩
      refine ⟨_, rfl, rfl, _, rfl, nx (u := "changes") (v := "row") (by decide +kernel) ?_⟩
      refine ⟨_, rfl, rfl, _, rfl, nx (u := "changes") (v := "item") (by decide +kernel) ?_⟩
      refine ⟨_, rfl, rfl, _, rfl, nx (u := "changes") (v := "change") (by decide +kernel) ?_⟩
      refine ⟨_, rfl, x, dx, _, rfl, ob, rfl, x, da, ds, k, n, rest, rfl, R, oa, hd, fun v H1 R1 g1 o1 => ?_⟩
      obtain ⟨p, xs, e, ep, ex⟩ := o1
      exact q v H1 R1 g1 ⟨p, xs, e, SqL.of ep, ex⟩
theorem ok_lends {f CR CD CS : Addr} {fd : FuncData} (F : Fun K "_law_ends" "_law_ends" s_law_ends f fd) (T0 : Bl mg) (verr : mg "ValueError" = none) (XDamagedData : ExK K mg CD "DamagedData") (gS : mg "ShelfError" = some (.ref CS)) (XI : ExcI K CD CS) (Rend : Kmx P w K mg base CR 2 "end" ["self"] (spEnd CR CD)) :
    FnOk P w K mg base CX0 3 f fd ["reader", "tail"] (spEnds K CR) := by
  refine F.ok sc_law_ends (fun vs H Q E h => ?_) (fun cdv A outer s H vs Q E hr h => ?_)
  · obtain ⟨x, da, t, ds, tl, k, rfl, _⟩ := h
    rfl
  · obtain ⟨x, da, t, ds, tl, k, rfl, R, ht, hl, q⟩ := h
    obtain ⟨dx, ob⟩ := R.ob
    refine ⟨_, (pss_cons (ps_try_as (i := 2) rfl rfl sc_law_ends.nd rfl rfl ⟨rfl, by decide, .inl gS⟩ takes0 (fun W pn xe tk _ => (pss_one (ps_expr (pe_mx0 Rend hr tk (pv 0))))) (fun a oe cls d pn hz hf => PSs.when (p := cls = .ref CD ∧ d = none) fun hh => (pss_one (ps_ret (pe_and (pe_cmpR op_gt (pe_callB (call_len_K (K := K) rfl) (by rfl) T0.len PySem.boot_len (pa_cons (pv 1) pa_nil)) pe_int (nomark _)) (pe_and (pe_callB (call_isE XI.c (zc_of hh hz) hf) (by rfl) T0.isinstance (by decide +kernel) (pa_cons (pv 2) (pa_cons (pe_cls (by rfl) XDamagedData.g) pa_nil))) (pe_one (pe_callB (call_isE XI.c (zc_of hh hz) hf) (by rfl) T0.isinstance (by decide +kernel) (pa_cons (pv 2) (pa_cons (pe_ty "ValueError" (by rfl) verr (by decide +kernel)) pa_nil))))))))))
      (pss_one (ps_ret (pe_cmpR op_eq (pe_callB call_len_seq (by rfl) T0.len PySem.boot_len (pa_cons (pv 1) pa_nil)) pe_int (nomark _))))), ?_⟩
    refine ⟨_, rfl, x, dx, _, rfl, ob, rfl, x, da, ds, k, rfl, R, fun e => ?_, fun l => ?_⟩
    · refine ⟨_, rfl, t, _, rfl, .inl ht, rfl, ?_⟩
      have : tl = [] := List.length_eq_zero_iff.mp (by omega)
      subst this
      exact q _ _ rfl (Same.refl _)
    · refine ⟨true, XI.te, fun _ a na => ⟨⟨rfl, rfl⟩, ?_⟩, fun q => nomatch q⟩
      have lt : 0 < tl.length := by omega
      refine ⟨_, rfl, t, _, rfl, .inl ht, _, _, rfl, rfl, _, rfl, ?_⟩
      rw [List.length_map, decide_eq_true (by omega)]
      refine iteT ?_
      refine ⟨_, rfl, .ref CD, .ref CD, true, rfl, fun u h => h, XI.own, _, rfl, iteT ?_⟩
      refine ⟨_, rfl, .ty "ValueError", .type "ValueError", true, rfl, fun u h => h, XI.ver, ?_⟩
      exact q _ _ rfl (Same.refl _)
end
end K1
namespace K1
open PySem PySem.Spec PyProof.Rows L2 Ow Tlz Bd
abbrev s_law_asks : Stmt := topS 65
abbrev N_law_asks : List Str := ["form", "thing", "told", "due", "tail", "passed", "reader"]
theorem sc_law_asks : FnScope N_law_asks ["form", "thing", "told", "due", "tail"] (defScope s_law_asks) := ⟨rfl, rfl, rfl, by decide +kernel, rfl, by decide +kernel, by decide +kernel⟩
abbrev s_law_any_changes : Stmt := topS 62
abbrev N_law_any_changes : List Str := ["state", "most", "changes", "k", "item"]
theorem sc_law_any_changes : FnScope N_law_any_changes ["state", "most"] (defScope s_law_any_changes) := ⟨rfl, rfl, rfl, by decide +kernel, rfl, by decide +kernel, by decide +kernel⟩
section
variable {K : PySem.W.Frag} {H : Hp}
theorem intsD : ∀ s : List Int, DpAll K H (s.map V.int) (s.map PyData.int)
  | [] => .nil
  | x :: s => .cons (.int x) (intsD s)
theorem bytes_dp {p : Addr} {xs : List Int} (e : H p = some (.lst (xs.map V.int))) : Dp K H (.ref p) (.list (xs.map PyData.int)) := .lst (SqL.of e) (intsD xs)
theorem bytes_ok {xs : List Int} (l : xs.length ≤ 2000000) : ist (.list (xs.map PyData.int)) = true ∧ (PyData.list (xs.map PyData.int)).depth ≤ 4 ∧ SeqAt.shaped (.list (xs.map PyData.int)) = true ∧ (PyData.list (xs.map PyData.int)).canLay0 = true := by
  have g : ∀ d ∈ xs.map PyData.int, Gd 0 d := fun d m => by
    obtain ⟨i, _, rfl⟩ := List.mem_map.mp m
    exact Gd.int i
  have hd : (PyData.list (xs.map PyData.int)).depth ≤ 1 := by
    rw [PyData.depth]
    have := depthAll_le fun x m => (g x m).d
    omega
  have hc : (PyData.list (xs.map PyData.int)).canLay0 = true := by
    rw [PyData.canLay0]
    exact layAll fun x m => (g x m).c
  exact ⟨ist_lstB (by rw [List.length_map]; exact l) fun x m => (g x m).i, by omega, shaped_of hc hd (by omega), hc⟩
theorem cv_data {x y : V} {c : Cv} (h : CvAt K H x c) (g : CvAt K H y c) (o : CvOk c) : ∃ d, Dp K H x d ∧ Dp K H y d ∧ Gd 3 d := by
  cases c with
  | comes v =>
    obtain ⟨a, u, rfl, h1, h2⟩ := h
    obtain ⟨b, z, rfl, g1, g2⟩ := g
    obtain ⟨a2, i, rfl, gi, fi⟩ := fv_item h2 o
    obtain ⟨b2, j, rfl, gj, fj⟩ := fv_item g2 o
    obtain ⟨d, d1, d2, gd⟩ := tw_data gi.at_ gj.at_ o fi fj
    refine ⟨.tuple [.str "comes", d], .tup h1 (.cons (.str _) (.cons d1 .nil)), .tup g1 (.cons (.str _) (.cons d2 .nil)), ?_⟩
    refine Gd.tup (by show 2 ≤ 1000; decide) fun e m => ?_
    simp only [List.mem_cons, List.not_mem_nil, or_false] at m
    rcases m with z | z <;> rw [z]
    · exact (Gd.str (by decide +kernel)).up (by omega)
    · exact gd
  | goes s n row =>
    obtain ⟨o1, o2, o3, o4⟩ := o
    obtain ⟨a, k, r, rfl, h1, h2, h3⟩ := h
    obtain ⟨b, l, q, rfl, g1, g2, g3⟩ := g
    refine ⟨.tuple [.str "goes", .tuple [.int (s : Nat), .str n, rowD row]], .tup h1 (.cons (.str _) (.cons (.tup h2 (.cons (.int _) (.cons (.str _) (.cons (.tup h3 (sc_dp o3)) .nil)))) .nil)), .tup g1 (.cons (.str _) (.cons (.tup g2 (.cons (.int _) (.cons (.str _) (.cons (.tup g3 (sc_dp o3)) .nil)))) .nil)), ?_⟩
    refine Gd.tup (by show 2 ≤ 1000; decide) fun e m => ?_
    simp only [List.mem_cons, List.not_mem_nil, or_false] at m
    rcases m with z | z <;> rw [z]
    · exact (Gd.str (by decide +kernel)).up (by omega)
    · refine Gd.tup (by show 3 ≤ 1000; decide) fun e m => ?_
      simp only [List.mem_cons, List.not_mem_nil, or_false] at m
      rcases m with z | z | z <;> rw [z]
      · exact (Gd.int _).up (by omega)
      · exact (Gd.str o2.1).up (by omega)
      · exact Gd.row o3 (by omega)
theorem ch_data : ∀ {cs : List Cv} {xs ys : List V}, ChAt K H xs cs → ChAt K H ys cs → ∃ ds, DpAll K H xs ds ∧ DpAll K H ys ds ∧ ∀ d ∈ ds, Gd 3 d
  | [], [], [], _, _ => ⟨[], .nil, .nil, fun _ m => nomatch m⟩
  | [], _ :: _, _, h, _ => by cases h.1
  | [], _, _ :: _, _, h => by cases h.1
  | _ :: _, [], _, h, _ => by cases h.1
  | _ :: _, _, [], _, h => by cases h.1
  | c :: cs, x :: xs, y :: ys, h, g => by
    obtain ⟨ds, a1, a2, a3⟩ := ch_data (cs := cs) (xs := xs) (ys := ys) ⟨Nat.succ.inj h.1, fun i u v e f => h.2 (i + 1) u v e f⟩ ⟨Nat.succ.inj g.1, fun i u v e f => g.2 (i + 1) u v e f⟩
    obtain ⟨b1, o⟩ := h.2 0 x c rfl rfl
    obtain ⟨b2, _⟩ := g.2 0 y c rfl rfl
    obtain ⟨d, d1, d2, gd⟩ := cv_data b1 b2 o
    refine ⟨d :: ds, .cons d1 a1, .cons d2 a2, fun e m => ?_⟩
    rcases List.mem_cons.mp m with z | m
    · rw [z]; exact gd
    · exact a3 e m
theorem ThAt.tk {H' : Hp} {y : V} {a : Th} (t : Tk K H H') (h : ThAt K H y a) (l : ∀ p xs, SqL K H p xs → SqL K H' p xs) : ThAt K H' y a := by
  cases a with
  | row xs => obtain ⟨p, e, s⟩ := h; exact ⟨p, e, t _ _ s⟩
  | item v => exact FvAt.tk t h
  | change c => exact CvAt.tk t h
  | changes cs => obtain ⟨p, xs, e, s, c⟩ := h; exact ⟨p, xs, e, l _ _ s, c.tk t⟩
  | _ => exact h
theorem th_data {x y : V} {a : Th} (h : ThAt K H x a) (g : ThAt K H y a) (o : ThOk a) : ∃ d, Dp K H x d ∧ Dp K H y d ∧ Gd 4 d := by
  cases a with
  | num n => cases h; cases g; exact ⟨_, .int _, .int _, (Gd.int _).up (by omega)⟩
  | int n => cases h; cases g; exact ⟨_, .int _, .int _, (Gd.int _).up (by omega)⟩
  | str n => cases h; cases g; exact ⟨_, .str _, .str _, (Gd.str o.1).up (by omega)⟩
  | val v =>
    cases h
    cases g
    have d := sc_dp (K := K) (H := H) (xs := [x]) fun z m => by rw [List.mem_singleton.mp m]; exact o
    cases d with
    | cons a _ => exact ⟨_, a, a, (Gd.sc o).up (by omega)⟩
  | row xs =>
    obtain ⟨p, rfl, h1⟩ := h
    obtain ⟨q, rfl, g1⟩ := g
    exact ⟨_, .tup h1 (sc_dp o.1), .tup g1 (sc_dp o.1), (Gd.row o.1 (by have := o.2; omega)).up (by omega)⟩
  | item v =>
    obtain ⟨a2, i, rfl, gi, fi⟩ := fv_item h o
    obtain ⟨b2, j, rfl, gj, fj⟩ := fv_item g o
    obtain ⟨d, d1, d2, gd⟩ := tw_data gi.at_ gj.at_ o fi fj
    exact ⟨d, d1, d2, gd.up (by omega)⟩
  | change c =>
    obtain ⟨d, d1, d2, gd⟩ := cv_data h g o
    exact ⟨d, d1, d2, gd.up (by omega)⟩
  | changes cs =>
    obtain ⟨p, xs, rfl, h1, h2⟩ := h
    obtain ⟨q, ys, rfl, g1, g2⟩ := g
    obtain ⟨ds, d1, d2, gd⟩ := ch_data h2 g2
    refine ⟨.list ds, .lst h1 d1, .lst g1 d2, Gd.lst ?_ gd⟩
    have := DpAll.len d1
    have := h2.1
    have := o.1
    omega
end
def spAsks (K : PySem.W.Frag) : Sp := fun vs H Q _ => ∃ (a : Th) (x : V) (p1 p2 t : Addr) (tl : List Int), vs = [.str (thW a), x, .ref p1, .ref p2, .ref t] ∧ ThAt K H x a ∧ ThOk a ∧ (thB a).length ≤ 999990 ∧ H p1 = some (.lst ((thB a).map V.int)) ∧ H p2 = some (.lst ((thB a).map V.int)) ∧ H t = some (.lst (tl.map V.int)) ∧ tl.length ≤ 2 ∧ Mak H Q fun z _ => z = .bl true
def spAny (K : PySem.W.Frag) : Sp := fun vs H Q _ => ∃ (p d : Addr) (m : Nat), vs = [.ref p, .int (m : Int)] ∧ m ≤ 20 ∧ Rng d H p ∧
  Drw p d H Q fun x H' => ∃ (q : Addr) (xs : List V) (cs : List Cv), x = .ref q ∧ H' q = some (.lst xs) ∧ ChAt K H' xs cs ∧ cs.length ≤ 20
section
variable {P : Program} {w : World} {K : PySem.W.Frag} {mg : Str → Option Value} {base : Heap}
theorem ok_lasks {f CR : Addr} {fd : FuncData} (F : Fun K "_law_asks" "_law_asks" s_law_asks f fd) (T0 : Bl mg) (X : TxtR K mg CR) (gReader : mg "Reader" = some (.ref CR)) (DReader : Kmk P w K mg base CR 1 ["self", "data"] (spRInit K CR)) (D_law_same : Kn P w K mg base 6 "_law_same" ["actual", "expected"] (spSm K 5)) (D_law_read : Kn P w K mg base 11 "_law_read" ["reader", "form"] (spLRead K CR)) (D_law_ends : Kn P w K mg base 3 "_law_ends" ["reader", "tail"] (spEnds K CR)) :
    FnOk P w K mg base CX0 12 f fd ["form", "thing", "told", "due", "tail"] (spAsks K) := by
  refine F.ok sc_law_asks (fun vs H Q E h => ?_) (fun cdv A outer s H vs Q E hr h => ?_)
  · obtain ⟨a, x, p1, p2, t, tl, rfl, _⟩ := h
    rfl
  · obtain ⟨a, y, p1, p2, t, tl, rfl, hy, oa, la, e1, e2, et, lt, q⟩ := h
    obtain ⟨b1, b2, b3, _⟩ := bytes_ok (xs := thB a) (by omega)
    refine ⟨_, (pss_cons (ps_if (pt_not (pt_val (pe_kn D_law_same hr (pa_cons (pv 2) (pa_cons (pv 3) pa_nil))))) (pss_one (ps_ret pe_bl)) pss_nil)
      (pss_cons (ps_set (i := 5) sc_law_asks.nd rfl (.inl rfl) (pe_op op_cat (pv 3) (pv 4)))
      (pss_cons (ps_set (i := 6) sc_law_asks.nd rfl (.inl rfl) (pe_mk DReader gReader hr (pa_cons (pv 5) pa_nil)))
      (pss_cons (ps_if (PW.pt (pw_or (pt_not (pt_val (pe_kn D_law_same hr (pa_cons (pe_fld (pv 6) rfl) (pa_cons pe_int pa_nil))))) (pw_or (pt_not (pt_val (pe_kn D_law_same hr (pa_cons (pe_kn D_law_read hr (pa_cons (pv 6) (pa_cons (pv 0) pa_nil))) (pa_cons (pv 1) pa_nil))))) (pw_or (pt_not (pt_val (pe_kn D_law_same hr (pa_cons (pe_fld (pv 6) rfl) (pa_cons (pe_callB call_len_seq (by rfl) T0.len PySem.boot_len (pa_cons (pv 3) pa_nil)) pa_nil))))) (pw_or1 (pt_cmpR (op_neD (hu64 hr)) (pv 5) (pe_op op_cat (pv 3) (pv 4)) (nomark _))))))) (pss_one (ps_ret pe_bl)) pss_nil)
      (pss_one (ps_ret (pe_kn D_law_ends hr (pa_cons (pv 6) (pa_cons (pv 4) pa_nil))))))))), ?_⟩
    refine ⟨_, rfl, _, rfl, .ref p1, .ref p2, _, rfl, bytes_dp e1, bytes_dp e2, b1, b2, ?_⟩
    rintro z0 H0 rfl s0
    refine ⟨_, rfl, iteF ?_⟩
    refine ⟨_, rfl, _, rfl, catI (s0 _ _ e2) (s0 _ _ et) (by omega) fun H1 p s1 np ep => ?_⟩
    refine ⟨_, rfl, fun x dx nx nd ne => ⟨x, p, dx, _, rfl, upd_same, SqL.of (same_make nx nd _ _ ep), fun H2 da R2 nda g2 => ⟨rfl, ?_⟩⟩⟩
    have s01 := s0.trans s1
    have s2 : Same H1 H2 := fun b o e => g2 b o (ne_of_none e nx) (same_make nx nd b o e)
    obtain ⟨dx2, ob2⟩ := R2.ob
    refine ⟨_, rfl, x, CR, dx2, _, _, rfl, ob2, X.cl, X.at_, rfl, .int 0, .int 0, .int 0, rfl, .int _, .int _, by rw [K1.ist], by simp [PyData.depth], ?_⟩
    rintro z3 H3 rfl s3
    refine ⟨_, rfl, iteF ?_⟩
    have R3 := R2.same s3
    refine ⟨_, rfl, _, rfl, x, da, _, 0, a, tl, rfl, R3, oa, rfl, fun v H4 R4 g4 o4 => ?_⟩
    have s03 := s01.trans (s2.trans s3)
    have g04 : Same H H4 := fun b o e => g4 b o (ne_of_none (s01 _ _ e) nx) (s03 b o e)
    obtain ⟨d, d1, d2, gd⟩ := th_data o4 (hy.tk (Tk.same g04) fun _ _ h => g04.seq h) oa
    refine ⟨_, rfl, v, y, d, rfl, d1, d2, gd.i, gd.d, ?_⟩
    rintro z5 H5 rfl s5
    refine ⟨_, rfl, iteF ?_⟩
    have R5 := R4.same s5
    obtain ⟨dx5, ob5⟩ := R5.ob
    have g05 := g04.trans s5
    refine ⟨_, rfl, x, CR, dx5, _, _, rfl, ob5, X.cl, X.at_, rfl, _, rfl, p2, _, rfl, .inl (SqL.of (g05 _ _ e2)), _, _, .int ((thB a).length : Nat), rfl, by rw [Nat.zero_add]; exact .int _, by rw [List.length_map]; exact .int _, by rw [K1.ist], by simp [PyData.depth], ?_⟩
    rintro z6 H6 rfl s6
    refine ⟨_, rfl, iteF ?_⟩
    have g06 := g05.trans s6
    have nxp : p ≠ x := ne_of_none ep nx
    have ep6 : H6 p = some (.lst ((thB a ++ tl).map V.int)) := s6 _ _ (s5 _ _ (g4 _ _ nxp (s3 _ _ (s2 _ _ ep))))
    refine ⟨_, rfl, _, rfl, _, rfl, catI (g06 _ _ e2) (g06 _ _ et) (by omega) fun H7 p7 s7 np7 ep7 => ?_⟩
    obtain ⟨c1, c2, c3, c4⟩ := bytes_ok (xs := thB a ++ tl) (by rw [List.length_append]; omega)
    refine ⟨_, _, bytes_dp (s7 _ _ ep6), bytes_dp ep7, c3, c3, _, rfl, ?_⟩
    rw [SeqAt.eqv_refl _ c4]
    refine iteF ?_
    have g07 := g06.trans s7
    refine ⟨_, rfl, _, rfl, x, da, t, _, tl, _, rfl, (R5.same s6).same s7, SqL.of (g07 _ _ et), by rw [Nat.zero_add, List.length_append], ?_⟩
    rintro z8 H8 rfl s8
    exact q _ _ rfl (g07.trans s8)
theorem ok_lany {f : Addr} {fd : FuncData} (F : Fun K "_law_any_changes" "_law_any_changes" s_law_any_changes f fd) (T0 : Bl mg) (D_law_next : Kn P w K mg base 3 "_law_next" ["state", "limit"] spNext) (D_law_item : Kn P w K mg base 7 "_law_item" ["state"] (spItem4 K)) (D_law_key : Kn P w K mg base 1 "_law_key" ["item"] (spLKey K)) :
    FnOk P w K mg base CX0 8 f fd ["state", "most"] (spAny K) := by
  refine F.ok sc_law_any_changes (fun vs H Q E h => ?_) (fun cdv A outer s H vs Q E hr h => ?_)
  · obtain ⟨p, d, m, rfl, _⟩ := h
    rfl
  · obtain ⟨p, d, m, rfl, lm, rg, q⟩ := h
    refine ⟨_, (pss_cons (ps_set (i := 2) sc_law_any_changes.nd rfl (.inl rfl) (pe_lst pa_nil))
      (pss_cons (ps_for PassesOwn.never rfl (pi_range1 (by rfl) T0.range (pa_cons (pe_kn D_law_next hr (pa_cons (pv 0) (pa_cons (pe_op op_add (pv 1) pe_int) pa_nil))) pa_nil)) (pg_name (i := 3) sc_law_any_changes.nd rfl (.inl rfl)) (pss_cons (ps_set (i := 4) sc_law_any_changes.nd rfl (.inl rfl) (pe_kn D_law_item hr (pa_cons (pv 0) pa_nil)))
      (pss_one (ps_expr (pe_bm PySem.F.plainAttrs_list PySem.F.slot_list_append PySem.F.type_list_append mt_append (pv 2) (pa_cons (pe_ix ix_list (pe_lst (pa_cons (pe_tup (pa_cons pe_str (pa_cons (pv 4) pa_nil))) (pa_cons (pe_tup (pa_cons pe_str (pa_cons (pe_kn D_law_key hr (pa_cons (pv 4) pa_nil)) pa_nil))) pa_nil))) (pe_kn D_law_next hr (pa_cons (pv 0) (pa_cons pe_int pa_nil))) (fun _ _ => rfl)) pa_nil))))))
      (pss_one (ps_ret (pv 2))))), ?_⟩
    refine ⟨sz 0, fun D nD => ?_⟩
    have s0 := Same.new (o := .lst []) nD
    refine ⟨_, rfl, _, rfl, _, _, rfl, rfl, p, d, (m : Int) + 1, rfl, by omega, rg.same s0, ?_⟩
    rintro x1 H1 ⟨v, rfl, v0, v1⟩ gw1 rg1
    have fD := rg.free nD
    refine ⟨v, rfl, by omega, by omega, for_range (lo := 0) (n := v.toNat) (fun j σ H4 => ∃ (y3 y4 : Option V) (xs : List V) (cs : List Cv), σ = [some (.ref p), some (.int (m : Int)), some (.ref D), y3, y4] ∧ H4 D = some (.lst xs) ∧ ChAt K H4 xs cs ∧ xs.length = j ∧ Gw p H H4 ∧ Rng d H4 p)
      ⟨none, none, [], [], rfl, gw1 _ _ fD.1 upd_same, ⟨rfl, fun i x c e => by simp at e⟩, rfl, (Gw.same s0).trans gw1, rg1⟩ (fun j σ H4 hj hP => ?_) (fun σ H4 hP => ?_)⟩
    · obtain ⟨y3, y4, xs, cs, rfl, eD, ch, lx, gw4, rg4⟩ := hP
      refine ⟨_, rfl, p, d, rfl, rg4, ?_⟩
      rintro x5 H5 ⟨a, i, rfl, hi, fv, hv, ov⟩ gw5 rg5
      have eD5 := gw5 _ _ fD.1 eD
      refine ⟨_, rfl, .inl ⟨rfl, _, .inl (.inl eD5)⟩, ?_⟩
      refine ⟨_, rfl, sz 2, fun t1 nt1 => ?_⟩
      have s6 := Same.new (o := .tup [.str "comes", .ref a]) nt1
      have e6 := upd_same (H := H5) (a := t1) (o := .tup [.str "comes", .ref a])
      generalize (upd H5 t1 (.tup [.str "comes", .ref a])) = H6 at *
      refine ⟨_, rfl, .ref a, _, _, _, rfl, (hi.same s6).key, ?_⟩
      rintro ky H7 hk s7
      refine ⟨sz 2, fun t2 nt2 => ?_⟩
      have s8 := Same.new (o := .tup [.str "goes", ky]) nt2
      have e8 := upd_same (H := H7) (a := t2) (o := .tup [.str "goes", ky])
      generalize (upd H7 t2 (.tup [.str "goes", ky])) = H8 at *
      refine ⟨sz 2, fun L nL => ?_⟩
      have s9 := Same.new (o := .lst [.ref t1, .ref t2]) nL
      have e9 := upd_same (H := H8) (a := L) (o := .lst [.ref t1, .ref t2])
      generalize (upd H8 L (.lst [.ref t1, .ref t2])) = H9 at *
      have s59 := ((s6.trans s7).trans s8).trans s9
      have rg9 := rg5.same s59
      refine ⟨_, rfl, p, d, 2, rfl, by decide, rg9, ?_⟩
      rintro x10 H10 ⟨v10, rfl, w0, w1⟩ gw10 rg10
      have fL := (rg5.same ((s6.trans s7).trans s8)).free nL
      have t910 : Tk K H9 H10 := Rng.tk rg9 gw10
      have hv10 : FvAt K H10 (.ref a) fv := ((hv.at_ hi.at_).tk (Tk.same s59)).tk t910
      have e1 : SqT K H10 t1 [.str "comes", .ref a] := t910 _ _ (SqT.of ((s7.trans (s8.trans s9)) _ _ e6))
      have e2 : SqT K H10 t2 [.str "goes", ky] := t910 _ _ (SqT.of (s9 _ _ e8))
      have hk10 := (hk.tk (Tk.same (s8.trans s9))).tk t910
      have key : ∃ c, CvAt K H10 (.ref t2) c ∧ CvOk c := by
        obtain ⟨b, r, rfl, k1, k2, k3, k4, k5⟩ := hk10
        have hs : ∃ s' : Nat, (ier i).1 = (s' : Int) ∧ s' < 4 := by
          cases i
          · exact ⟨0, rfl, by omega⟩
          · exact ⟨1, rfl, by omega⟩
          · exact ⟨2, rfl, by omega⟩
          · exact ⟨3, rfl, by omega⟩
        obtain ⟨s', es, ls⟩ := hs
        have on : StrOk (ier i).2.1 ∧ (ier i).2.2.1.length ≤ 10 := by
          cases fv <;> cases i <;> (try exact hv.elim)
          · obtain ⟨rfl, _⟩ := hv; exact ⟨ov.1, Nat.zero_le _⟩
          · obtain ⟨rfl, rfl⟩ := hv; exact ⟨ov.1, ov.2.2⟩
          · obtain ⟨rfl, _⟩ := hv; exact ⟨ov.1, Nat.zero_le _⟩
          · obtain ⟨rfl, _⟩ := hv; exact ⟨ov.1, Nat.zero_le _⟩
        rw [es] at k1
        exact ⟨.goes s' (ier i).2.1 (ier i).2.2.1, ⟨t2, b, r, rfl, e2, k1, k2⟩, ls, on.1, k4, on.2⟩
      obtain ⟨cg, cga, cgo⟩ := key
      have pick : ∃ (u : V) (c : Cv), [V.ref t1, V.ref t2][v10.toNat]? = some u ∧ CvAt K H10 u c ∧ CvOk c := by
        rcases (by omega : v10 = 0 ∨ v10 = 1) with z | z <;> subst z
        · exact ⟨.ref t1, .comes fv, rfl, ⟨t1, .ref a, rfl, e1, hv10⟩, ov⟩
        · exact ⟨.ref t2, cg, rfl, cga, cgo⟩
      obtain ⟨u, c, eu, ca, co⟩ := pick
      have eD10 : H10 D = some (.lst xs) := gw10 _ _ fD.1 (s59 _ _ eD5)
      refine ⟨L, _, v10, u, rfl, rfl, SqL.of (gw10 _ _ fL.1 e9), at_of (j := v10.toNat) (by omega) eu, ?_⟩
      refine ⟨D, xs, u, rfl, rfl, eD10, by exact small (m := 1000) (by omega) (by decide), ?_⟩
      have tD : Tk K H10 (upd H10 D (.lst (xs ++ [u]))) := Tk.put eD10
      have t410 : Tk K H4 H10 := ((Rng.tk rg4 gw5).trans (Tk.same s59)).trans t910
      refine ⟨_, _, xs ++ [u], cs ++ [c], rfl, upd_same, ⟨by rw [List.length_append, List.length_append, ch.1]; rfl, fun i' x' c' ex ec => ?_⟩, by rw [List.length_append, lx]; rfl, ?_, rg10.upd fD⟩
      · by_cases z : i' < xs.length
        · rw [List.getElem?_append_left z] at ex
          rw [List.getElem?_append_left (by rw [← ch.1]; exact z)] at ec
          obtain ⟨h1, h2⟩ := ch.2 i' x' c' ex ec
          exact ⟨(h1.tk t410).tk tD, h2⟩
        · have hm := (List.getElem?_eq_some_iff.mp ex).1
          rw [List.length_append, List.length_singleton] at hm
          have : i' = xs.length := by omega
          subst this
          have a1 : u = x' := by simpa using ex
          rw [ch.1] at ec
          have a2 : c = c' := by simpa using ec
          subst a1 a2
          exact ⟨ca.tk tD, co⟩
      · exact Gw.over (((gw4.trans gw5).trans (Gw.same s59)).trans gw10) nD
    · obtain ⟨y3, y4, xs, cs, rfl, eD, ch, lx, gw4, rg4⟩ := hP
      exact ⟨_, rfl, q _ _ ⟨D, xs, cs, rfl, eD, ch, by have := ch.1; omega⟩ gw4 rg4⟩
end
end K1
namespace K1
open PySem PySem.Spec PyProof.Rows L2 Ow Tlz Bd
abbrev s_law_image : Stmt := topS 66
abbrev N_law_image : List Str := ["state", "tail", "items", "ordered", "commits", "due", "mixed", "data", "reader", "told", "item"]
theorem sc_law_image : FnScope N_law_image ["state", "tail"] (defScope s_law_image) := ⟨rfl, rfl, rfl, by decide +kernel, rfl, by decide +kernel, by decide +kernel⟩
theorem plc_lastT {os : Its} {t : Addr × It} (h : ∀ u ∈ os, tLt (te u) (te t)) : plc os t = os ++ [t] := by
  unfold plc
  have e1 : (os.filter fun u => decide (tOrd (te u) (te t) ≠ 0)) = os := List.filter_eq_self.mpr fun u m => by
    have h1 : tOrd (te u) (te t) < 0 := h u m
    exact decide_eq_true (by omega)
  have e2 : (os.countP fun u => decide (tOrd (te u) (te t) < 0)) = os.length := List.countP_eq_length.mpr fun u m => decide_eq_true (h u m)
  rw [e1, e2, List.take_length, List.drop_length, List.append_nil]
theorem plcAll_self (os : Its) : KSrt os → plcAll os = os := by
  refine snoc_ind (P := fun os => KSrt os → plcAll os = os) (fun _ => rfl) (fun os t ih => ?_) os
  intro ks
  obtain ⟨k1, _, k2⟩ := List.pairwise_append.mp ks
  rw [plcAll_snoc, ih k1, plc_lastT fun u m => k2 u m t (List.mem_singleton.mpr rfl)]
section
variable {K : PySem.W.Frag}
/-- the bytes of some things, as the law puts them together -/
theorem vals_read {α : Type} {enc : α → List Int} (z : α) {A : Hp → V → α → Prop} {H : Hp} {ct D : Addr} {xs : List V} {as : List α} {Qd : Hp → Prop} {te : TE} {σ : L2.St} {vs : List Nat} {g : TG} (h2 : SqL K H ct xs) (l : xs.length = as.length) (l3 : as.length ≤ 300)
    (ha : ∀ (i : Nat) (x : V) (a : α), xs[i]? = some x → as[i]? = some a → ∀ H', Same H H' → A H' x a) (nD : H D = none)
    (hstep : ∀ (x : V) (a : α) (H' : Hp) (N : VK), A H' x a → MkL H' N (enc a) → g x (wipe σ vs) H' fun σ2 H2 => wipe σ2 vs = wipe σ vs ∧ te σ2 H2 N)
    (q : ∀ (H1 : Hp) (qs : List (Addr × List Int)), Same H H1 → H1 D = some (.lst (refs qs)) → Parts H1 qs → qs.map (·.2) = as.map enc → Qd H1) :
    ∃ W : Nat → Nat → Hp → Prop, (∃ m, W 0 m (upd H D (.lst []))) ∧ ∀ i m H', W i m H' →
      ((Itl K ct).stop i H' ∧ Qd H') ∨ ((Itl K ct).go i H' ∧ ∃ Nx : Hp → Prop, (∀ H'', Nx H'' → ∃ m', m' < m ∧ W (i + 1) m' H'') ∧ ∀ x H'', (Itl K ct).yld i H' x H'' → g x (wipe σ vs) H'' fun σ2 H2 => wipe σ2 vs = wipe σ vs ∧ tYes σ2 H2 fun b H3 =>
        if b = true then te σ2 H3 fun y H4 => ∃ acc, H4 D = some (.lst acc) ∧ acc.length < sizeLine ∧ Nx (upd H4 D (.lst (acc ++ [y]))) else Nx H3) := by
  refine lc_parts (walk_list (K := K) (a := ct) (xs := xs)) (fun i => enc (as.getD i z)) (by omega) nD (fun H' s' => s'.seq h2) (fun i x H1 H1' N hi s1 yy fin => ?_) fun H1 qs s1 eD p e2 _ => ?_
  · obtain ⟨rfl, ex⟩ := yy
    have hi' : i < as.length := by omega
    have ea : as[i]? = some as[i] := List.getElem?_eq_getElem hi'
    rw [getD_of ea] at fin
    exact hstep x as[i] _ N (ha i x as[i] ex ea _ s1) fin
  · rw [l, range_map] at e2
    exact q H1 qs s1 eD p e2
theorem imgB_len {c : Nat} {fs : List Fv} (hc : c < 2 ^ 140) (h : ∀ v ∈ fs, FvOk v) (l : fs.length ≤ 40) : (imgB c fs).length ≤ 300000 := by
  have := listB_len (xs := fs.map fvB) (b := 4900) (fun x m => by
    obtain ⟨v, mv, e⟩ := List.mem_map.mp m
    rw [← e]
    exact fvB_len (h v mv)) (by rw [List.length_map]; omega)
  rw [List.length_map] at this
  have h2 := numB_20 hc
  have : fs.length * 4900 ≤ 40 * 4900 := Nat.mul_le_mul_right _ l
  unfold imgB
  rw [List.length_append]
  omega
theorem ItsV.ok {H : Hp} {its : Its} {fs : List Fv} (h : ItsV K H its fs) : ∀ v ∈ fs, FvOk v := fun v m => by
  obtain ⟨i, e⟩ := List.mem_iff_getElem?.mp m
  have hi := (List.getElem?_eq_some_iff.mp e).1
  have := h.1
  exact (h.2 i (its[i]'(by omega)) v (List.getElem?_eq_getElem _) e).2
theorem ItsV.tk {H H' : Hp} {its : Its} {fs : List Fv} (t : Tk K H H') (h : ItsV K H its fs) : ItsV K H' its fs := ⟨h.1, fun i u v e f => ⟨(h.2 i u v e f).1.tk t, (h.2 i u v e f).2⟩⟩
end
def spImage (K : PySem.W.Frag) : Sp := fun vs H Q _ => ∃ (p d t : Addr) (tl : List Int), vs = [.ref p, .ref t] ∧ Rng d H p ∧ H t = some (.lst (tl.map V.int)) ∧ t ≠ p ∧ tl.length ≤ 2 ∧ ∀ H', Q (.bl true) H'
section
variable {P : Program} {w : World} {K : PySem.W.Frag} {mg : Str → Option Value} {base : Heap}
theorem ok_limage {f CR C : Addr} {fd : FuncData} (F0 : Fun K "_law_image" "_law_image" s_law_image f fd) (T0 : Bl mg) (X : Txt K mg C) (XR : TxtR K mg CR) (St : Sta P w K mg base C) (gReader : mg "Reader" = some (.ref CR)) (DReader : Kmk P w K mg base CR 1 ["self", "data"] (spRInit K CR))
    (D_law_next : Kn P w K mg base 3 "_law_next" ["state", "limit"] spNext) (D_law_some_items : Kn P w K mg base 8 "_law_some_items" ["state", "most"] (spSome4 K)) (D_law_number : Kn P w K mg base 1 "_law_number" ["number"] spNumber) (D_law_listed : Kn P w K mg base 2 "_law_listed" ["parts"] spListed) (D_law_item_bytes : Kn P w K mg base 6 "_law_item_bytes" ["item"] (spWItem K))
    (D_law_same : Kn P w K mg base 6 "_law_same" ["actual", "expected"] (spSm K 5)) (Dwrite_image : Kn P w K mg base 6 "write_image" ["commits", "state"] (spWImage K C)) (Rimage : Kmt P w K mg base CR 9 "read_image" ["self"] (spRdImage K CR C)) (D_law_is_state : Kn P w K mg base 6 "_law_is_state" ["actual", "ordered"] (spIsSt2 K C)) (D_law_ends : Kn P w K mg base 3 "_law_ends" ["reader", "tail"] (spEnds K CR)) :
    FnOk P w K mg base CX0 10 f fd ["state", "tail"] (spImage K) := by
  obtain ⟨fI, fdI, a0, dsI, M, GI, GI0, bI, bI0, vI0, hA0⟩ := St.ex
  refine F0.ok sc_law_image (fun vs H Q E h => ?_) (fun cdv A outer s0 H vs Q E hr h => ?_)
  · obtain ⟨p, d, t, tl, rfl, _⟩ := h
    rfl
  · obtain ⟨p, d, t, tl, rfl, rg, et, tp, lt, q⟩ := h
    have hr7 := hr.mono (show 7 ≤ 9 by decide)
    refine ⟨_, (pss_cons (ps_asg (pe_kn D_law_some_items hr (pa_cons (pv 0) (pa_cons pe_int pa_nil))) (pg_lst rfl (pgs_cons (pg_name (i := 2) sc_law_image.nd rfl (.inl rfl)) (pgs_cons (pg_name (i := 3) sc_law_image.nd rfl (.inl rfl)) pgs_nil))))
      (pss_cons (ps_set (i := 4) sc_law_image.nd rfl (.inl rfl) (pe_ix ix_list (pe_lst (pa_cons (pe_kn D_law_next hr (pa_cons (pv 0) (pa_cons pe_int pa_nil))) (pa_cons (pe_op op_mul (pe_op op_mul (pe_kn D_law_next hr (pa_cons (pv 0) (pa_cons pe_int pa_nil))) pe_int) pe_int) pa_nil))) (pe_kn D_law_next hr (pa_cons (pv 0) (pa_cons pe_int pa_nil))) (fun _ _ => rfl)))
      (pss_cons (ps_set (i := 5) sc_law_image.nd rfl (.inl rfl) (pe_op op_cat (pe_kn D_law_number hr (pa_cons (pv 4) pa_nil)) (pe_kn D_law_listed hr (pa_cons (pe_lc (own := [("item", 10)]) (g := gName 10) (tt := tYes) rfl sc_law_image.nd (pi_list (pv 3)) (blkOk_by (own := [("item", 10)]) (N := N_law_image) (sc := defScope s_law_image) (by decide +kernel)) (fun _ _ _ _ _ => pg_name (i := 10) sc_law_image.nd rfl (Or.inl rfl)) (fun _ _ _ _ _ => pts_nil) (fun _ _ _ _ _ => (pe_kn D_law_item_bytes hr (pa_cons (pv 10) pa_nil)))) pa_nil))))
      (pss_cons (ps_if (pt_not (pt_val (pe_kn D_law_same hr (pa_cons (pe_kn Dwrite_image hr (pa_cons (pv 4) (pa_cons (pe_make M GI hr7 (by rfl) X.mgC bI .nil pass0 (pa_cons (pv 2) pa_nil)) pa_nil))) (pa_cons (pv 5) pa_nil))))) (pss_one (ps_ret pe_bl)) pss_nil)
      (pss_cons (ps_set (i := 6) sc_law_image.nd rfl (.inl rfl) (pe_op op_cat (pe_kn D_law_number hr (pa_cons (pv 4) pa_nil)) (pe_kn D_law_listed hr (pa_cons (pe_lc (own := [("item", 10)]) (g := gName 10) (tt := tYes) rfl sc_law_image.nd (pi_list (pv 2)) (blkOk_by (own := [("item", 10)]) (N := N_law_image) (sc := defScope s_law_image) (by decide +kernel)) (fun _ _ _ _ _ => pg_name (i := 10) sc_law_image.nd rfl (Or.inl rfl)) (fun _ _ _ _ _ => pts_nil) (fun _ _ _ _ _ => (pe_kn D_law_item_bytes hr (pa_cons (pv 10) pa_nil)))) pa_nil))))
      (pss_cons (ps_for PassesOwn.never rfl (pi_list (pe_lst (pa_cons (pv 5) (pa_cons (pv 6) pa_nil)))) (pg_name (i := 7) sc_law_image.nd rfl (.inl rfl)) (pss_cons (ps_set (i := 8) sc_law_image.nd rfl (.inl rfl) (pe_mk DReader gReader hr (pa_cons (pe_op op_cat (pv 7) (pv 1)) pa_nil)))
      (pss_cons (ps_set (i := 9) sc_law_image.nd rfl (.inl rfl) (pe_mt0 Rimage hr (pv 8)))
      (pss_cons (ps_if (PW.pt (pw_or (pt_not (pt_val (pe_callB call_isi (by rfl) T0.isinstance (by decide +kernel) (pa_cons (pv 9) (pa_cons (pe_ty "tuple" (by rfl) T0.tuple (by decide +kernel)) pa_nil))))) (pw_or (pt_cmpR op_ne (pe_callB call_len_seq (by rfl) T0.len PySem.boot_len (pa_cons (pv 9) pa_nil)) pe_int (nomark _)) (pw_or1 (pt_not (pt_val (pe_kn D_law_same hr (pa_cons (pe_ix ix_tup (pv 9) pe_int (fun _ _ => rfl)) (pa_cons (pv 4) pa_nil))))))))) (pss_one (ps_ret pe_bl)) pss_nil)
      (pss_one (ps_if (PW.pt (pw_or (pt_not (pt_val (pe_kn D_law_is_state hr (pa_cons (pe_ix ix_tup (pv 9) pe_int (fun _ _ => rfl)) (pa_cons (pv 3) pa_nil))))) (pw_or (pt_not (pt_val (pe_kn D_law_same hr (pa_cons (pe_fld (pv 8) rfl) (pa_cons (pe_callB call_len_seq (by rfl) T0.len PySem.boot_len (pa_cons (pv 7) pa_nil)) pa_nil))))) (pw_or1 (pt_not (pt_val (pe_kn D_law_ends hr (pa_cons (pv 8) (pa_cons (pv 1) pa_nil))))))))) (pss_one (ps_ret pe_bl)) pss_nil))))))
      (pss_one (ps_ret pe_bl)))))))), ?_⟩
    -- the items
    refine ⟨_, rfl, p, d, 14, rfl, by decide, rg, ?_⟩
    rintro x1 H1 ⟨qq, l, o, its, rfl, eqq, el, eo, ig, iv, li, lo, lp, op, ld, od_⟩ gw1 rg1
    refine ⟨qq, _, rfl, SqL.of eqq, rfl, _, _, rfl, _, _, rfl, rfl, ?_⟩
    -- the commits
    refine ⟨_, rfl, p, d, 200, rfl, by decide, rg1, ?_⟩
    rintro x2 H2 ⟨va, rfl, va0, va1⟩ gw2 rg2
    refine ⟨_, rfl, p, d, 9973, rfl, by decide, rg2, ?_⟩
    rintro x3 H3 ⟨vb, rfl, vb0, vb1⟩ gw3 rg3
    refine ⟨_, _, rfl, rfl, .inr ⟨by decide, by decide⟩, _, _, rfl, rfl, .inr ⟨by decide, by decide⟩, sz 2, fun L nL => ?_⟩
    have sL := Same.new (o := .lst [.int va, .int (vb * 9973 * 9973)]) nL
    have eL := upd_same (H := H3) (a := L) (o := .lst [.int va, .int (vb * 9973 * 9973)])
    have fL := rg3.free nL
    generalize (upd H3 L (.lst [.int va, .int (vb * 9973 * 9973)])) = H4 at *
    refine ⟨_, rfl, p, d, 2, rfl, by decide, rg3.same sL, ?_⟩
    rintro x5 H5 ⟨vc, rfl, vc0, vc1⟩ gw5 rg5
    have pick : ∃ c : Nat, [V.int va, .int (vb * 9973 * 9973)][vc.toNat]? = some (.int (c : Nat)) ∧ c < 2 ^ 140 := by
      rcases (by omega : vc = 0 ∨ vc = 1) with z | z <;> subst z
      · exact ⟨va.toNat, by show some (V.int va) = _; rw [Int.toNat_of_nonneg va0], Nat.lt_of_lt_of_le (by omega : va.toNat < 200) (by decide)⟩
      · exact ⟨(vb * 9973 * 9973).toNat, by show some (V.int (vb * 9973 * 9973)) = _; rw [Int.toNat_of_nonneg (by omega)], Nat.lt_of_lt_of_le (by omega : (vb * 9973 * 9973).toNat < 9973 * 9973 * 9973) (by decide)⟩
    obtain ⟨c, ec, hc⟩ := pick
    refine ⟨L, _, vc, .int (c : Nat), rfl, rfl, SqL.of (gw5 _ _ fL.1 eL), at_of (j := vc.toNat) (by omega) ec, ?_⟩
    have gw15 : Gw p H1 H5 := ((gw2.trans gw3).trans (Gw.same sL)).trans gw5
    have et5 : H5 t = some (.lst (tl.map V.int)) := gw15 _ _ tp (gw1 _ _ tp et)
    have el5 := gw15 _ _ lp el
    have eo5 := gw15 _ _ op eo
    have t15 : Tk K H1 H5 := Rng.tk rg1 gw15
    obtain ⟨ks, so, los, mos⟩ := plcAll_ok its ig.sc
    have ig5 := ig.tk t15
    have og5 : ItsG K H5 (plcAll its) := fun u m => ig5 u (mos u m)
    obtain ⟨gs, gv⟩ := itsV_of fun u m => (iv u m).tk t15
    obtain ⟨fs, fv⟩ := itsV_of (its := plcAll its) fun u m => (iv u (mos u m)).tk t15
    have lg := gv.1
    have lf := fv.1
    have og := gv.ok
    have of_ := fv.ok
    have lenF := imgB_len hc of_ (by omega)
    have lenG := imgB_len hc og (by omega)
    clear gw1 rg1 gw2 rg2 gw3 rg3 gw5 rg5 sL eL fL nL ec eqq gw15 t15 ig iv rg et el eo
    have rd : ∀ {is : Its} {vs : List Fv} {H' : Hp}, ItsG K H5 is → ItsV K H5 is vs → Same H5 H' → ∀ (i : Nat) (x : V) (v : Fv), (irf is)[i]? = some x → vs[i]? = some v → ∀ H'', Same H' H'' → FvAt K H'' x v ∧ FvOk v := fun {is vs H'} g hv s i x v ex ev H'' s' => by
      obtain ⟨u, eu, rfl⟩ := irf_get ex
      obtain ⟨h1, h2⟩ := hv.2 i u v eu ev
      exact ⟨(h1.at_ (g u (List.mem_of_getElem? eu)).at_).tk (Tk.same (s.trans s')), h2⟩
    have pr : ∀ {vs : List Fv} {qs : List (Addr × List Int)}, (∀ v ∈ vs, FvOk v) → qs.map (·.2) = vs.map fvB → ∀ u ∈ qs, u.2.length ≤ 5000 := fun {vs qs} ov e u m => by
      have m1 : u.2 ∈ qs.map (·.2) := List.mem_map.mpr ⟨u, m, rfl⟩
      rw [e] at m1
      obtain ⟨v, mv, ev⟩ := List.mem_map.mp m1
      have := fvB_len (ov v mv)
      rw [← ev]
      omega
    -- due
    refine ⟨_, rfl, c, rfl, hc, fun H6 p6 s6 np6 ep6 => ?_⟩
    refine ⟨_, rfl, o, rfl, ⟨_, SqL.of (s6 _ _ eo5)⟩, fun D nD => ?_⟩
    refine vals_read (enc := fvB) (.lay "" []) (A := fun H' x v => FvAt K H' x v ∧ FvOk v) (SqL.of (s6 _ _ eo5)) (by rw [irf_len]; exact lf) (by omega) (rd og5 fv s6) nD (fun x v H' N a fin => ⟨rfl, _, rfl, x, v, rfl, a.1, a.2, fin⟩) fun H7 qs s7 eD pq e2 => ?_
    have lq := congrArg List.length e2
    rw [List.length_map, List.length_map] at lq
    refine ⟨D, qs, rfl, eD, pq, by omega, pr of_ e2, fun H8 p8 s8 np8 ep8 => ?_⟩
    rw [e2] at ep8
    refine catI (s8 _ _ (s7 _ _ ep6)) ep8 (by unfold imgB at lenF; rw [List.length_append] at lenF; omega) fun H9 p9 s9 np9 ep9 => ?_
    have s59 := ((s6.trans s7).trans s8).trans s9
    have ep9 : H9 p9 = some (.lst ((imgB c fs).map V.int)) := ep9
    clear ep8 pq eD e2 ep6 np6 nD np8 s6 s7 s8 s9
    -- the image written
    refine ⟨_, rfl, _, rfl, fun y dy ny ndy ney => ?_⟩
    have sm := same_make (C := C) ny ndy
    refine ⟨y, l, dy, its, rfl, upd_same, SqL.of (sm _ _ (s59 _ _ el5)), fun u m => ((ig5 u m).same (s59.trans sm)).at_, by omega, fun er ef es eL R S F L' H10 st10 pu gw10 => ⟨rfl, ?_⟩⟩
    have s10 := same_made ny ndy gw10
    have s510 := s59.trans s10
    refine ⟨y, er, ef, es, eL, _, R, S, F, L', 300, c, plcAll its, fs, rfl, st10, Nat.le_refl _, og5.same s510, fv.tk (Tk.same s510), ks, by omega, pu.rep its rfl (ig5.same (s59.trans sm)).sc, hc, fun H11 p11 s11 np11 ep11 => ?_⟩
    obtain ⟨b1, b2, _⟩ := bytes_ok (xs := imgB c fs) (by omega)
    refine ⟨_, rfl, .ref p11, .ref p9, _, rfl, bytes_dp ep11, bytes_dp (s11 _ _ (s10 _ _ ep9)), b1, b2, ?_⟩
    rintro z12 H12 rfl s12
    refine ⟨_, rfl, iteF ?_⟩
    have s512 := (s510.trans s11).trans s12
    have ep12 := s12 _ _ (s11 _ _ (s10 _ _ ep9))
    clear st10 pu gw10 s10 s510 sm ny ndy ney np9 np11 ep11 s11 s12 ep9 s59
    -- mixed
    refine ⟨_, rfl, c, rfl, hc, fun H13 p13 s13 np13 ep13 => ?_⟩
    have s513 := s512.trans s13
    refine ⟨_, rfl, l, rfl, ⟨_, SqL.of (s513 _ _ el5)⟩, fun D nD => ?_⟩
    refine vals_read (enc := fvB) (.lay "" []) (A := fun H' x v => FvAt K H' x v ∧ FvOk v) (SqL.of (s513 _ _ el5)) (by rw [irf_len]; exact lg) (by omega) (rd ig5 gv s513) nD (fun x v H' N a fin => ⟨rfl, _, rfl, x, v, rfl, a.1, a.2, fin⟩) fun H14 qs s14 eD pq e2 => ?_
    have lq := congrArg List.length e2
    rw [List.length_map, List.length_map] at lq
    refine ⟨D, qs, rfl, eD, pq, by omega, pr og e2, fun H15 p15 s15 np15 ep15 => ?_⟩
    rw [e2] at ep15
    refine catI (s15 _ _ (s14 _ _ ep13)) ep15 (by unfold imgB at lenG; rw [List.length_append] at lenG; omega) fun H16 p16 s16 np16 ep16 => ?_
    have s1316 := (s14.trans s15).trans s16
    have s516 := s513.trans s1316
    have ep16 : H16 p16 = some (.lst ((imgB c gs).map V.int)) := ep16
    have ep12 := s1316 _ _ (s13 _ _ ep12)
    clear ep15 pq eD e2 ep13 np13 nD np15 s14 s15 s16 s13 s512 s513 s1316
    -- reading
    refine ⟨_, rfl, _, rfl, sz 2, fun M nM => ?_⟩
    have s17 := Same.new (o := .lst [.ref p9, .ref p16]) nM
    have e17 := upd_same (H := H16) (a := M) (o := .lst [.ref p9, .ref p16])
    generalize (upd H16 M (.lst [.ref p9, .ref p16])) = H17 at *
    have s517 := s516.trans s17
    have e9 := s17 _ _ ep12
    have e16 := s17 _ _ ep16
    refine ⟨M, rfl, ⟨_, SqL.of e17⟩, for_list (K := K) (a := M) (xs := [.ref p9, .ref p16]) (fun j σ H' => ∃ y7 y8 y9, σ = [some (.ref p), some (.ref t), some (.ref l), some (.ref o), some (.int (c : Nat)), some (.ref p9), some (.ref p16), y7, y8, y9, none] ∧ Same H17 H')
      ⟨none, none, none, rfl, Same.refl _⟩ (fun j σ H18 _ hP => ?_) (fun j x σ H18 hx hP => ?_) (fun σ H18 hP => ?_)⟩
    · obtain ⟨_, _, _, _, s18⟩ := hP
      exact SqL.of (s18 _ _ e17)
    · obtain ⟨y7, y8, y9, rfl, s18⟩ := hP
      have s518 := s517.trans s18
      obtain ⟨pd, vals, ex, epd, oks, lens, l40, tws⟩ : ∃ (pd : Addr) (vals : List Fv), x = .ref pd ∧ H18 pd = some (.lst ((imgB c vals).map V.int)) ∧ (∀ v ∈ vals, FvOk v) ∧ (imgB c vals).length ≤ 300000 ∧ vals.length ≤ 40 ∧
          ∀ (is : Its) H', Same H5 H' → is.length = vals.length → (∀ (i : Nat) (u : Addr × It) (v : Fv), is[i]? = some u → vals[i]? = some v → FvIt K H' u.2 v) → Twl K H' (plcAll is) (plcAll its) := by
        match j, hx with
        | 0, hx =>
          cases hx
          refine ⟨p9, fs, rfl, s18 _ _ e9, of_, lenF, by omega, fun is H' s' l' h' => ?_⟩
          have := (Twl.of (fv.tk (Tk.same s')) (l'.trans lf.symm) h').plcAll
          rwa [plcAll_self _ ks] at this
        | 1, hx =>
          cases hx
          exact ⟨p16, gs, rfl, s18 _ _ e16, og, lenG, by omega, fun is H' s' l' h' => (Twl.of (gv.tk (Tk.same s')) (l'.trans lg.symm) h').plcAll⟩
        | n + 2, hx => cases hx
      subst ex
      refine ⟨_, rfl, _, rfl, catI epd (s518 _ _ et5) (by omega) fun H19 p19 s19 np19 ep19 => ?_⟩
      refine fun x dx nx nd ne => ⟨x, p19, dx, _, rfl, upd_same, SqL.of (same_make nx nd _ _ ep19), fun H20 da R20 nda g20 => ⟨rfl, ?_⟩⟩
      have s20 : Same H19 H20 := fun b o e => g20 b o (ne_of_none e nx) (same_make nx nd b o e)
      obtain ⟨dx2, ob2⟩ := R20.ob
      refine ⟨_, rfl, x, dx2, _, rfl, ob2, rfl, x, da, _, 0, c, vals, tl, rfl, R20, hc, oks, l40, rfl, fun tt y dr df dS dl Z R S F L its3 H21 R21 g21 ett st21 rep21 ig21 l21 v21 => ?_⟩
      have n18 : ∀ b o', H18 b = some o' → b ≠ x := fun b o' e => ne_of_none (s19 _ _ e) nx
      have s1821 : Same H18 H21 := fun b o e => g21 b o (n18 b o e) (s20 _ _ (s19 _ _ e))
      have s521 := s518.trans s1821
      refine ⟨_, rfl, .ref tt, .ty "tuple", .type "tuple", .type "tuple", true, rfl, .ty _, tupT2 (SqT.of ett), kit_ty (by decide +kernel), ?_⟩
      refine ⟨_, rfl, iteF ?_⟩
      refine ⟨_, rfl, tt, _, rfl, .inr (SqT.of ett), rfl, _, rfl, iteNS rfl ?_⟩
      refine ⟨_, rfl, tt, _, 0, _, rfl, rfl, SqT.of ett, at_of (j := 0) rfl rfl, _, rfl, .int (c : Nat), .int (c : Nat), .int (c : Nat), rfl, .int _, .int _, by rw [K1.ist], by simp [PyData.depth], ?_⟩
      rintro z22 H22 rfl s22
      refine ⟨_, rfl, iteF ?_⟩
      have s522 := s521.trans s22
      obtain ⟨ks3, so3, _, mos3⟩ := plcAll_ok its3 ig21.sc
      refine ⟨_, rfl, tt, _, 1, .ref y, rfl, rfl, SqT.of (s22 _ _ ett), at_of (j := 1) rfl rfl, _, rfl, y, o, dr, df, dS, dl, Z, R, S, F, L, 300, plcAll its, plcAll its3, rfl, st21.same s22, Nat.le_refl _, SqL.of (s522 _ _ eo5), og5.same s522, ks, by omega, rep21, fun u m => (ig21 u (mos3 u m)).same s22, ks3, (tws its3 H21 s521 l21 v21).tk (Tk.same s22), ?_⟩
      rintro z23 H23 rfl s23
      refine ⟨_, rfl, iteF ?_⟩
      have s523 := s522.trans s23
      have R23 := (R21.same s22).same s23
      obtain ⟨dx5, ob5⟩ := R23.ob
      refine ⟨_, rfl, x, CR, dx5, _, _, rfl, ob5, XR.cl, XR.at_, rfl, _, rfl, pd, _, rfl, .inl (SqL.of ((s1821.trans (s22.trans s23)) _ _ epd)), _, _, .int ((imgB c vals).length : Nat), rfl, by rw [Nat.zero_add]; exact .int _, by rw [List.length_map]; exact .int _, by rw [K1.ist], by simp [PyData.depth], ?_⟩
      rintro z24 H24 rfl s24
      refine ⟨_, rfl, iteF ?_⟩
      refine ⟨_, rfl, _, rfl, x, da, t, _, tl, _, rfl, R23.same s24, SqL.of ((s523.trans s24) _ _ et5), by rw [Nat.zero_add, List.length_append], ?_⟩
      rintro z25 H25 rfl s25
      refine ⟨_, rfl, iteF ?_⟩
      exact ⟨_, _, _, rfl, (((s18.trans s1821).trans (s22.trans s23)).trans s24).trans s25⟩
    · obtain ⟨y7, y8, y9, rfl, s18⟩ := hP
      exact q _
end
end K1
namespace K1
open PySem PySem.Spec PyProof.Rows L2 Ow Tlz Bd
abbrev slaw : Stmt := topS 67
abbrev Nlaw : List Str := ["script", "state", "tail", "number", "due", "text", "value", "row", "item", "changes", "k", "change"]
theorem sclaw : FnScope Nlaw ["script"] (defScope slaw) := ⟨rfl, rfl, rfl, by decide +kernel, rfl, by decide +kernel, by decide +kernel⟩
structure LS (H : Hp) (p d t : Addr) (tl : List Int) : Prop where
  rg : Rng d H p
  et : H t = some (.lst (tl.map V.int))
  tp : t ≠ p
  lt : tl.length ≤ 2
theorem LS.same {H H' : Hp} {p d t : Addr} {tl : List Int} (h : LS H p d t tl) (s : Same H H') : LS H' p d t tl := ⟨h.rg.same s, s _ _ h.et, h.tp, h.lt⟩
theorem LS.next {H H' : Hp} {p d t : Addr} {tl : List Int} (h : LS H p d t tl) (g : Gw p H H') (r : Rng d H' p) : LS H' p d t tl := ⟨r, g _ _ h.tp h.et, h.tp, h.lt⟩
theorem chB_len {cs : List Cv} (h : ∀ c ∈ cs, CvOk c) (l : cs.length ≤ 150) : (chB cs).length ≤ 800000 := by
  have := listB_len (xs := cs.map cvB) (b := 4950) (fun x m => by
    obtain ⟨v, mv, e⟩ := List.mem_map.mp m
    rw [← e]
    exact cvB_len (h v mv)) (by rw [List.length_map]; omega)
  rw [List.length_map] at this
  have : cs.length * 4950 ≤ 150 * 4950 := Nat.mul_le_mul_right _ l
  unfold chB
  omega
theorem ChAt.ok {K : PySem.W.Frag} {H : Hp} {xs : List V} {cs : List Cv} (h : ChAt K H xs cs) : ∀ c ∈ cs, CvOk c := fun c m => by
  obtain ⟨i, e⟩ := List.mem_iff_getElem?.mp m
  have hi := (List.getElem?_eq_some_iff.mp e).1
  have := h.1
  exact (h.2 i (xs[i]'(by omega)) c (List.getElem?_eq_getElem _) e).2
def spLaw (K : PySem.W.Frag) : Sp := fun vs H Q _ => ∃ (a : Addr) (ns : List Int), vs = [.ref a] ∧ SqL K H a (ns.map V.int) ∧ ns.length ≤ 63 ∧ ∀ H', Q (.bl true) H'
section
variable {P : Program} {w : World} {K : PySem.W.Frag} {mg : Str → Option Value} {base : Heap}
theorem ok_law {f : Addr} {fd : FuncData} (F : Fun K "law" "law" slaw f fd) (T0 : Bl mg)
    (D_law_draws : Kn P w K mg base 2 "_law_draws" ["script"] (spDraws K)) (D_law_next : Kn P w K mg base 3 "_law_next" ["state", "limit"] spNext) (D_law_value : Kn P w K mg base 5 "_law_value" ["state"] spValue) (D_law_text : Kn P w K mg base 4 "_law_text" ["state", "most"] spText) (D_law_row : Kn P w K mg base 6 "_law_row" ["state", "width"] spRow) (D_law_item : Kn P w K mg base 7 "_law_item" ["state"] (spItem4 K)) (D_law_any_changes : Kn P w K mg base 8 "_law_any_changes" ["state", "most"] (spAny K))
    (Dwrite_number : Kn P w K mg base 1 "write_number" ["number"] spNumber) (Dwrite_integer : Kn P w K mg base 2 "write_integer" ["number"] spInteger) (Dwrite_string : Kn P w K mg base 2 "write_string" ["text"] spString) (Dwrite_value : Kn P w K mg base 3 "write_value" ["value"] spVB) (Dwrite_row : Kn P w K mg base 4 "write_row" ["row"] (spRB K)) (Dwrite_item : Kn P w K mg base 5 "write_item" ["item"] (spWItem K)) (Dwrite_change : Kn P w K mg base 6 "write_change" ["change"] (spWChange K)) (Dwrite_changes : Kn P w K mg base 7 "write_changes" ["changes"] (spWChanges K))
    (D_law_number : Kn P w K mg base 1 "_law_number" ["number"] spNumber) (D_law_listed : Kn P w K mg base 2 "_law_listed" ["parts"] spListed) (D_law_string : Kn P w K mg base 3 "_law_string" ["text"] spString) (D_law_value_bytes : Kn P w K mg base 4 "_law_value_bytes" ["value"] spVB) (D_law_row_bytes : Kn P w K mg base 5 "_law_row_bytes" ["row"] (spRB K)) (D_law_item_bytes : Kn P w K mg base 6 "_law_item_bytes" ["item"] (spWItem K)) (D_law_change_bytes : Kn P w K mg base 7 "_law_change_bytes" ["change"] (spWChange K))
    (D_law_asks : Kn P w K mg base 12 "_law_asks" ["form", "thing", "told", "due", "tail"] (spAsks K)) (D_law_image : Kn P w K mg base 10 "_law_image" ["state", "tail"] (spImage K)) :
    FnOk P w K mg base CX0 13 f fd ["script"] (spLaw K) := by
  refine F.ok sclaw (fun vs H Q E h => ?_) (fun cdv A outer s0 H vs Q E hr h => ?_)
  · obtain ⟨a, ns, rfl, _⟩ := h
    rfl
  · obtain ⟨a, ns, rfl, hS, hlen, q⟩ := h
    refine ⟨_, (pss_cons (ps_set (i := 1) sclaw.nd rfl (.inr rfl) (pe_lst (pa_cons (pe_kn D_law_draws hr (pa_cons (pv 0) pa_nil)) (pa_cons pe_int pa_nil))))
      (pss_cons (ps_setLc (i := 2) (own := [("k", 10)]) (g := gName 10) (tt := tYes) rfl sclaw.nd rfl rfl (sw_true rfl rfl rfl (by decide +kernel)) (pi_range1 (by rfl) T0.range (pa_cons (pe_kn D_law_next hr (pa_cons (pv 1) (pa_cons pe_int pa_nil))) pa_nil)) (blkOk_by (own := [("k", 10)]) (N := Nlaw) (sc := defScope slaw) (by decide +kernel)) (fun _ _ _ _ _ => pg_name (i := 10) sclaw.nd rfl (Or.inl rfl)) (fun _ _ _ _ _ => pts_nil) (fun _ _ _ _ _ => (pe_kn D_law_next hr (pa_cons (pv 1) (pa_cons pe_int pa_nil)))))
      (pss_cons (ps_set (i := 3) sclaw.nd rfl (.inl rfl) (pe_kn D_law_value hr (pa_cons (pv 1) pa_nil)))
      (pss_mid (ps_if (pt_not (pt_val (pe_callB call_isi (by rfl) T0.isinstance (by decide +kernel) (pa_cons (pv 3) (pa_cons (pe_ty "int" (by rfl) T0.int (by decide +kernel)) pa_nil))))) (pss_one (ps_set (i := 3) sclaw.nd rfl (.inl rfl) pe_int)) pss_nil)
      (pss_cons (ps_if (pt_not (pt_val (pe_kn D_law_asks hr (pa_cons pe_str (pa_cons (pe_callB call_abs (by rfl) T0.abs (by decide +kernel) (pa_cons (pv 3) pa_nil)) (pa_cons (pe_kn Dwrite_number hr (pa_cons (pe_callB call_abs (by rfl) T0.abs (by decide +kernel) (pa_cons (pv 3) pa_nil)) pa_nil)) (pa_cons (pe_kn D_law_number hr (pa_cons (pe_callB call_abs (by rfl) T0.abs (by decide +kernel) (pa_cons (pv 3) pa_nil)) pa_nil)) (pa_cons (pv 2) pa_nil)))))))) (pss_one (ps_ret pe_bl)) pss_nil)
      (pss_cons (ps_set (i := 4) sclaw.nd rfl (.inl rfl) (pe_op op_cat (pe_lst (pa_cons (pe_callTy call_int1 (by rfl) T0.int (by decide +kernel) (pa_cons (pe_cmpR op_lt (pv 3) pe_int (nomark _)) pa_nil)) pa_nil)) (pe_kn D_law_number hr (pa_cons (pe_callB call_abs (by rfl) T0.abs (by decide +kernel) (pa_cons (pv 3) pa_nil)) pa_nil))))
      (pss_cons (ps_if (pt_not (pt_val (pe_kn D_law_asks hr (pa_cons pe_str (pa_cons (pv 3) (pa_cons (pe_kn Dwrite_integer hr (pa_cons (pv 3) pa_nil)) (pa_cons (pv 4) (pa_cons (pv 2) pa_nil)))))))) (pss_one (ps_ret pe_bl)) pss_nil)
      (pss_cons (ps_set (i := 5) sclaw.nd rfl (.inl rfl) (pe_kn D_law_text hr (pa_cons (pv 1) (pa_cons (pe_ix ix_list (pe_lst (pa_cons pe_int (pa_cons pe_int pa_nil))) (pe_kn D_law_next hr (pa_cons (pv 1) (pa_cons pe_int pa_nil))) (fun _ _ => rfl)) pa_nil))))
      (pss_cons (ps_if (pt_not (pt_val (pe_kn D_law_asks hr (pa_cons pe_str (pa_cons (pv 5) (pa_cons (pe_kn Dwrite_string hr (pa_cons (pv 5) pa_nil)) (pa_cons (pe_kn D_law_string hr (pa_cons (pv 5) pa_nil)) (pa_cons (pv 2) pa_nil)))))))) (pss_one (ps_ret pe_bl)) pss_nil)
      (pss_cons (ps_set (i := 6) sclaw.nd rfl (.inl rfl) (pe_kn D_law_value hr (pa_cons (pv 1) pa_nil)))
      (pss_cons (ps_if (pt_not (pt_val (pe_kn D_law_asks hr (pa_cons pe_str (pa_cons (pv 6) (pa_cons (pe_kn Dwrite_value hr (pa_cons (pv 6) pa_nil)) (pa_cons (pe_kn D_law_value_bytes hr (pa_cons (pv 6) pa_nil)) (pa_cons (pv 2) pa_nil)))))))) (pss_one (ps_ret pe_bl)) pss_nil)
      (pss_cons (ps_set (i := 7) sclaw.nd rfl (.inl rfl) (pe_kn D_law_row hr (pa_cons (pv 1) (pa_cons (pe_kn D_law_next hr (pa_cons (pv 1) (pa_cons pe_int pa_nil))) pa_nil))))
      (pss_cons (ps_if (pt_not (pt_val (pe_kn D_law_asks hr (pa_cons pe_str (pa_cons (pv 7) (pa_cons (pe_kn Dwrite_row hr (pa_cons (pv 7) pa_nil)) (pa_cons (pe_kn D_law_row_bytes hr (pa_cons (pv 7) pa_nil)) (pa_cons (pv 2) pa_nil)))))))) (pss_one (ps_ret pe_bl)) pss_nil)
      (pss_cons (ps_set (i := 8) sclaw.nd rfl (.inl rfl) (pe_kn D_law_item hr (pa_cons (pv 1) pa_nil)))
      (pss_cons (ps_if (pt_not (pt_val (pe_kn D_law_asks hr (pa_cons pe_str (pa_cons (pv 8) (pa_cons (pe_kn Dwrite_item hr (pa_cons (pv 8) pa_nil)) (pa_cons (pe_kn D_law_item_bytes hr (pa_cons (pv 8) pa_nil)) (pa_cons (pv 2) pa_nil)))))))) (pss_one (ps_ret pe_bl)) pss_nil)
      (pss_cons (ps_set (i := 9) sclaw.nd rfl (.inl rfl) (pe_op op_cat (pe_kn D_law_any_changes hr (pa_cons (pv 1) (pa_cons pe_int pa_nil))) (pe_lst (pa_cons (pe_tup (pa_cons pe_str (pa_cons (pe_tup (pa_cons (pe_kn D_law_next hr (pa_cons (pv 1) (pa_cons pe_int pa_nil))) (pa_cons pe_str (pa_cons (pe_tup pa_nil) pa_nil)))) pa_nil))) pa_nil))))
      (pss_mid (ps_if (pt_cmpR op_eq (pe_kn D_law_next hr (pa_cons (pv 1) (pa_cons pe_int pa_nil))) pe_int (nomark _)) (pss_one (ps_set (i := 9) sclaw.nd rfl (.inl rfl) (pe_op op_rep (pe_lst (pa_cons (pe_ix ix_list (pv 9) pe_int (fun _ _ => rfl)) pa_nil)) pe_int))) pss_nil)
      (pss_cons (ps_if (pt_not (pt_val (pe_kn D_law_asks hr (pa_cons pe_str (pa_cons (pe_ix ix_list (pv 9) pe_int (fun _ _ => rfl)) (pa_cons (pe_kn Dwrite_change hr (pa_cons (pe_ix ix_list (pv 9) pe_int (fun _ _ => rfl)) pa_nil)) (pa_cons (pe_kn D_law_change_bytes hr (pa_cons (pe_ix ix_list (pv 9) pe_int (fun _ _ => rfl)) pa_nil)) (pa_cons (pv 2) pa_nil)))))))) (pss_one (ps_ret pe_bl)) pss_nil)
      (pss_cons (ps_set (i := 4) sclaw.nd rfl (.inl rfl) (pe_kn D_law_listed hr (pa_cons (pe_lc (own := [("change", 11)]) (g := gName 11) (tt := tYes) rfl sclaw.nd (pi_list (pv 9)) (blkOk_by (own := [("change", 11)]) (N := Nlaw) (sc := defScope slaw) (by decide +kernel)) (fun _ _ _ _ _ => pg_name (i := 11) sclaw.nd rfl (Or.inl rfl)) (fun _ _ _ _ _ => pts_nil) (fun _ _ _ _ _ => (pe_kn D_law_change_bytes hr (pa_cons (pv 11) pa_nil)))) pa_nil)))
      (pss_cons (ps_if (pt_not (pt_val (pe_kn D_law_asks hr (pa_cons pe_str (pa_cons (pv 9) (pa_cons (pe_kn Dwrite_changes hr (pa_cons (pe_callTy call_list_of (by rfl) T0.list (by decide +kernel) (pa_cons (pv 9) pa_nil)) pa_nil)) (pa_cons (pv 4) (pa_cons (pv 2) pa_nil)))))))) (pss_one (ps_ret pe_bl)) pss_nil)
      (pss_one (ps_ret (pe_kn D_law_image hr (pa_cons (pv 1) (pa_cons (pv 2) pa_nil))))))))))))))))))))))))), ?_⟩
    refine ⟨_, rfl, a, ns, rfl, hS, hlen, ?_⟩
    intro H1 d dsn sm1 nd ed
    refine ⟨sz 2, fun p np => ?_⟩
    have ndp : d ≠ p := ne_of_none ed np
    have rg2 : Rng d (upd H1 p (.lst [.ref d, .int 20])) p := ⟨dsn, 20, upd_same, by decide, by rw [upd_ne ndp]; exact ed⟩
    generalize (upd H1 p (.lst [.ref d, .int 20])) = H2 at rg2 ⊢
    clear sm1 nd ed hS np
    -- tail
    refine ⟨_, rfl, p, d, 3, rfl, by decide, rg2, ?_⟩
    rintro x3 H3 ⟨v3, rfl, v30, v31⟩ gw3 rg3
    refine ⟨v3, rfl, by omega, by omega, fun t nt => lc_range (lo := 0) (n := v3.toNat) (fun j H4 => ∃ tl : List Int, H4 t = some (.lst (tl.map V.int)) ∧ tl.length = j ∧ Rng d H4 p)
      ⟨[], upd_same, rfl, rg3.same (Same.new nt)⟩ (fun j H4 hj hP => ?_) (fun H4 hP => ?_)⟩
    · obtain ⟨tl, et, lt, rg4⟩ := hP
      have ft := rg3.free nt
      refine ⟨rfl, _, rfl, p, d, 256, rfl, by decide, rg4, ?_⟩
      rintro x5 H5 ⟨v5, rfl, _, _⟩ gw5 rg5
      have et5 := gw5 _ _ ft.1 et
      exact ⟨_, et5, by rw [List.length_map]; exact small (m := 1000) (by omega) (by decide), tl ++ [v5], by rw [upd_same, List.map_append]; rfl, by rw [List.length_append, lt]; rfl, rg5.upd ft⟩
    obtain ⟨tl, et, lt, rg4⟩ := hP
    have L4 : LS H4 p d t tl := ⟨rg4, et, (rg3.free nt).1, by omega⟩
    clear et lt rg4 gw3 rg3 rg2 nt
    -- number
    refine ⟨_, rfl, p, d, rfl, L4.rg, ?_⟩
    rintro y6 H6 hs gw6 rg6
    have L6 := L4.next gw6 rg6
    refine ⟨fun σ' H' => ∃ i : Int, σ' = [some (.ref a), some (.ref p), some (.ref t), some (.int i), none, none, none, none, none, none, none, none] ∧ i.natAbs < 2 ^ 140 ∧ LS H' p d t tl, ?_, ?_⟩
    · rcases hs with ⟨i, rfl, hi⟩ | ⟨z, rfl, pz, lz⟩
      · refine ⟨_, rfl, _, _, .type "int", .type "int", true, rfl, .ty _, .base (.int i), kit_ty (by decide +kernel), ?_⟩
        exact ⟨_, rfl, iteF ⟨i, rfl, hi, L6⟩⟩
      · refine ⟨_, rfl, _, _, .type "str", .type "int", false, rfl, .ty _, .base (.str z), kit_ty (by decide +kernel), ?_⟩
        exact ⟨_, rfl, iteT ⟨300, rfl, by decide, L6⟩⟩
    rintro σ' H7 ⟨i, rfl, hi, L7⟩
    have ln := numB_20 hi
    refine ⟨_, rfl, i, rfl, _, rfl, i, rfl, i.natAbs, by rw [abs_eq]; rfl, hi, fun H8 p8 s8 np8 ep8 => ?_⟩
    refine ⟨_, rfl, i, rfl, i.natAbs, by rw [abs_eq]; rfl, hi, fun H9 p9 s9 np9 ep9 => ?_⟩
    have L9 := (L7.same s8).same s9
    refine ⟨_, rfl, .num i.natAbs, .int ((i.natAbs : Nat) : Int), p8, p9, t, tl, by rw [abs_eq]; rfl, rfl, hi, by show (numB i.natAbs).length ≤ _; omega, s9 _ _ ep8, ep9, L9.et, L9.lt, ?_⟩
    rintro z10 H10 rfl s10
    refine ⟨_, rfl, iteF ?_⟩
    have L10 := L9.same s10
    clear ep8 ep9 np8 np9 s8 s9 s10 L9
    -- integer
    have li : (intB i).length ≤ 22 := by unfold intB; rw [List.length_cons]; omega
    refine ⟨_, rfl, _, _, rfl, rfl, .inr ⟨_, rfl, sz 1, fun u nu => ⟨_, rfl, i, rfl, i.natAbs, by rw [abs_eq]; rfl, hi, fun H11 p11 s11 np11 ep11 => ?_⟩⟩⟩
    have eu : (upd H10 u (.lst [.int (if decide (i < 0) = true then 1 else 0)])) u = some (.lst (([if i < 0 then 1 else 0] : List Int).map V.int)) := by
      rw [upd_same]
      by_cases e : i < 0
      · rw [if_pos e, if_pos (decide_eq_true e)]; rfl
      · rw [if_neg e, if_neg (fun z => e (of_decide_eq_true z))]; rfl
    have su := Same.new (o := .lst [.int (if decide (i < 0) = true then 1 else 0)]) nu
    refine catI (s11 _ _ eu) ep11 (by rw [List.length_singleton]; omega) fun H12 p12 s12 np12 ep12 => ?_
    have ep12 : H12 p12 = some (.lst ((intB i).map V.int)) := ep12
    have L12 := L10.same ((su.trans s11).trans s12)
    clear eu su s11 s12 np11 ep11 np12
    refine ⟨_, rfl, _, rfl, i, rfl, hi, fun H13 p13 s13 np13 ep13 => ?_⟩
    have L13 := L12.same s13
    refine ⟨_, rfl, _, rfl, .int i, .int i, p13, p12, t, tl, rfl, rfl, hi, by show (intB i).length ≤ _; omega, ep13, s13 _ _ ep12, L13.et, L13.lt, ?_⟩
    rintro z14 H14 rfl s14
    refine ⟨_, rfl, iteF ?_⟩
    have L14 := L13.same s14
    clear ep12 ep13 np13 s13 s14 L13 L12 L10 L7 L6 L4 nu
    -- text
    refine ⟨_, rfl, sz 2, fun u nu => ?_⟩
    have su := Same.new (o := .lst [.int 30, .int 200]) nu
    have eu := upd_same (H := H14) (a := u) (o := .lst [.int 30, .int 200])
    have fu := L14.rg.free nu
    generalize (upd H14 u (.lst [.int 30, .int 200])) = H15 at *
    have L15 := L14.same su
    refine ⟨_, rfl, p, d, 2, rfl, by decide, L15.rg, ?_⟩
    rintro x16 H16 ⟨v16, rfl, w0, w1⟩ gw16 rg16
    have pick : ∃ m : Nat, [V.int 30, .int 200][v16.toNat]? = some (.int (m : Nat)) ∧ m ≤ 200 := by
      rcases (by omega : v16 = 0 ∨ v16 = 1) with z | z <;> subst z
      · exact ⟨30, rfl, by decide⟩
      · exact ⟨200, rfl, by decide⟩
    obtain ⟨m, em, hm⟩ := pick
    have L16 := L15.next gw16 rg16
    refine ⟨u, _, v16, .int (m : Nat), rfl, rfl, SqL.of (gw16 _ _ fu.1 eu), at_of (j := v16.toNat) (by omega) em, ?_⟩
    refine ⟨p, d, m, rfl, by omega, L16.rg, ?_⟩
    rintro x17 H17 ⟨z, rfl, pz, lz⟩ gw17 rg17
    have L17 := L16.next gw17 rg17
    have lz2 : z.length ≤ 200 := by omega
    have ls := strB_len4 ⟨pz, lz2⟩
    clear em su eu fu nu L15 L16 gw16 gw17 rg16 rg17 L14
    refine ⟨_, rfl, _, rfl, z, rfl, pz, lz2, fun H18 p18 s18 np18 ep18 => ?_⟩
    refine ⟨_, rfl, z, rfl, pz, lz2, fun H19 p19 s19 np19 ep19 => ?_⟩
    have L19 := (L17.same s18).same s19
    refine ⟨_, rfl, .str z, .str z, p18, p19, t, tl, rfl, rfl, ⟨pz, lz2⟩, by show (strB z).length ≤ _; omega, s19 _ _ ep18, ep19, L19.et, L19.lt, ?_⟩
    rintro z20 H20 rfl s20
    refine ⟨_, rfl, iteF ?_⟩
    have L20 := L19.same s20
    clear ep18 ep19 np18 np19 s18 s19 s20 L19 L17
    -- value
    refine ⟨_, rfl, p, d, rfl, L20.rg, ?_⟩
    rintro v21 H21 sv gw21 rg21
    have L21 := L20.next gw21 rg21
    have lv := valB_len sv
    refine ⟨_, rfl, _, rfl, v21, rfl, sv, fun H22 p22 s22 np22 ep22 => ?_⟩
    refine ⟨_, rfl, v21, rfl, sv, fun H23 p23 s23 np23 ep23 => ?_⟩
    have L23 := (L21.same s22).same s23
    refine ⟨_, rfl, .val v21, v21, p22, p23, t, tl, rfl, rfl, sv, by show (valB v21).length ≤ _; omega, s23 _ _ ep22, ep23, L23.et, L23.lt, ?_⟩
    rintro z24 H24 rfl s24
    refine ⟨_, rfl, iteF ?_⟩
    have L24 := L23.same s24
    clear ep22 ep23 np22 np23 s22 s23 s24 L23 L21 L20 gw21 rg21
    -- row
    refine ⟨_, rfl, _, rfl, p, d, 6, rfl, by decide, L24.rg, ?_⟩
    rintro x25 H25 ⟨v25, rfl, u0, u1⟩ gw25 rg25
    have L25 := L24.next gw25 rg25
    refine ⟨p, d, v25.toNat, by rw [Int.toNat_of_nonneg u0]; rfl, by omega, L25.rg, ?_⟩
    rintro x26 H26 ⟨rw, xs, rfl, er, lr, sr⟩ gw26 rg26
    have L26 := L25.next gw26 rg26
    have lr10 : xs.length ≤ 10 := by omega
    have lb := rowB_len sr lr10
    refine ⟨_, rfl, _, rfl, rw, xs, rfl, SqT.of er, sr, lr10, fun H27 p27 s27 np27 ep27 => ?_⟩
    refine ⟨_, rfl, rw, xs, rfl, SqT.of (s27 _ _ er), sr, lr10, fun H28 p28 s28 np28 ep28 => ?_⟩
    have L28 := (L26.same s27).same s28
    refine ⟨_, rfl, .row xs, .ref rw, p27, p28, t, tl, rfl, ⟨rw, rfl, SqT.of (s28 _ _ (s27 _ _ er))⟩, ⟨sr, lr10⟩, by show (rowB xs).length ≤ _; omega, s28 _ _ ep27, ep28, L28.et, L28.lt, ?_⟩
    rintro z29 H29 rfl s29
    refine ⟨_, rfl, iteF ?_⟩
    have L29 := L28.same s29
    clear ep27 ep28 np27 np28 s27 s28 s29 L28 L26 L25 L24 gw25 rg25 gw26 rg26 er
    -- item
    refine ⟨_, rfl, p, d, rfl, L29.rg, ?_⟩
    rintro x30 H30 ⟨b, it, rfl, hi30, fv, hv, ov⟩ gw30 rg30
    have L30 := L29.next gw30 rg30
    have hf : FvAt K H30 (.ref b) fv := hv.at_ hi30.at_
    have lb2 := fvB_len ov
    refine ⟨_, rfl, _, rfl, .ref b, fv, rfl, hf, ov, fun H31 p31 s31 np31 ep31 => ?_⟩
    refine ⟨_, rfl, .ref b, fv, rfl, hf.tk (Tk.same s31), ov, fun H32 p32 s32 np32 ep32 => ?_⟩
    have L32 := (L30.same s31).same s32
    refine ⟨_, rfl, .item fv, .ref b, p31, p32, t, tl, rfl, hf.tk (Tk.same (s31.trans s32)), ov, by show (fvB fv).length ≤ _; omega, s32 _ _ ep31, ep32, L32.et, L32.lt, ?_⟩
    rintro z33 H33 rfl s33
    refine ⟨_, rfl, iteF ?_⟩
    have L33 := L32.same s33
    clear ep31 ep32 np31 np32 s31 s32 s33 L32 L30 L29 gw30 rg30 hi30 hv hf
    -- changes
    refine ⟨_, rfl, p, d, 6, rfl, by decide, L33.rg, ?_⟩
    rintro x34 H34 ⟨qc, xc, cs, rfl, eqc, ch, lc⟩ gw34 rg34
    have L34 := L33.next gw34 rg34
    refine ⟨_, rfl, p, d, 4, rfl, by decide, L34.rg, ?_⟩
    rintro x35 H35 ⟨v35, rfl, k0, k1⟩ gw35 rg35
    have L35 := L34.next gw35 rg35
    refine ⟨sz 0, fun t0 nt0 => ⟨sz 3, fun t1 nt1 => ⟨sz 2, fun t2 nt2 => ⟨sz 1, fun l nl => ?_⟩⟩⟩⟩
    have f0 := L35.rg.free nt0
    have ch35 : ChAt K H35 xc cs := ch.tk (Rng.tk L34.rg gw35)
    have nqp : qc ≠ p := fun z => by
      obtain ⟨dd, kk, e, _⟩ := L34.rg
      rw [z, e] at eqc
      injection eqc with e1
      injection e1 with e1
      subst e1
      cases cs with
      | nil => cases ch.1
      | cons c cs =>
        obtain ⟨h1, _⟩ := ch.2 0 _ c rfl rfl
        have l2 := ch.1
        cases cs with
        | nil => cases l2
        | cons c2 cs =>
          obtain ⟨h2, _⟩ := ch.2 1 _ c2 rfl rfl
          cases c2 with
          | comes v => obtain ⟨a, y, e, _⟩ := h2; cases e
          | goes s n row => obtain ⟨a, k, r, e, _⟩ := h2; cases e
    have eqc35 : H35 qc = some (.lst xc) := gw35 _ _ nqp eqc
    have m0 := Same.new (o := .tup []) nt0
    have e0 := upd_same (H := H35) (a := t0) (o := .tup [])
    generalize (upd H35 t0 (.tup [])) = G0 at *
    have m1 := Same.new (o := .tup [.int v35, .str "a", .ref t0]) nt1
    have e1 := upd_same (H := G0) (a := t1) (o := .tup [.int v35, .str "a", .ref t0])
    generalize (upd G0 t1 (.tup [.int v35, .str "a", .ref t0])) = G1 at *
    have m2 := Same.new (o := .tup [.str "goes", .ref t1]) nt2
    have e2 := upd_same (H := G1) (a := t2) (o := .tup [.str "goes", .ref t1])
    generalize (upd G1 t2 (.tup [.str "goes", .ref t1])) = G2 at *
    have m3 := Same.new (o := .lst [.ref t2]) nl
    have e3 := upd_same (H := G2) (a := l) (o := .lst [.ref t2])
    generalize (upd G2 l (.lst [.ref t2])) = G3 at *
    have m03 := ((m0.trans m1).trans m2).trans m3
    have lx := ch.1
    refine ⟨qc, l, xc, [.ref t2], rfl, rfl, m03 _ _ eqc35, e3, sz _ (by rw [List.length_singleton]; omega), fun u nu => ?_⟩
    have m4 := Same.new (o := .lst (xc ++ [V.ref t2])) nu
    have e4 := upd_same (H := G3) (a := u) (o := .lst (xc ++ [V.ref t2]))
    generalize (upd G3 u (.lst (xc ++ [V.ref t2]))) = H36 at *
    have m04 := m03.trans m4
    have L36 := L35.same m04
    have oka : CvOk (.goes v35.toNat "a" []) := ⟨by omega, ⟨by decide +kernel, by decide +kernel⟩, (fun _ m => nomatch m), Nat.zero_le _⟩
    have gat : CvAt K H36 (.ref t2) (.goes v35.toNat "a" []) := by
      refine ⟨t2, t1, t0, rfl, SqT.of ((m3.trans m4) _ _ e2), ?_, SqT.of ((((m1.trans m2).trans m3).trans m4) _ _ e0)⟩
      rw [Int.toNat_of_nonneg k0]
      exact SqT.of (((m2.trans m3).trans m4) _ _ e1)
    have ch36 : ChAt K H36 (xc ++ [V.ref t2]) (cs ++ [.goes v35.toNat "a" []]) := by
      refine ⟨by rw [List.length_append, List.length_append, lx]; rfl, fun i' x' c' ex ec => ?_⟩
      by_cases z : i' < xc.length
      · rw [List.getElem?_append_left z] at ex
        rw [List.getElem?_append_left (by omega)] at ec
        obtain ⟨h1, h2⟩ := ch35.2 i' x' c' ex ec
        exact ⟨h1.tk (Tk.same m04), h2⟩
      · have hm := (List.getElem?_eq_some_iff.mp ex).1
        rw [List.length_append, List.length_singleton] at hm
        have z2 : i' = xc.length := by omega
        subst z2
        have a1 : V.ref t2 = x' := by simpa using ex
        rw [lx] at ec
        have a2 : Cv.goes v35.toNat "a" [] = c' := by simpa using ec
        subst a1 a2
        exact ⟨gat, oka⟩
    have lc36 : 1 ≤ (cs ++ [Cv.goes v35.toNat "a" []]).length ∧ (cs ++ [Cv.goes v35.toNat "a" []]).length ≤ 21 := by
      rw [List.length_append, List.length_singleton]
      omega
    generalize cs ++ [Cv.goes v35.toNat "a" []] = ds at ch36 lc36
    generalize xc ++ [V.ref t2] = ys at ch36 e4
    clear gat oka m4 m3 m2 m1 m0 m03 m04 e3 e2 e1 e0 eqc35 eqc ch ch35 nt0 nt1 nt2 nl nu f0 nqp L35 L34 L33 gw34 rg34 gw35 rg35 lx lc
    obtain ⟨lc1, lc2⟩ := lc36
    refine ⟨fun σ' H' => ∃ (q' : Addr) (xs' : List V) (cs' : List Cv), σ' = [some (.ref a), some (.ref p), some (.ref t), some (.int i), some (.ref p12), some (.str z), some v21, some (.ref rw), some (.ref b), some (.ref q'), none, none] ∧ H' q' = some (.lst xs') ∧ ChAt K H' xs' cs' ∧ 1 ≤ cs'.length ∧ cs'.length ≤ 150 ∧ LS H' p d t tl, ?_, ?_⟩
    · refine ⟨_, rfl, p, d, 10, rfl, by decide, L36.rg, ?_⟩
      rintro x37 H37 ⟨v37, rfl, _, _⟩ gw37 rg37
      have L37 := L36.next gw37 rg37
      have ch37 : ChAt K H37 ys ds := ch36.tk (Rng.tk L36.rg gw37)
      have nup : u ≠ p := fun z => by
        obtain ⟨dd, kk, e, _⟩ := L36.rg
        rw [z, e] at e4
        injection e4 with e1
        injection e1 with e1
        subst e1
        have l2 := ch36.1
        cases ds with
        | nil => cases l2
        | cons c ds =>
          cases ds with
          | nil => cases l2
          | cons c2 ds =>
            obtain ⟨h2, _⟩ := ch36.2 1 _ c2 rfl rfl
            cases c2 with
            | comes v => obtain ⟨a, y, e, _⟩ := h2; cases e
            | goes s n row => obtain ⟨a, k, r, e, _⟩ := h2; cases e
      have e37 := gw37 _ _ nup e4
      refine ⟨rfl, _, rfl, ite2 (fun _ => ?_) (fun _ => ?_)⟩
      · have l1 := ch37.1
        have ey : ys[0]? = some (ys[0]'(by omega)) := List.getElem?_eq_getElem _
        have ed : ds[0]? = some (ds[0]'(by omega)) := List.getElem?_eq_getElem _
        generalize ys[0]'(by omega) = y0 at ey
        generalize ds[0]'(by omega) = c0 at ed
        obtain ⟨h0, o0⟩ := ch37.2 0 y0 c0 ey ed
        refine ⟨_, rfl, u, ys, 0, y0, rfl, rfl, SqL.of e37, at_of (j := 0) rfl ey, sz 1, fun l1 nl1 => ⟨l1, 130, _, rfl, rfl, upd_same, by decide, by decide, by show 1 * 130 ≤ sizeLine; decide, fun l2 nl2 => ?_⟩⟩
        have s38 := (Same.new (o := .lst [y0]) nl1).trans (Same.new (o := .lst (List.replicate (130 : Int).toNat [y0]).flatten) nl2)
        refine ⟨l2, List.replicate 130 y0, List.replicate 130 c0, rfl, ?_, ⟨by rw [List.length_replicate, List.length_replicate], fun i' x' c' ex ec => ?_⟩, by rw [List.length_replicate]; decide, by rw [List.length_replicate]; decide, L37.same s38⟩
        · rw [upd_same]
          exact congrArg (fun z => some (HO.lst z)) List.flatten_replicate_singleton
        · have hx := List.eq_of_mem_replicate (List.mem_of_getElem? ex)
          have hc := List.eq_of_mem_replicate (List.mem_of_getElem? ec)
          rw [hx, hc]
          exact ⟨h0.tk (Tk.same s38), o0⟩
      · exact ⟨u, ys, ds, rfl, e37, ch37, lc1, by omega, L37⟩
    rintro σ' H40 ⟨qc, xs40, cs, rfl, eq, ch, c1, c2, L40⟩
    have lx := ch.1
    have ey : xs40[0]? = some (xs40[0]'(by omega)) := List.getElem?_eq_getElem _
    have ed : cs[0]? = some (cs[0]'(by omega)) := List.getElem?_eq_getElem _
    generalize xs40[0]'(by omega) = y0 at ey
    generalize cs[0]'(by omega) = c0 at ed
    obtain ⟨h0, o0⟩ := ch.2 0 y0 c0 ey ed
    have lb3 := cvB_len o0
    refine ⟨_, rfl, qc, xs40, 0, y0, rfl, rfl, SqL.of eq, at_of (j := 0) rfl ey, _, rfl, qc, xs40, 0, y0, rfl, rfl, SqL.of eq, at_of (j := 0) rfl ey, y0, c0, rfl, h0, o0, fun H41 p41 s41 np41 ep41 => ?_⟩
    refine ⟨_, rfl, qc, xs40, 0, y0, rfl, rfl, SqL.of (s41 _ _ eq), at_of (j := 0) rfl ey, y0, c0, rfl, h0.tk (Tk.same s41), o0, fun H42 p42 s42 np42 ep42 => ?_⟩
    have L42 := (L40.same s41).same s42
    refine ⟨_, rfl, .change c0, y0, p41, p42, t, tl, rfl, h0.tk (Tk.same (s41.trans s42)), o0, by show (cvB c0).length ≤ _; omega, s42 _ _ ep41, ep42, L42.et, L42.lt, ?_⟩
    rintro z43 H43 rfl s43
    refine ⟨_, rfl, iteF ?_⟩
    have L43 := L42.same s43
    have s4043 := (s41.trans s42).trans s43
    have eq43 := s4043 _ _ eq
    have ch43 : ChAt K H43 xs40 cs := ch.tk (Tk.same s4043)
    clear ep41 ep42 np41 np42 s41 s42 s43 s4043 L42 L40 eq ch h0
    -- all changes
    refine ⟨_, rfl, qc, rfl, ⟨_, SqL.of eq43⟩, fun D nD => ?_⟩
    refine vals_read (enc := cvB) (.goes 0 "" []) (A := fun H' x v => CvAt K H' x v ∧ CvOk v) (SqL.of eq43) lx (by omega) (fun i x c ex ec H' s' => ⟨((ch43.2 i x c ex ec).1).tk (Tk.same s'), (ch43.2 i x c ex ec).2⟩) nD (fun x v H' N a fin => ⟨rfl, _, rfl, x, v, rfl, a.1, a.2, fin⟩) fun H44 qs s44 eD pq e2 => ?_
    have lq := congrArg List.length e2
    rw [List.length_map, List.length_map] at lq
    have okc := ch43.ok
    refine ⟨D, qs, rfl, eD, pq, by omega, fun w mw => ?_, fun H45 p45 s45 np45 ep45 => ?_⟩
    · have m1 : w.2 ∈ qs.map (·.2) := List.mem_map.mpr ⟨w, mw, rfl⟩
      rw [e2] at m1
      obtain ⟨v, mv, ev⟩ := List.mem_map.mp m1
      have := cvB_len (okc v mv)
      rw [← ev]
      omega
    rw [e2] at ep45
    have ep45 : H45 p45 = some (.lst ((chB cs).map V.int)) := ep45
    have L45 := (L43.same s44).same s45
    have s4345 := s44.trans s45
    have eq45 := s4345 _ _ eq43
    have ch45 : ChAt K H45 xs40 cs := ch43.tk (Tk.same s4345)
    refine ⟨_, rfl, _, rfl, qc, _, rfl, .inl (SqL.of eq45), fun l nl => ?_⟩
    have sl := Same.new (o := .lst xs40) nl
    refine ⟨l, xs40, cs, rfl, SqL.of upd_same, ch45.tk (Tk.same sl), by omega, fun H46 p46 s46 np46 ep46 => ?_⟩
    have s4546 := sl.trans s46
    have L46 := L45.same s4546
    refine ⟨_, rfl, _, rfl, .changes cs, .ref qc, p46, p45, t, tl, rfl, ⟨qc, xs40, rfl, SqL.of (s4546 _ _ eq45), ch45.tk (Tk.same s4546)⟩, ⟨by omega, okc⟩, by have := chB_len okc c2; show (chB cs).length ≤ _; omega, ep46, s4546 _ _ ep45, L46.et, L46.lt, ?_⟩
    rintro z47 H47 rfl s47
    refine ⟨_, rfl, iteF ?_⟩
    have L47 := L46.same s47
    exact ⟨_, rfl, _, rfl, p, d, t, tl, rfl, L47.rg, L47.et, L47.tp, L47.lt, q⟩
end
end K1
namespace K1
open PySem PySem.Spec PyProof.Rows L2 Ow Tlz Bd
theorem kn_of {P : Program} {w : World} {K : PySem.W.Frag} {mg : Str → Option Value} {base : Heap} {k : Nat} {x qual : Str} {st : Stmt} {f : Addr} {fd : FuncData} {ps : List Str} {sp : Sp}
    (F : Fun K x qual st f fd) (g : mg x = some (.ref f)) (b : Binds K fd ps []) (ok : FnOk P w K mg base CX0 k f fd ps sp) : Kn P w K mg base k x ps sp := ⟨⟨f, fd, ok, g, F.kp, b⟩⟩
theorem all_mk {l : PySem.W.OpenLaw} {w : World} {K : PySem.W.Frag} {h : Heap} {mg : Str → Option Value} {fa : Addr} (X : K.In h) (G : h.Ns mainGlobals mg) (hfa : mg "law" = some (.ref fa))
    {f1 : Addr} {od1 an1 : Option Addr} {sl1 : Array (Option Value)} {oc1 kV1 dc1 pm1 cd1 ct1 : Value}
    {f2 : Addr} {od2 an2 : Option Addr} {sl2 : Array (Option Value)} {oc2 kV2 dc2 pm2 cd2 ct2 : Value}
    {f3 : Addr} {od3 an3 : Option Addr} {sl3 : Array (Option Value)} {oc3 kV3 dc3 pm3 cd3 ct3 : Value}
    {f4 : Addr} {od4 an4 : Option Addr} {sl4 : Array (Option Value)} {oc4 kV4 dc4 pm4 cd4 ct4 : Value}
    {f5 : Addr} {od5 an5 : Option Addr} {sl5 : Array (Option Value)} {oc5 kV5 dc5 pm5 cd5 ct5 : Value}
    {f6 : Addr} {od6 an6 : Option Addr} {sl6 : Array (Option Value)} {oc6 kV6 dc6 pm6 cd6 ct6 : Value}
    {f7 : Addr} {od7 an7 : Option Addr} {sl7 : Array (Option Value)} {oc7 kV7 dc7 pm7 cd7 ct7 : Value}
    {f8 : Addr} {od8 an8 : Option Addr} {sl8 : Array (Option Value)} {oc8 kV8 dc8 pm8 cd8 ct8 : Value}
    {f9 : Addr} {od9 an9 : Option Addr} {sl9 : Array (Option Value)} {oc9 kV9 dc9 pm9 cd9 ct9 : Value}
    {f10 : Addr} {od10 an10 : Option Addr} {sl10 : Array (Option Value)} {oc10 kV10 dc10 pm10 cd10 ct10 : Value}
    {f11 : Addr} {od11 an11 : Option Addr} {sl11 : Array (Option Value)} {oc11 kV11 dc11 pm11 cd11 ct11 : Value}
    {f12 : Addr} {od12 an12 : Option Addr} {sl12 : Array (Option Value)} {oc12 kV12 dc12 pm12 cd12 ct12 : Value}
    {f13 : Addr} {od13 an13 : Option Addr} {sl13 : Array (Option Value)} {oc13 kV13 dc13 pm13 cd13 ct13 : Value}
    {f14 : Addr} {od14 an14 : Option Addr} {sl14 : Array (Option Value)} {oc14 kV14 dc14 pm14 cd14 ct14 : Value}
    {f15 : Addr} {od15 an15 : Option Addr} {sl15 : Array (Option Value)} {oc15 kV15 dc15 pm15 cd15 ct15 : Value}
    {f16 : Addr} {od16 an16 : Option Addr} {sl16 : Array (Option Value)} {oc16 kV16 dc16 pm16 cd16 ct16 : Value}
    {f17 : Addr} {od17 an17 : Option Addr} {sl17 : Array (Option Value)} {oc17 kV17 dc17 pm17 cd17 ct17 : Value}
    {f18 : Addr} {od18 an18 : Option Addr} {sl18 : Array (Option Value)} {oc18 kV18 dc18 pm18 cd18 ct18 : Value}
    {f19 : Addr} {od19 an19 : Option Addr} {sl19 : Array (Option Value)} {oc19 kV19 dc19 pm19 cd19 ct19 : Value}
    {f20 : Addr} {od20 an20 : Option Addr} {sl20 : Array (Option Value)} {oc20 kV20 dc20 pm20 cd20 ct20 : Value}
    {f21 : Addr} {od21 an21 : Option Addr} {sl21 : Array (Option Value)} {oc21 kV21 dc21 pm21 cd21 ct21 : Value}
    {f22 : Addr} {od22 an22 : Option Addr} {sl22 : Array (Option Value)} {oc22 kV22 dc22 pm22 cd22 ct22 : Value}
    {f23 : Addr} {od23 an23 : Option Addr} {sl23 : Array (Option Value)} {oc23 kV23 dc23 pm23 cd23 ct23 : Value}
    {f24 : Addr} {od24 an24 : Option Addr} {sl24 : Array (Option Value)} {oc24 kV24 dc24 pm24 cd24 ct24 : Value}
    {f25 : Addr} {od25 an25 : Option Addr} {sl25 : Array (Option Value)} {oc25 kV25 dc25 pm25 cd25 ct25 : Value}
    {f26 : Addr} {od26 an26 : Option Addr} {sl26 : Array (Option Value)} {oc26 kV26 dc26 pm26 cd26 ct26 : Value}
    {f27 : Addr} {od27 an27 : Option Addr} {sl27 : Array (Option Value)} {oc27 kV27 dc27 pm27 cd27 ct27 : Value}
    {f28 : Addr} {od28 an28 : Option Addr} {sl28 : Array (Option Value)} {oc28 kV28 dc28 pm28 cd28 ct28 : Value}
    {f29 : Addr} {od29 an29 : Option Addr} {sl29 : Array (Option Value)} {oc29 kV29 dc29 pm29 cd29 ct29 : Value}
    {f30 : Addr} {od30 an30 : Option Addr} {sl30 : Array (Option Value)} {oc30 kV30 dc30 pm30 cd30 ct30 : Value}
    {f31 : Addr} {od31 an31 : Option Addr} {sl31 : Array (Option Value)} {oc31 kV31 dc31 pm31 cd31 ct31 : Value}
    {f32 : Addr} {od32 an32 : Option Addr} {sl32 : Array (Option Value)} {oc32 kV32 dc32 pm32 cd32 ct32 : Value}
    {f33 : Addr} {od33 an33 : Option Addr} {sl33 : Array (Option Value)} {oc33 kV33 dc33 pm33 cd33 ct33 : Value}
    {f34 : Addr} {od34 an34 : Option Addr} {sl34 : Array (Option Value)} {oc34 kV34 dc34 pm34 cd34 ct34 : Value}
    {f35 : Addr} {od35 an35 : Option Addr} {sl35 : Array (Option Value)} {oc35 kV35 dc35 pm35 cd35 ct35 : Value}
    {f36 : Addr} {od36 an36 : Option Addr} {sl36 : Array (Option Value)} {oc36 kV36 dc36 pm36 cd36 ct36 : Value}
    {f37 : Addr} {od37 an37 : Option Addr} {sl37 : Array (Option Value)} {oc37 kV37 dc37 pm37 cd37 ct37 : Value}
    {f38 : Addr} {od38 an38 : Option Addr} {sl38 : Array (Option Value)} {oc38 kV38 dc38 pm38 cd38 ct38 : Value}
    {f39 : Addr} {od39 an39 : Option Addr} {sl39 : Array (Option Value)} {oc39 kV39 dc39 pm39 cd39 ct39 : Value}
    {f40 : Addr} {od40 an40 : Option Addr} {sl40 : Array (Option Value)} {oc40 kV40 dc40 pm40 cd40 ct40 : Value}
    {f41 : Addr} {od41 an41 : Option Addr} {sl41 : Array (Option Value)} {oc41 kV41 dc41 pm41 cd41 ct41 : Value}
    {f42 : Addr} {od42 an42 : Option Addr} {sl42 : Array (Option Value)} {oc42 kV42 dc42 pm42 cd42 ct42 : Value}
    {f43 : Addr} {od43 an43 : Option Addr} {sl43 : Array (Option Value)} {oc43 kV43 dc43 pm43 cd43 ct43 : Value}
    {f44 : Addr} {od44 an44 : Option Addr} {sl44 : Array (Option Value)} {oc44 kV44 dc44 pm44 cd44 ct44 : Value}
    {f45 : Addr} {od45 an45 : Option Addr} {sl45 : Array (Option Value)} {oc45 kV45 dc45 pm45 cd45 ct45 : Value}
    {f46 : Addr} {od46 an46 : Option Addr} {sl46 : Array (Option Value)} {oc46 kV46 dc46 pm46 cd46 ct46 : Value}
    {f47 : Addr} {od47 an47 : Option Addr} {sl47 : Array (Option Value)} {oc47 kV47 dc47 pm47 cd47 ct47 : Value}
    {f48 : Addr} {od48 an48 : Option Addr} {sl48 : Array (Option Value)} {oc48 kV48 dc48 pm48 cd48 ct48 : Value}
    (a1 : PySem.W.nsIn K mainGlobals "value_key" = some (some (.ref f1)))
    (l1 : K.lookup f1 = some ⟨oc1, od1, .func (PySem.W.fnOf "value_key" "value_key" (defArgs svalue_key) (defBody svalue_key) (defScope svalue_key) .none kV1 dc1 pm1 an1 cd1 ct1), sl1⟩) (c1 : PySem.W.codeIn K cd1 "value_key" = true) (k1 : PySem.W.keepIn K (.ref f1) = true)
    (a2 : PySem.W.nsIn K mainGlobals "row_key" = some (some (.ref f2)))
    (l2 : K.lookup f2 = some ⟨oc2, od2, .func (PySem.W.fnOf "row_key" "row_key" (defArgs srow_key) (defBody srow_key) (defScope srow_key) .none kV2 dc2 pm2 an2 cd2 ct2), sl2⟩) (c2 : PySem.W.codeIn K cd2 "row_key" = true) (k2 : PySem.W.keepIn K (.ref f2) = true)
    (a3 : PySem.W.nsIn K mainGlobals "place_of" = some (some (.ref f3)))
    (l3 : K.lookup f3 = some ⟨oc3, od3, .func (PySem.W.fnOf "place_of" "place_of" (defArgs splace_of) (defBody splace_of) (defScope splace_of) .none kV3 dc3 pm3 an3 cd3 ct3), sl3⟩) (c3 : PySem.W.codeIn K cd3 "place_of" = true) (k3 : PySem.W.keepIn K (.ref f3) = true)
    (a4 : PySem.W.nsIn K mainGlobals "put_fact" = some (some (.ref f4)))
    (l4 : K.lookup f4 = some ⟨oc4, od4, .func (PySem.W.fnOf "put_fact" "put_fact" (defArgs sput_fact) (defBody sput_fact) (defScope sput_fact) .none kV4 dc4 pm4 an4 cd4 ct4), sl4⟩) (c4 : PySem.W.codeIn K cd4 "put_fact" = true) (k4 : PySem.W.keepIn K (.ref f4) = true)
    (a5 : PySem.W.nsIn K mainGlobals "put_item" = some (some (.ref f5)))
    (l5 : K.lookup f5 = some ⟨oc5, od5, .func (PySem.W.fnOf "put_item" "put_item" (defArgs sput_item) (defBody sput_item) (defScope sput_item) .none kV5 dc5 pm5 an5 cd5 ct5), sl5⟩) (c5 : PySem.W.codeIn K cd5 "put_item" = true) (k5 : PySem.W.keepIn K (.ref f5) = true)
    (a6 : PySem.W.nsIn K mainGlobals "write_number" = some (some (.ref f6)))
    (l6 : K.lookup f6 = some ⟨oc6, od6, .func (PySem.W.fnOf "write_number" "write_number" (defArgs swrite_number) (defBody swrite_number) (defScope swrite_number) .none kV6 dc6 pm6 an6 cd6 ct6), sl6⟩) (c6 : PySem.W.codeIn K cd6 "write_number" = true) (k6 : PySem.W.keepIn K (.ref f6) = true)
    (a7 : PySem.W.nsIn K mainGlobals "write_integer" = some (some (.ref f7)))
    (l7 : K.lookup f7 = some ⟨oc7, od7, .func (PySem.W.fnOf "write_integer" "write_integer" (defArgs swrite_integer) (defBody swrite_integer) (defScope swrite_integer) .none kV7 dc7 pm7 an7 cd7 ct7), sl7⟩) (c7 : PySem.W.codeIn K cd7 "write_integer" = true) (k7 : PySem.W.keepIn K (.ref f7) = true)
    (a8 : PySem.W.nsIn K mainGlobals "write_string" = some (some (.ref f8)))
    (l8 : K.lookup f8 = some ⟨oc8, od8, .func (PySem.W.fnOf "write_string" "write_string" (defArgs swrite_string) (defBody swrite_string) (defScope swrite_string) .none kV8 dc8 pm8 an8 cd8 ct8), sl8⟩) (c8 : PySem.W.codeIn K cd8 "write_string" = true) (k8 : PySem.W.keepIn K (.ref f8) = true)
    (a9 : PySem.W.nsIn K mainGlobals "write_names" = some (some (.ref f9)))
    (l9 : K.lookup f9 = some ⟨oc9, od9, .func (PySem.W.fnOf "write_names" "write_names" (defArgs swrite_names) (defBody swrite_names) (defScope swrite_names) .none kV9 dc9 pm9 an9 cd9 ct9), sl9⟩) (c9 : PySem.W.codeIn K cd9 "write_names" = true) (k9 : PySem.W.keepIn K (.ref f9) = true)
    (a10 : PySem.W.nsIn K mainGlobals "write_value" = some (some (.ref f10)))
    (l10 : K.lookup f10 = some ⟨oc10, od10, .func (PySem.W.fnOf "write_value" "write_value" (defArgs swrite_value) (defBody swrite_value) (defScope swrite_value) .none kV10 dc10 pm10 an10 cd10 ct10), sl10⟩) (c10 : PySem.W.codeIn K cd10 "write_value" = true) (k10 : PySem.W.keepIn K (.ref f10) = true)
    (a11 : PySem.W.nsIn K mainGlobals "write_row" = some (some (.ref f11)))
    (l11 : K.lookup f11 = some ⟨oc11, od11, .func (PySem.W.fnOf "write_row" "write_row" (defArgs swrite_row) (defBody swrite_row) (defScope swrite_row) .none kV11 dc11 pm11 an11 cd11 ct11), sl11⟩) (c11 : PySem.W.codeIn K cd11 "write_row" = true) (k11 : PySem.W.keepIn K (.ref f11) = true)
    (a12 : PySem.W.nsIn K mainGlobals "write_item" = some (some (.ref f12)))
    (l12 : K.lookup f12 = some ⟨oc12, od12, .func (PySem.W.fnOf "write_item" "write_item" (defArgs swrite_item) (defBody swrite_item) (defScope swrite_item) .none kV12 dc12 pm12 an12 cd12 ct12), sl12⟩) (c12 : PySem.W.codeIn K cd12 "write_item" = true) (k12 : PySem.W.keepIn K (.ref f12) = true)
    (a13 : PySem.W.nsIn K mainGlobals "write_change" = some (some (.ref f13)))
    (l13 : K.lookup f13 = some ⟨oc13, od13, .func (PySem.W.fnOf "write_change" "write_change" (defArgs swrite_change) (defBody swrite_change) (defScope swrite_change) .none kV13 dc13 pm13 an13 cd13 ct13), sl13⟩) (c13 : PySem.W.codeIn K cd13 "write_change" = true) (k13 : PySem.W.keepIn K (.ref f13) = true)
    (a14 : PySem.W.nsIn K mainGlobals "write_changes" = some (some (.ref f14)))
    (l14 : K.lookup f14 = some ⟨oc14, od14, .func (PySem.W.fnOf "write_changes" "write_changes" (defArgs swrite_changes) (defBody swrite_changes) (defScope swrite_changes) .none kV14 dc14 pm14 an14 cd14 ct14), sl14⟩) (c14 : PySem.W.codeIn K cd14 "write_changes" = true) (k14 : PySem.W.keepIn K (.ref f14) = true)
    (a15 : PySem.W.nsIn K mainGlobals "write_image" = some (some (.ref f15)))
    (l15 : K.lookup f15 = some ⟨oc15, od15, .func (PySem.W.fnOf "write_image" "write_image" (defArgs swrite_image) (defBody swrite_image) (defScope swrite_image) .none kV15 dc15 pm15 an15 cd15 ct15), sl15⟩) (c15 : PySem.W.codeIn K cd15 "write_image" = true) (k15 : PySem.W.keepIn K (.ref f15) = true)
    (a16 : PySem.W.nsIn K mainGlobals "character" = some (some (.ref f16)))
    (l16 : K.lookup f16 = some ⟨oc16, od16, .func (PySem.W.fnOf "character" "character" (defArgs scharacter) (defBody scharacter) (defScope scharacter) .none kV16 dc16 pm16 an16 cd16 ct16), sl16⟩) (c16 : PySem.W.codeIn K cd16 "character" = true) (k16 : PySem.W.keepIn K (.ref f16) = true)
    (a17 : PySem.W.nsIn K mainGlobals "_law_mix" = some (some (.ref f17)))
    (l17 : K.lookup f17 = some ⟨oc17, od17, .func (PySem.W.fnOf "_law_mix" "_law_mix" (defArgs s_law_mix) (defBody s_law_mix) (defScope s_law_mix) .none kV17 dc17 pm17 an17 cd17 ct17), sl17⟩) (c17 : PySem.W.codeIn K cd17 "_law_mix" = true) (k17 : PySem.W.keepIn K (.ref f17) = true)
    (a18 : PySem.W.nsIn K mainGlobals "_law_draws" = some (some (.ref f18)))
    (l18 : K.lookup f18 = some ⟨oc18, od18, .func (PySem.W.fnOf "_law_draws" "_law_draws" (defArgs s_law_draws) (defBody s_law_draws) (defScope s_law_draws) .none kV18 dc18 pm18 an18 cd18 ct18), sl18⟩) (c18 : PySem.W.codeIn K cd18 "_law_draws" = true) (k18 : PySem.W.keepIn K (.ref f18) = true)
    (a19 : PySem.W.nsIn K mainGlobals "_law_at" = some (some (.ref f19)))
    (l19 : K.lookup f19 = some ⟨oc19, od19, .func (PySem.W.fnOf "_law_at" "_law_at" (defArgs s_law_at) (defBody s_law_at) (defScope s_law_at) .none kV19 dc19 pm19 an19 cd19 ct19), sl19⟩) (c19 : PySem.W.codeIn K cd19 "_law_at" = true) (k19 : PySem.W.keepIn K (.ref f19) = true)
    (a20 : PySem.W.nsIn K mainGlobals "_law_is_integer" = some (some (.ref f20)))
    (l20 : K.lookup f20 = some ⟨oc20, od20, .func (PySem.W.fnOf "_law_is_integer" "_law_is_integer" (defArgs s_law_is_integer) (defBody s_law_is_integer) (defScope s_law_is_integer) .none kV20 dc20 pm20 an20 cd20 ct20), sl20⟩) (c20 : PySem.W.codeIn K cd20 "_law_is_integer" = true) (k20 : PySem.W.keepIn K (.ref f20) = true)
    (a21 : PySem.W.nsIn K mainGlobals "_law_same" = some (some (.ref f21)))
    (l21 : K.lookup f21 = some ⟨oc21, od21, .func (PySem.W.fnOf "_law_same" "_law_same" (defArgs s_law_same) (defBody s_law_same) (defScope s_law_same) .none kV21 dc21 pm21 an21 cd21 ct21), sl21⟩) (c21 : PySem.W.codeIn K cd21 "_law_same" = true) (k21 : PySem.W.keepIn K (.ref f21) = true)
    (a22 : PySem.W.nsIn K mainGlobals "_law_is_dict" = some (some (.ref f22)))
    (l22 : K.lookup f22 = some ⟨oc22, od22, .func (PySem.W.fnOf "_law_is_dict" "_law_is_dict" (defArgs s_law_is_dict) (defBody s_law_is_dict) (defScope s_law_is_dict) .none kV22 dc22 pm22 an22 cd22 ct22), sl22⟩) (c22 : PySem.W.codeIn K cd22 "_law_is_dict" = true) (k22 : PySem.W.keepIn K (.ref f22) = true)
    (a23 : PySem.W.nsIn K mainGlobals "_law_next" = some (some (.ref f23)))
    (l23 : K.lookup f23 = some ⟨oc23, od23, .func (PySem.W.fnOf "_law_next" "_law_next" (defArgs s_law_next) (defBody s_law_next) (defScope s_law_next) .none kV23 dc23 pm23 an23 cd23 ct23), sl23⟩) (c23 : PySem.W.codeIn K cd23 "_law_next" = true) (k23 : PySem.W.keepIn K (.ref f23) = true)
    (a24 : PySem.W.nsIn K mainGlobals "_law_number" = some (some (.ref f24)))
    (l24 : K.lookup f24 = some ⟨oc24, od24, .func (PySem.W.fnOf "_law_number" "_law_number" (defArgs s_law_number) (defBody s_law_number) (defScope s_law_number) .none kV24 dc24 pm24 an24 cd24 ct24), sl24⟩) (c24 : PySem.W.codeIn K cd24 "_law_number" = true) (k24 : PySem.W.keepIn K (.ref f24) = true)
    (a25 : PySem.W.nsIn K mainGlobals "_law_listed" = some (some (.ref f25)))
    (l25 : K.lookup f25 = some ⟨oc25, od25, .func (PySem.W.fnOf "_law_listed" "_law_listed" (defArgs s_law_listed) (defBody s_law_listed) (defScope s_law_listed) .none kV25 dc25 pm25 an25 cd25 ct25), sl25⟩) (c25 : PySem.W.codeIn K cd25 "_law_listed" = true) (k25 : PySem.W.keepIn K (.ref f25) = true)
    (a26 : PySem.W.nsIn K mainGlobals "_law_text" = some (some (.ref f26)))
    (l26 : K.lookup f26 = some ⟨oc26, od26, .func (PySem.W.fnOf "_law_text" "_law_text" (defArgs s_law_text) (defBody s_law_text) (defScope s_law_text) .none kV26 dc26 pm26 an26 cd26 ct26), sl26⟩) (c26 : PySem.W.codeIn K cd26 "_law_text" = true) (k26 : PySem.W.keepIn K (.ref f26) = true)
    (a27 : PySem.W.nsIn K mainGlobals "_law_value" = some (some (.ref f27)))
    (l27 : K.lookup f27 = some ⟨oc27, od27, .func (PySem.W.fnOf "_law_value" "_law_value" (defArgs s_law_value) (defBody s_law_value) (defScope s_law_value) .none kV27 dc27 pm27 an27 cd27 ct27), sl27⟩) (c27 : PySem.W.codeIn K cd27 "_law_value" = true) (k27 : PySem.W.keepIn K (.ref f27) = true)
    (a28 : PySem.W.nsIn K mainGlobals "_law_row" = some (some (.ref f28)))
    (l28 : K.lookup f28 = some ⟨oc28, od28, .func (PySem.W.fnOf "_law_row" "_law_row" (defArgs s_law_row) (defBody s_law_row) (defScope s_law_row) .none kV28 dc28 pm28 an28 cd28 ct28), sl28⟩) (c28 : PySem.W.codeIn K cd28 "_law_row" = true) (k28 : PySem.W.keepIn K (.ref f28) = true)
    (a29 : PySem.W.nsIn K mainGlobals "_law_name" = some (some (.ref f29)))
    (l29 : K.lookup f29 = some ⟨oc29, od29, .func (PySem.W.fnOf "_law_name" "_law_name" (defArgs s_law_name) (defBody s_law_name) (defScope s_law_name) .none kV29 dc29 pm29 an29 cd29 ct29), sl29⟩) (c29 : PySem.W.codeIn K cd29 "_law_name" = true) (k29 : PySem.W.keepIn K (.ref f29) = true)
    (a30 : PySem.W.nsIn K mainGlobals "_law_first" = some (some (.ref f30)))
    (l30 : K.lookup f30 = some ⟨oc30, od30, .func (PySem.W.fnOf "_law_first" "_law_first" (defArgs s_law_first) (defBody s_law_first) (defScope s_law_first) .none kV30 dc30 pm30 an30 cd30 ct30), sl30⟩) (c30 : PySem.W.codeIn K cd30 "_law_first" = true) (k30 : PySem.W.keepIn K (.ref f30) = true)
    (a31 : PySem.W.nsIn K mainGlobals "_law_order" = some (some (.ref f31)))
    (l31 : K.lookup f31 = some ⟨oc31, od31, .func (PySem.W.fnOf "_law_order" "_law_order" (defArgs s_law_order) (defBody s_law_order) (defScope s_law_order) .none kV31 dc31 pm31 an31 cd31 ct31), sl31⟩) (c31 : PySem.W.codeIn K cd31 "_law_order" = true) (k31 : PySem.W.keepIn K (.ref f31) = true)
    (a32 : PySem.W.nsIn K mainGlobals "_law_key" = some (some (.ref f32)))
    (l32 : K.lookup f32 = some ⟨oc32, od32, .func (PySem.W.fnOf "_law_key" "_law_key" (defArgs s_law_key) (defBody s_law_key) (defScope s_law_key) .none kV32 dc32 pm32 an32 cd32 ct32), sl32⟩) (c32 : PySem.W.codeIn K cd32 "_law_key" = true) (k32 : PySem.W.keepIn K (.ref f32) = true)
    (a33 : PySem.W.nsIn K mainGlobals "_law_key_order" = some (some (.ref f33)))
    (l33 : K.lookup f33 = some ⟨oc33, od33, .func (PySem.W.fnOf "_law_key_order" "_law_key_order" (defArgs s_law_key_order) (defBody s_law_key_order) (defScope s_law_key_order) .none kV33 dc33 pm33 an33 cd33 ct33), sl33⟩) (c33 : PySem.W.codeIn K cd33 "_law_key_order" = true) (k33 : PySem.W.keepIn K (.ref f33) = true)
    (a34 : PySem.W.nsIn K mainGlobals "_law_item" = some (some (.ref f34)))
    (l34 : K.lookup f34 = some ⟨oc34, od34, .func (PySem.W.fnOf "_law_item" "_law_item" (defArgs s_law_item) (defBody s_law_item) (defScope s_law_item) .none kV34 dc34 pm34 an34 cd34 ct34), sl34⟩) (c34 : PySem.W.codeIn K cd34 "_law_item" = true) (k34 : PySem.W.keepIn K (.ref f34) = true)
    (a35 : PySem.W.nsIn K mainGlobals "_law_placed" = some (some (.ref f35)))
    (l35 : K.lookup f35 = some ⟨oc35, od35, .func (PySem.W.fnOf "_law_placed" "_law_placed" (defArgs s_law_placed) (defBody s_law_placed) (defScope s_law_placed) .none kV35 dc35 pm35 an35 cd35 ct35), sl35⟩) (c35 : PySem.W.codeIn K cd35 "_law_placed" = true) (k35 : PySem.W.keepIn K (.ref f35) = true)
    (a36 : PySem.W.nsIn K mainGlobals "_law_some_items" = some (some (.ref f36)))
    (l36 : K.lookup f36 = some ⟨oc36, od36, .func (PySem.W.fnOf "_law_some_items" "_law_some_items" (defArgs s_law_some_items) (defBody s_law_some_items) (defScope s_law_some_items) .none kV36 dc36 pm36 an36 cd36 ct36), sl36⟩) (c36 : PySem.W.codeIn K cd36 "_law_some_items" = true) (k36 : PySem.W.keepIn K (.ref f36) = true)
    (a37 : PySem.W.nsIn K mainGlobals "_law_is_state" = some (some (.ref f37)))
    (l37 : K.lookup f37 = some ⟨oc37, od37, .func (PySem.W.fnOf "_law_is_state" "_law_is_state" (defArgs s_law_is_state) (defBody s_law_is_state) (defScope s_law_is_state) .none kV37 dc37 pm37 an37 cd37 ct37), sl37⟩) (c37 : PySem.W.codeIn K cd37 "_law_is_state" = true) (k37 : PySem.W.keepIn K (.ref f37) = true)
    (a38 : PySem.W.nsIn K mainGlobals "_law_string" = some (some (.ref f38)))
    (l38 : K.lookup f38 = some ⟨oc38, od38, .func (PySem.W.fnOf "_law_string" "_law_string" (defArgs s_law_string) (defBody s_law_string) (defScope s_law_string) .none kV38 dc38 pm38 an38 cd38 ct38), sl38⟩) (c38 : PySem.W.codeIn K cd38 "_law_string" = true) (k38 : PySem.W.keepIn K (.ref f38) = true)
    (a39 : PySem.W.nsIn K mainGlobals "_law_value_bytes" = some (some (.ref f39)))
    (l39 : K.lookup f39 = some ⟨oc39, od39, .func (PySem.W.fnOf "_law_value_bytes" "_law_value_bytes" (defArgs s_law_value_bytes) (defBody s_law_value_bytes) (defScope s_law_value_bytes) .none kV39 dc39 pm39 an39 cd39 ct39), sl39⟩) (c39 : PySem.W.codeIn K cd39 "_law_value_bytes" = true) (k39 : PySem.W.keepIn K (.ref f39) = true)
    (a40 : PySem.W.nsIn K mainGlobals "_law_row_bytes" = some (some (.ref f40)))
    (l40 : K.lookup f40 = some ⟨oc40, od40, .func (PySem.W.fnOf "_law_row_bytes" "_law_row_bytes" (defArgs s_law_row_bytes) (defBody s_law_row_bytes) (defScope s_law_row_bytes) .none kV40 dc40 pm40 an40 cd40 ct40), sl40⟩) (c40 : PySem.W.codeIn K cd40 "_law_row_bytes" = true) (k40 : PySem.W.keepIn K (.ref f40) = true)
    (a41 : PySem.W.nsIn K mainGlobals "_law_item_bytes" = some (some (.ref f41)))
    (l41 : K.lookup f41 = some ⟨oc41, od41, .func (PySem.W.fnOf "_law_item_bytes" "_law_item_bytes" (defArgs s_law_item_bytes) (defBody s_law_item_bytes) (defScope s_law_item_bytes) .none kV41 dc41 pm41 an41 cd41 ct41), sl41⟩) (c41 : PySem.W.codeIn K cd41 "_law_item_bytes" = true) (k41 : PySem.W.keepIn K (.ref f41) = true)
    (a42 : PySem.W.nsIn K mainGlobals "_law_change_bytes" = some (some (.ref f42)))
    (l42 : K.lookup f42 = some ⟨oc42, od42, .func (PySem.W.fnOf "_law_change_bytes" "_law_change_bytes" (defArgs s_law_change_bytes) (defBody s_law_change_bytes) (defScope s_law_change_bytes) .none kV42 dc42 pm42 an42 cd42 ct42), sl42⟩) (c42 : PySem.W.codeIn K cd42 "_law_change_bytes" = true) (k42 : PySem.W.keepIn K (.ref f42) = true)
    (a43 : PySem.W.nsIn K mainGlobals "_law_any_changes" = some (some (.ref f43)))
    (l43 : K.lookup f43 = some ⟨oc43, od43, .func (PySem.W.fnOf "_law_any_changes" "_law_any_changes" (defArgs s_law_any_changes) (defBody s_law_any_changes) (defScope s_law_any_changes) .none kV43 dc43 pm43 an43 cd43 ct43), sl43⟩) (c43 : PySem.W.codeIn K cd43 "_law_any_changes" = true) (k43 : PySem.W.keepIn K (.ref f43) = true)
    (a44 : PySem.W.nsIn K mainGlobals "_law_read" = some (some (.ref f44)))
    (l44 : K.lookup f44 = some ⟨oc44, od44, .func (PySem.W.fnOf "_law_read" "_law_read" (defArgs s_law_read) (defBody s_law_read) (defScope s_law_read) .none kV44 dc44 pm44 an44 cd44 ct44), sl44⟩) (c44 : PySem.W.codeIn K cd44 "_law_read" = true) (k44 : PySem.W.keepIn K (.ref f44) = true)
    (a45 : PySem.W.nsIn K mainGlobals "_law_ends" = some (some (.ref f45)))
    (l45 : K.lookup f45 = some ⟨oc45, od45, .func (PySem.W.fnOf "_law_ends" "_law_ends" (defArgs s_law_ends) (defBody s_law_ends) (defScope s_law_ends) .none kV45 dc45 pm45 an45 cd45 ct45), sl45⟩) (c45 : PySem.W.codeIn K cd45 "_law_ends" = true) (k45 : PySem.W.keepIn K (.ref f45) = true)
    (a46 : PySem.W.nsIn K mainGlobals "_law_asks" = some (some (.ref f46)))
    (l46 : K.lookup f46 = some ⟨oc46, od46, .func (PySem.W.fnOf "_law_asks" "_law_asks" (defArgs s_law_asks) (defBody s_law_asks) (defScope s_law_asks) .none kV46 dc46 pm46 an46 cd46 ct46), sl46⟩) (c46 : PySem.W.codeIn K cd46 "_law_asks" = true) (k46 : PySem.W.keepIn K (.ref f46) = true)
    (a47 : PySem.W.nsIn K mainGlobals "_law_image" = some (some (.ref f47)))
    (l47 : K.lookup f47 = some ⟨oc47, od47, .func (PySem.W.fnOf "_law_image" "_law_image" (defArgs s_law_image) (defBody s_law_image) (defScope s_law_image) .none kV47 dc47 pm47 an47 cd47 ct47), sl47⟩) (c47 : PySem.W.codeIn K cd47 "_law_image" = true) (k47 : PySem.W.keepIn K (.ref f47) = true)
    (a48 : PySem.W.nsIn K mainGlobals "law" = some (some (.ref f48)))
    (l48 : K.lookup f48 = some ⟨oc48, od48, .func (PySem.W.fnOf "law" "law" (defArgs slaw) (defBody slaw) (defScope slaw) .none kV48 dc48 pm48 an48 cd48 ct48), sl48⟩) (c48 : PySem.W.codeIn K cd48 "law" = true) (k48 : PySem.W.keepIn K (.ref f48) = true)
    {t1 t2 t3 t4 uS : Tok} (y1 : PySem.W.nsIn K mainGlobals "MOST_NUMBER_BYTES" = some (some (.int 60 t1))) (y2 : PySem.W.nsIn K mainGlobals "FIRST_CODE" = some (some (.int 32 t2))) (y3 : PySem.W.nsIn K mainGlobals "LAST_CODE" = some (some (.int 126 t3))) (y4 : PySem.W.nsIn K mainGlobals "LEFT_OUT_CODE" = some (some (.int 37 t4))) (y5 : PySem.W.nsIn K mainGlobals "CHARACTERS" = some (some (.str CHRS uS)))
    {sA : Addr} {w0 w1 w2 w3 : Tok} {sn : Nat} {ss : Array (Option Value)} (aS : PySem.W.nsIn K mainGlobals "SORTS" = some (some (.ref sA)))
    (lS : K.lookup sA = some ⟨.type "tuple", none, .seq #[.str "relation" w0, .str "fact" w1, .str "structure" w2, .str "layout" w3] sn, ss⟩)
    {CD : Addr} (xDg : PySem.W.nsIn K mainGlobals "DamagedData" = some (some (.ref CD))) (xDk : PySem.W.keepIn K (.ref CD) = true) (xDb : PySem.W.subIn K (.ref CD) (.type "BaseException") = some true) (xDt : PySem.W.typeIn K (.ref CD) = some (.type "type")) (xDd : PySem.W.hasDictIn K CD = true) (xDx : PySem.W.excIn K CD [.type "ValueError", .type "Exception", .type "BaseException", .type "object"] "ValueError.__new__" = true)
    {CS : Addr} (xSg : PySem.W.nsIn K mainGlobals "ShelfError" = some (some (.ref CS))) (xSb : PySem.W.subIn K (.ref CS) (.type "BaseException") = some true) (xSt : PySem.W.typeIn K (.ref CS) = some (.type "type")) (xSd : PySem.W.hasDictIn K CS = true) (xSs : PySem.W.subIn K (.ref CD) (.ref CS) = some true)
    (ig : PySem.W.findIn K (.ref CD) "__getattribute__" = some (some (.builtin "BaseException.__getattribute__"))) (ik : PySem.W.findIn K (.ref CD) "__getattr__" = some none) (ia : PySem.W.findIn K (.ref CD) "__class__" = some (some (.builtin "object.__class__"))) (inn : PySem.W.specialIn K (.builtin "object.__class__") "__get__" = some (some (.builtin "getset_descriptor.__get__"))) (it : PySem.W.takesIn K (.builtin "object.__class__") = some true) (im : PySem.W.mroIn K CD (.type "object") = some true) (iv : PySem.W.subIn K (.ref CD) (.type "ValueError") = some true) (zV : PySem.W.nsIn K mainGlobals "ValueError" = some none)
    {CR : Addr} (rC : PySem.W.nsIn K mainGlobals "Reader" = some (some (.ref CR)))
    (rpg : PySem.W.plainGet K CR Str.empty = true) (rhd : PySem.W.hasDictIn K CR = true) (rpo : PySem.W.plainOver K CR = true) (rsa : PySem.W.findIn K (.ref CR) "__setattr__" = some (some (.builtin "object.__setattr__"))) (rmk : PySem.W.makesIn K CR = true) (rkc : PySem.W.keepIn K (.ref CR) = true)
    (rn1 : PySem.W.findIn K (.ref CR) "data" = some none) (rn2 : PySem.W.findIn K (.ref CR) "at" = some none)
    {fRI : Addr} {odRI anRI : Option Addr} {slRI : Array (Option Value)} {ocRI kVRI dcRI pmRI cdRI ctRI : Value}
    (aRI : PySem.W.findIn K (.ref CR) "__init__" = some (some (.ref fRI))) (iRI : PySem.W.isFn K (.ref fRI) = true)
    (lRI : K.lookup fRI = some ⟨ocRI, odRI, .func (PySem.W.fnOf "__init__" "Reader.__init__" (defArgs sReader_init) (defBody sReader_init) (defScope sReader_init) .none kVRI dcRI pmRI anRI cdRI ctRI), slRI⟩) (cRI : PySem.W.codeIn K cdRI "Reader.__init__" = true) (kRI : PySem.W.keepIn K (.ref fRI) = true)
    {fRL : Addr} {odRL anRL : Option Addr} {slRL : Array (Option Value)} {ocRL kVRL dcRL pmRL cdRL ctRL : Value}
    (aRL : PySem.W.findIn K (.ref CR) "left" = some (some (.ref fRL))) (iRL : PySem.W.isFn K (.ref fRL) = true)
    (lRL : K.lookup fRL = some ⟨ocRL, odRL, .func (PySem.W.fnOf "left" "Reader.left" (defArgs sReader_left) (defBody sReader_left) (defScope sReader_left) .none kVRL dcRL pmRL anRL cdRL ctRL), slRL⟩) (cRL : PySem.W.codeIn K cdRL "Reader.left" = true) (kRL : PySem.W.keepIn K (.ref fRL) = true)
    {fRB : Addr} {odRB anRB : Option Addr} {slRB : Array (Option Value)} {ocRB kVRB dcRB pmRB cdRB ctRB : Value}
    (aRB : PySem.W.findIn K (.ref CR) "read_byte" = some (some (.ref fRB))) (iRB : PySem.W.isFn K (.ref fRB) = true)
    (lRB : K.lookup fRB = some ⟨ocRB, odRB, .func (PySem.W.fnOf "read_byte" "Reader.read_byte" (defArgs sReader_read_byte) (defBody sReader_read_byte) (defScope sReader_read_byte) .none kVRB dcRB pmRB anRB cdRB ctRB), slRB⟩) (cRB : PySem.W.codeIn K cdRB "Reader.read_byte" = true) (kRB : PySem.W.keepIn K (.ref fRB) = true)
    {fRC : Addr} {odRC anRC : Option Addr} {slRC : Array (Option Value)} {ocRC kVRC dcRC pmRC cdRC ctRC : Value}
    (aRC : PySem.W.findIn K (.ref CR) "read_choice" = some (some (.ref fRC))) (iRC : PySem.W.isFn K (.ref fRC) = true)
    (lRC : K.lookup fRC = some ⟨ocRC, odRC, .func (PySem.W.fnOf "read_choice" "Reader.read_choice" (defArgs sReader_read_choice) (defBody sReader_read_choice) (defScope sReader_read_choice) .none kVRC dcRC pmRC anRC cdRC ctRC), slRC⟩) (cRC : PySem.W.codeIn K cdRC "Reader.read_choice" = true) (kRC : PySem.W.keepIn K (.ref fRC) = true)
    {fRN : Addr} {odRN anRN : Option Addr} {slRN : Array (Option Value)} {ocRN kVRN dcRN pmRN cdRN ctRN : Value}
    (aRN : PySem.W.findIn K (.ref CR) "read_number" = some (some (.ref fRN))) (iRN : PySem.W.isFn K (.ref fRN) = true)
    (lRN : K.lookup fRN = some ⟨ocRN, odRN, .func (PySem.W.fnOf "read_number" "Reader.read_number" (defArgs sReader_read_number) (defBody sReader_read_number) (defScope sReader_read_number) .none kVRN dcRN pmRN anRN cdRN ctRN), slRN⟩) (cRN : PySem.W.codeIn K cdRN "Reader.read_number" = true) (kRN : PySem.W.keepIn K (.ref fRN) = true)
    {fRG : Addr} {odRG anRG : Option Addr} {slRG : Array (Option Value)} {ocRG kVRG dcRG pmRG cdRG ctRG : Value}
    (aRG : PySem.W.findIn K (.ref CR) "read_length" = some (some (.ref fRG))) (iRG : PySem.W.isFn K (.ref fRG) = true)
    (lRG : K.lookup fRG = some ⟨ocRG, odRG, .func (PySem.W.fnOf "read_length" "Reader.read_length" (defArgs sReader_read_length) (defBody sReader_read_length) (defScope sReader_read_length) .none kVRG dcRG pmRG anRG cdRG ctRG), slRG⟩) (cRG : PySem.W.codeIn K cdRG "Reader.read_length" = true) (kRG : PySem.W.keepIn K (.ref fRG) = true)
    {fRT : Addr} {odRT anRT : Option Addr} {slRT : Array (Option Value)} {ocRT kVRT dcRT pmRT cdRT ctRT : Value}
    (aRT : PySem.W.findIn K (.ref CR) "read_integer" = some (some (.ref fRT))) (iRT : PySem.W.isFn K (.ref fRT) = true)
    (lRT : K.lookup fRT = some ⟨ocRT, odRT, .func (PySem.W.fnOf "read_integer" "Reader.read_integer" (defArgs sReader_read_integer) (defBody sReader_read_integer) (defScope sReader_read_integer) .none kVRT dcRT pmRT anRT cdRT ctRT), slRT⟩) (cRT : PySem.W.codeIn K cdRT "Reader.read_integer" = true) (kRT : PySem.W.keepIn K (.ref fRT) = true)
    {fRS : Addr} {odRS anRS : Option Addr} {slRS : Array (Option Value)} {ocRS kVRS dcRS pmRS cdRS ctRS : Value}
    (aRS : PySem.W.findIn K (.ref CR) "read_string" = some (some (.ref fRS))) (iRS : PySem.W.isFn K (.ref fRS) = true)
    (lRS : K.lookup fRS = some ⟨ocRS, odRS, .func (PySem.W.fnOf "read_string" "Reader.read_string" (defArgs sReader_read_string) (defBody sReader_read_string) (defScope sReader_read_string) .none kVRS dcRS pmRS anRS cdRS ctRS), slRS⟩) (cRS : PySem.W.codeIn K cdRS "Reader.read_string" = true) (kRS : PySem.W.keepIn K (.ref fRS) = true)
    {fRV : Addr} {odRV anRV : Option Addr} {slRV : Array (Option Value)} {ocRV kVRV dcRV pmRV cdRV ctRV : Value}
    (aRV : PySem.W.findIn K (.ref CR) "read_value" = some (some (.ref fRV))) (iRV : PySem.W.isFn K (.ref fRV) = true)
    (lRV : K.lookup fRV = some ⟨ocRV, odRV, .func (PySem.W.fnOf "read_value" "Reader.read_value" (defArgs sReader_read_value) (defBody sReader_read_value) (defScope sReader_read_value) .none kVRV dcRV pmRV anRV cdRV ctRV), slRV⟩) (cRV : PySem.W.codeIn K cdRV "Reader.read_value" = true) (kRV : PySem.W.keepIn K (.ref fRV) = true)
    {fRW : Addr} {odRW anRW : Option Addr} {slRW : Array (Option Value)} {ocRW kVRW dcRW pmRW cdRW ctRW : Value}
    (aRW : PySem.W.findIn K (.ref CR) "read_row" = some (some (.ref fRW))) (iRW : PySem.W.isFn K (.ref fRW) = true)
    (lRW : K.lookup fRW = some ⟨ocRW, odRW, .func (PySem.W.fnOf "read_row" "Reader.read_row" (defArgs sReader_read_row) (defBody sReader_read_row) (defScope sReader_read_row) .none kVRW dcRW pmRW anRW cdRW ctRW), slRW⟩) (cRW : PySem.W.codeIn K cdRW "Reader.read_row" = true) (kRW : PySem.W.keepIn K (.ref fRW) = true)
    {fRM : Addr} {odRM anRM : Option Addr} {slRM : Array (Option Value)} {ocRM kVRM dcRM pmRM cdRM ctRM : Value}
    (aRM : PySem.W.findIn K (.ref CR) "read_names" = some (some (.ref fRM))) (iRM : PySem.W.isFn K (.ref fRM) = true)
    (lRM : K.lookup fRM = some ⟨ocRM, odRM, .func (PySem.W.fnOf "read_names" "Reader.read_names" (defArgs sReader_read_names) (defBody sReader_read_names) (defScope sReader_read_names) .none kVRM dcRM pmRM anRM cdRM ctRM), slRM⟩) (cRM : PySem.W.codeIn K cdRM "Reader.read_names" = true) (kRM : PySem.W.keepIn K (.ref fRM) = true)
    {fRO : Addr} {odRO anRO : Option Addr} {slRO : Array (Option Value)} {ocRO kVRO dcRO pmRO cdRO ctRO : Value}
    (aRO : PySem.W.findIn K (.ref CR) "read_item" = some (some (.ref fRO))) (iRO : PySem.W.isFn K (.ref fRO) = true)
    (lRO : K.lookup fRO = some ⟨ocRO, odRO, .func (PySem.W.fnOf "read_item" "Reader.read_item" (defArgs sReader_read_item) (defBody sReader_read_item) (defScope sReader_read_item) .none kVRO dcRO pmRO anRO cdRO ctRO), slRO⟩) (cRO : PySem.W.codeIn K cdRO "Reader.read_item" = true) (kRO : PySem.W.keepIn K (.ref fRO) = true)
    {fRP : Addr} {odRP anRP : Option Addr} {slRP : Array (Option Value)} {ocRP kVRP dcRP pmRP cdRP ctRP : Value}
    (aRP : PySem.W.findIn K (.ref CR) "read_change" = some (some (.ref fRP))) (iRP : PySem.W.isFn K (.ref fRP) = true)
    (lRP : K.lookup fRP = some ⟨ocRP, odRP, .func (PySem.W.fnOf "read_change" "Reader.read_change" (defArgs sReader_read_change) (defBody sReader_read_change) (defScope sReader_read_change) .none kVRP dcRP pmRP anRP cdRP ctRP), slRP⟩) (cRP : PySem.W.codeIn K cdRP "Reader.read_change" = true) (kRP : PySem.W.keepIn K (.ref fRP) = true)
    {fRQ : Addr} {odRQ anRQ : Option Addr} {slRQ : Array (Option Value)} {ocRQ kVRQ dcRQ pmRQ cdRQ ctRQ : Value}
    (aRQ : PySem.W.findIn K (.ref CR) "read_changes" = some (some (.ref fRQ))) (iRQ : PySem.W.isFn K (.ref fRQ) = true)
    (lRQ : K.lookup fRQ = some ⟨ocRQ, odRQ, .func (PySem.W.fnOf "read_changes" "Reader.read_changes" (defArgs sReader_read_changes) (defBody sReader_read_changes) (defScope sReader_read_changes) .none kVRQ dcRQ pmRQ anRQ cdRQ ctRQ), slRQ⟩) (cRQ : PySem.W.codeIn K cdRQ "Reader.read_changes" = true) (kRQ : PySem.W.keepIn K (.ref fRQ) = true)
    {fRU : Addr} {odRU anRU : Option Addr} {slRU : Array (Option Value)} {ocRU kVRU dcRU pmRU cdRU ctRU : Value}
    (aRU : PySem.W.findIn K (.ref CR) "read_image" = some (some (.ref fRU))) (iRU : PySem.W.isFn K (.ref fRU) = true)
    (lRU : K.lookup fRU = some ⟨ocRU, odRU, .func (PySem.W.fnOf "read_image" "Reader.read_image" (defArgs sReader_read_image) (defBody sReader_read_image) (defScope sReader_read_image) .none kVRU dcRU pmRU anRU cdRU ctRU), slRU⟩) (cRU : PySem.W.codeIn K cdRU "Reader.read_image" = true) (kRU : PySem.W.keepIn K (.ref fRU) = true)
    {fRX : Addr} {odRX anRX : Option Addr} {slRX : Array (Option Value)} {ocRX kVRX dcRX pmRX cdRX ctRX : Value}
    (aRX : PySem.W.findIn K (.ref CR) "end" = some (some (.ref fRX))) (iRX : PySem.W.isFn K (.ref fRX) = true)
    (lRX : K.lookup fRX = some ⟨ocRX, odRX, .func (PySem.W.fnOf "end" "Reader.end" (defArgs sReader_end) (defBody sReader_end) (defScope sReader_end) .none kVRX dcRX pmRX anRX cdRX ctRX), slRX⟩) (cRX : PySem.W.codeIn K cdRX "Reader.end" = true) (kRX : PySem.W.keepIn K (.ref fRX) = true)
    {C fI TT A0 : Addr} {odI anI odT : Option Addr} {slI slT slA : Array (Option Value)} {ocI kVI dcI pmI cdI ctI ocT : Value} {nT nA : Nat}
    (aC : PySem.W.nsIn K mainGlobals "State" = some (some (.ref C)))
    (aI : PySem.W.findIn K (.ref C) "__init__" = some (some (.ref fI))) (iI : PySem.W.isFn K (.ref fI) = true)
    (lI : K.lookup fI = some ⟨ocI, odI, .func (PySem.W.fnOf "__init__" "State.__init__" (defArgs sInit) (defBody sInit) (defScope sInit) (.ref TT) kVI dcI pmI anI cdI ctI), slI⟩) (cI : PySem.W.codeIn K cdI "State.__init__" = true) (kI : PySem.W.keepIn K (.ref fI) = true)
    (lT : K.lookup TT = some ⟨ocT, odT, .seq #[.ref A0] nT, slT⟩) (lA : K.lookup A0 = some ⟨.type "tuple", none, .seq #[] nA, slA⟩)
    (pg : PySem.W.plainGet K C Str.empty = true) (hd : PySem.W.hasDictIn K C = true) (po : PySem.W.plainOver K C = true) (sa : PySem.W.findIn K (.ref C) "__setattr__" = some (some (.builtin "object.__setattr__"))) (mk : PySem.W.makesIn K C = true) (kc : PySem.W.keepIn K (.ref C) = true)
    (nR : PySem.W.findIn K (.ref C) "relations" = some none) (nF : PySem.W.findIn K (.ref C) "facts" = some none) (nS : PySem.W.findIn K (.ref C) "structures" = some none) (nL : PySem.W.findIn K (.ref C) "layouts" = some none)
    {fMA : Addr} {odMA anMA : Option Addr} {slMA : Array (Option Value)} {ocMA kVMA dcMA pmMA cdMA ctMA : Value}
    (aMA : PySem.W.findIn K (.ref C) "all_items" = some (some (.ref fMA))) (iMA : PySem.W.isFn K (.ref fMA) = true)
    (lMA : K.lookup fMA = some ⟨ocMA, odMA, .func (PySem.W.fnOf "all_items" "State.all_items" (defArgs sAll) (defBody sAll) (defScope sAll) .none kVMA dcMA pmMA anMA cdMA ctMA), slMA⟩) (cMA : PySem.W.codeIn K cdMA "State.all_items" = true) (kMA : PySem.W.keepIn K (.ref fMA) = true)
    (z1 : PySem.W.nsIn K mainGlobals "range" = some none) (z2 : PySem.W.nsIn K mainGlobals "len" = some none) (z3 : PySem.W.nsIn K mainGlobals "int" = some none) (z4 : PySem.W.nsIn K mainGlobals "str" = some none) (z5 : PySem.W.nsIn K mainGlobals "bool" = some none) (z6 : PySem.W.nsIn K mainGlobals "list" = some none) (z7 : PySem.W.nsIn K mainGlobals "tuple" = some none) (z8 : PySem.W.nsIn K mainGlobals "dict" = some none) (z9 : PySem.W.nsIn K mainGlobals "isinstance" = some none) (z10 : PySem.W.nsIn K mainGlobals "min" = some none) (z11 : PySem.W.nsIn K mainGlobals "sum" = some none) (z12 : PySem.W.nsIn K mainGlobals "sorted" = some none) (z13 : PySem.W.nsIn K mainGlobals "abs" = some none) (z14 : PySem.W.nsIn K mainGlobals "ord" = some none) :
    ∃ fd : FuncData, (∀ (s : Shared) (v : Value), BindsTo s fd ⟨[v], []⟩ [("script", v)]) ∧ ∀ base : Heap, K.In base → base.Ns mainGlobals mg → FnOk l.prog w K mg base CX0 13 fa fd ["script"] (spLaw K) := by
  have e := hfa.symm.trans (PySem.W.mg_of X G a48)
  cases e
  have F1 := fun_mk (st := svalue_key) l1 c1 k1
  have b1 := F1.binds (ps := ["value"]) fun _ _ _ _ _ _ us hl => match us, hl with | [_], _ => rfl
  have g1 := PySem.W.mg_of X G a1
  have F2 := fun_mk (st := srow_key) l2 c2 k2
  have b2 := F2.binds (ps := ["row"]) fun _ _ _ _ _ _ us hl => match us, hl with | [_], _ => rfl
  have g2 := PySem.W.mg_of X G a2
  have F3 := fun_mk (st := splace_of) l3 c3 k3
  have b3 := F3.binds (ps := ["rows", "row"]) fun _ _ _ _ _ _ us hl => match us, hl with | [_, _], _ => rfl
  have g3 := PySem.W.mg_of X G a3
  have F4 := fun_mk (st := sput_fact) l4 c4 k4
  have b4 := F4.binds (ps := ["state", "name", "row"]) fun _ _ _ _ _ _ us hl => match us, hl with | [_, _, _], _ => rfl
  have g4 := PySem.W.mg_of X G a4
  have F5 := fun_mk (st := sput_item) l5 c5 k5
  have b5 := F5.binds (ps := ["state", "item"]) fun _ _ _ _ _ _ us hl => match us, hl with | [_, _], _ => rfl
  have g5 := PySem.W.mg_of X G a5
  have F6 := fun_mk (st := swrite_number) l6 c6 k6
  have b6 := F6.binds (ps := ["number"]) fun _ _ _ _ _ _ us hl => match us, hl with | [_], _ => rfl
  have g6 := PySem.W.mg_of X G a6
  have F7 := fun_mk (st := swrite_integer) l7 c7 k7
  have b7 := F7.binds (ps := ["number"]) fun _ _ _ _ _ _ us hl => match us, hl with | [_], _ => rfl
  have g7 := PySem.W.mg_of X G a7
  have F8 := fun_mk (st := swrite_string) l8 c8 k8
  have b8 := F8.binds (ps := ["text"]) fun _ _ _ _ _ _ us hl => match us, hl with | [_], _ => rfl
  have g8 := PySem.W.mg_of X G a8
  have F9 := fun_mk (st := swrite_names) l9 c9 k9
  have b9 := F9.binds (ps := ["names"]) fun _ _ _ _ _ _ us hl => match us, hl with | [_], _ => rfl
  have g9 := PySem.W.mg_of X G a9
  have F10 := fun_mk (st := swrite_value) l10 c10 k10
  have b10 := F10.binds (ps := ["value"]) fun _ _ _ _ _ _ us hl => match us, hl with | [_], _ => rfl
  have g10 := PySem.W.mg_of X G a10
  have F11 := fun_mk (st := swrite_row) l11 c11 k11
  have b11 := F11.binds (ps := ["row"]) fun _ _ _ _ _ _ us hl => match us, hl with | [_], _ => rfl
  have g11 := PySem.W.mg_of X G a11
  have F12 := fun_mk (st := swrite_item) l12 c12 k12
  have b12 := F12.binds (ps := ["item"]) fun _ _ _ _ _ _ us hl => match us, hl with | [_], _ => rfl
  have g12 := PySem.W.mg_of X G a12
  have F13 := fun_mk (st := swrite_change) l13 c13 k13
  have b13 := F13.binds (ps := ["change"]) fun _ _ _ _ _ _ us hl => match us, hl with | [_], _ => rfl
  have g13 := PySem.W.mg_of X G a13
  have F14 := fun_mk (st := swrite_changes) l14 c14 k14
  have b14 := F14.binds (ps := ["changes"]) fun _ _ _ _ _ _ us hl => match us, hl with | [_], _ => rfl
  have g14 := PySem.W.mg_of X G a14
  have F15 := fun_mk (st := swrite_image) l15 c15 k15
  have b15 := F15.binds (ps := ["commits", "state"]) fun _ _ _ _ _ _ us hl => match us, hl with | [_, _], _ => rfl
  have g15 := PySem.W.mg_of X G a15
  have F16 := fun_mk (st := scharacter) l16 c16 k16
  have b16 := F16.binds (ps := ["code"]) fun _ _ _ _ _ _ us hl => match us, hl with | [_], _ => rfl
  have g16 := PySem.W.mg_of X G a16
  have F17 := fun_mk (st := s_law_mix) l17 c17 k17
  have b17 := F17.binds (ps := ["cell", "k"]) fun _ _ _ _ _ _ us hl => match us, hl with | [_, _], _ => rfl
  have g17 := PySem.W.mg_of X G a17
  have F18 := fun_mk (st := s_law_draws) l18 c18 k18
  have b18 := F18.binds (ps := ["script"]) fun _ _ _ _ _ _ us hl => match us, hl with | [_], _ => rfl
  have g18 := PySem.W.mg_of X G a18
  have F19 := fun_mk (st := s_law_at) l19 c19 k19
  have b19 := F19.binds (ps := ["draws", "index"]) fun _ _ _ _ _ _ us hl => match us, hl with | [_, _], _ => rfl
  have g19 := PySem.W.mg_of X G a19
  have F20 := fun_mk (st := s_law_is_integer) l20 c20 k20
  have b20 := F20.binds (ps := ["actual"]) fun _ _ _ _ _ _ us hl => match us, hl with | [_], _ => rfl
  have g20 := PySem.W.mg_of X G a20
  have F21 := fun_mk (st := s_law_same) l21 c21 k21
  have b21 := F21.binds (ps := ["actual", "expected"]) fun _ _ _ _ _ _ us hl => match us, hl with | [_, _], _ => rfl
  have g21 := PySem.W.mg_of X G a21
  have F22 := fun_mk (st := s_law_is_dict) l22 c22 k22
  have b22 := F22.binds (ps := ["actual", "expected"]) fun _ _ _ _ _ _ us hl => match us, hl with | [_, _], _ => rfl
  have g22 := PySem.W.mg_of X G a22
  have F23 := fun_mk (st := s_law_next) l23 c23 k23
  have b23 := F23.binds (ps := ["state", "limit"]) fun _ _ _ _ _ _ us hl => match us, hl with | [_, _], _ => rfl
  have g23 := PySem.W.mg_of X G a23
  have F24 := fun_mk (st := s_law_number) l24 c24 k24
  have b24 := F24.binds (ps := ["number"]) fun _ _ _ _ _ _ us hl => match us, hl with | [_], _ => rfl
  have g24 := PySem.W.mg_of X G a24
  have F25 := fun_mk (st := s_law_listed) l25 c25 k25
  have b25 := F25.binds (ps := ["parts"]) fun _ _ _ _ _ _ us hl => match us, hl with | [_], _ => rfl
  have g25 := PySem.W.mg_of X G a25
  have F26 := fun_mk (st := s_law_text) l26 c26 k26
  have b26 := F26.binds (ps := ["state", "most"]) fun _ _ _ _ _ _ us hl => match us, hl with | [_, _], _ => rfl
  have g26 := PySem.W.mg_of X G a26
  have F27 := fun_mk (st := s_law_value) l27 c27 k27
  have b27 := F27.binds (ps := ["state"]) fun _ _ _ _ _ _ us hl => match us, hl with | [_], _ => rfl
  have g27 := PySem.W.mg_of X G a27
  have F28 := fun_mk (st := s_law_row) l28 c28 k28
  have b28 := F28.binds (ps := ["state", "width"]) fun _ _ _ _ _ _ us hl => match us, hl with | [_, _], _ => rfl
  have g28 := PySem.W.mg_of X G a28
  have F29 := fun_mk (st := s_law_name) l29 c29 k29
  have b29 := F29.binds (ps := ["state"]) fun _ _ _ _ _ _ us hl => match us, hl with | [_], _ => rfl
  have g29 := PySem.W.mg_of X G a29
  have F30 := fun_mk (st := s_law_first) l30 c30 k30
  have b30 := F30.binds (ps := ["one", "other"]) fun _ _ _ _ _ _ us hl => match us, hl with | [_, _], _ => rfl
  have g30 := PySem.W.mg_of X G a30
  have F31 := fun_mk (st := s_law_order) l31 c31 k31
  have b31 := F31.binds (ps := ["first", "second"]) fun _ _ _ _ _ _ us hl => match us, hl with | [_, _], _ => rfl
  have g31 := PySem.W.mg_of X G a31
  have F32 := fun_mk (st := s_law_key) l32 c32 k32
  have b32 := F32.binds (ps := ["item"]) fun _ _ _ _ _ _ us hl => match us, hl with | [_], _ => rfl
  have g32 := PySem.W.mg_of X G a32
  have F33 := fun_mk (st := s_law_key_order) l33 c33 k33
  have b33 := F33.binds (ps := ["first", "second"]) fun _ _ _ _ _ _ us hl => match us, hl with | [_, _], _ => rfl
  have g33 := PySem.W.mg_of X G a33
  have F34 := fun_mk (st := s_law_item) l34 c34 k34
  have b34 := F34.binds (ps := ["state"]) fun _ _ _ _ _ _ us hl => match us, hl with | [_], _ => rfl
  have g34 := PySem.W.mg_of X G a34
  have F35 := fun_mk (st := s_law_placed) l35 c35 k35
  have b35 := F35.binds (ps := ["items", "item"]) fun _ _ _ _ _ _ us hl => match us, hl with | [_, _], _ => rfl
  have g35 := PySem.W.mg_of X G a35
  have F36 := fun_mk (st := s_law_some_items) l36 c36 k36
  have b36 := F36.binds (ps := ["state", "most"]) fun _ _ _ _ _ _ us hl => match us, hl with | [_, _], _ => rfl
  have g36 := PySem.W.mg_of X G a36
  have F37 := fun_mk (st := s_law_is_state) l37 c37 k37
  have b37 := F37.binds (ps := ["actual", "ordered"]) fun _ _ _ _ _ _ us hl => match us, hl with | [_, _], _ => rfl
  have g37 := PySem.W.mg_of X G a37
  have F38 := fun_mk (st := s_law_string) l38 c38 k38
  have b38 := F38.binds (ps := ["text"]) fun _ _ _ _ _ _ us hl => match us, hl with | [_], _ => rfl
  have g38 := PySem.W.mg_of X G a38
  have F39 := fun_mk (st := s_law_value_bytes) l39 c39 k39
  have b39 := F39.binds (ps := ["value"]) fun _ _ _ _ _ _ us hl => match us, hl with | [_], _ => rfl
  have g39 := PySem.W.mg_of X G a39
  have F40 := fun_mk (st := s_law_row_bytes) l40 c40 k40
  have b40 := F40.binds (ps := ["row"]) fun _ _ _ _ _ _ us hl => match us, hl with | [_], _ => rfl
  have g40 := PySem.W.mg_of X G a40
  have F41 := fun_mk (st := s_law_item_bytes) l41 c41 k41
  have b41 := F41.binds (ps := ["item"]) fun _ _ _ _ _ _ us hl => match us, hl with | [_], _ => rfl
  have g41 := PySem.W.mg_of X G a41
  have F42 := fun_mk (st := s_law_change_bytes) l42 c42 k42
  have b42 := F42.binds (ps := ["change"]) fun _ _ _ _ _ _ us hl => match us, hl with | [_], _ => rfl
  have g42 := PySem.W.mg_of X G a42
  have F43 := fun_mk (st := s_law_any_changes) l43 c43 k43
  have b43 := F43.binds (ps := ["state", "most"]) fun _ _ _ _ _ _ us hl => match us, hl with | [_, _], _ => rfl
  have g43 := PySem.W.mg_of X G a43
  have F44 := fun_mk (st := s_law_read) l44 c44 k44
  have b44 := F44.binds (ps := ["reader", "form"]) fun _ _ _ _ _ _ us hl => match us, hl with | [_, _], _ => rfl
  have g44 := PySem.W.mg_of X G a44
  have F45 := fun_mk (st := s_law_ends) l45 c45 k45
  have b45 := F45.binds (ps := ["reader", "tail"]) fun _ _ _ _ _ _ us hl => match us, hl with | [_, _], _ => rfl
  have g45 := PySem.W.mg_of X G a45
  have F46 := fun_mk (st := s_law_asks) l46 c46 k46
  have b46 := F46.binds (ps := ["form", "thing", "told", "due", "tail"]) fun _ _ _ _ _ _ us hl => match us, hl with | [_, _, _, _, _], _ => rfl
  have g46 := PySem.W.mg_of X G a46
  have F47 := fun_mk (st := s_law_image) l47 c47 k47
  have b47 := F47.binds (ps := ["state", "tail"]) fun _ _ _ _ _ _ us hl => match us, hl with | [_, _], _ => rfl
  have g47 := PySem.W.mg_of X G a47
  have F48 := fun_mk (st := slaw) l48 c48 k48
  have T : Bl mg := ⟨PySem.W.mg_none_of X G z1, PySem.W.mg_none_of X G z2, PySem.W.mg_none_of X G z3, PySem.W.mg_none_of X G z4, PySem.W.mg_none_of X G z5, PySem.W.mg_none_of X G z6, PySem.W.mg_none_of X G z7, PySem.W.mg_none_of X G z8, PySem.W.mg_none_of X G z9, PySem.W.mg_none_of X G z10, PySem.W.mg_none_of X G z11, PySem.W.mg_none_of X G z12, PySem.W.mg_none_of X G z13, PySem.W.mg_none_of X G z14⟩
  have G0 : Gr mg := ⟨⟨t1, PySem.W.mg_of X G y1⟩, ⟨t2, PySem.W.mg_of X G y2⟩, ⟨t3, PySem.W.mg_of X G y3⟩, ⟨t4, PySem.W.mg_of X G y4⟩, ⟨uS, PySem.W.mg_of X G y5⟩⟩
  have SM : SrtM K mg sA := ⟨PySem.W.mg_of X G aS, _, _, _, lS, rfl, rfl, rfl, sz 4, .cons ⟨_, rfl⟩ (.cons ⟨_, rfl⟩ (.cons ⟨_, rfl⟩ (.cons ⟨_, rfl⟩ .nil)))⟩
  have XDm : ExK K mg CD "DamagedData" := ⟨xDx, PySem.W.mg_of X G xDg, xDk, xDb, xDt⟩
  have gS := PySem.W.mg_of X G xSg
  have XIs : ExcI K CD CS := ⟨⟨ig, ik, xDb, xDd, ia, inn, it, im⟩, by unfold PySem.W.kitOne; rw [if_pos (beq_iff_eq.mpr rfl)], (by unfold PySem.W.kitOne PySem.W.kitCls; rw [if_neg (by intro z; cases beq_iff_eq.mp z)]; dsimp only; rw [if_pos (by decide +kernel)]; exact iv), PySem.W.exm_ref xSb xSd xSt xSs⟩
  have verr := PySem.W.mg_none_of X G zV
  have XR : TxtR K mg CR := ⟨⟨rpg, rhd, rpo, rsa⟩, rn1, rn2, PySem.W.mg_of X G rC⟩
  have FRI := fun_mk (st := sReader_init) lRI cRI kRI
  have bRI := FRI.binds (ps := ["self", "data"]) fun _ _ _ _ _ _ us hl => match us, hl with | [_, _], _ => rfl
  have mRI : Mk K CR fRI := ⟨rmk, aRI, iRI, rkc⟩
  have FRL := fun_mk (st := sReader_left) lRL cRL kRL
  have bRL := FRL.binds (ps := ["self"]) fun _ _ _ _ _ _ us hl => match us, hl with | [_], _ => rfl
  have mRL : Meth K CR "left" fRL := ⟨aRL, iRL, kRL⟩
  have FRB := fun_mk (st := sReader_read_byte) lRB cRB kRB
  have bRB := FRB.binds (ps := ["self"]) fun _ _ _ _ _ _ us hl => match us, hl with | [_], _ => rfl
  have mRB : Meth K CR "read_byte" fRB := ⟨aRB, iRB, kRB⟩
  have FRC := fun_mk (st := sReader_read_choice) lRC cRC kRC
  have bRC := FRC.binds (ps := ["self", "many"]) fun _ _ _ _ _ _ us hl => match us, hl with | [_, _], _ => rfl
  have mRC : Meth K CR "read_choice" fRC := ⟨aRC, iRC, kRC⟩
  have FRN := fun_mk (st := sReader_read_number) lRN cRN kRN
  have bRN := FRN.binds (ps := ["self"]) fun _ _ _ _ _ _ us hl => match us, hl with | [_], _ => rfl
  have mRN : Meth K CR "read_number" fRN := ⟨aRN, iRN, kRN⟩
  have FRG := fun_mk (st := sReader_read_length) lRG cRG kRG
  have bRG := FRG.binds (ps := ["self"]) fun _ _ _ _ _ _ us hl => match us, hl with | [_], _ => rfl
  have mRG : Meth K CR "read_length" fRG := ⟨aRG, iRG, kRG⟩
  have FRT := fun_mk (st := sReader_read_integer) lRT cRT kRT
  have bRT := FRT.binds (ps := ["self"]) fun _ _ _ _ _ _ us hl => match us, hl with | [_], _ => rfl
  have mRT : Meth K CR "read_integer" fRT := ⟨aRT, iRT, kRT⟩
  have FRS := fun_mk (st := sReader_read_string) lRS cRS kRS
  have bRS := FRS.binds (ps := ["self"]) fun _ _ _ _ _ _ us hl => match us, hl with | [_], _ => rfl
  have mRS : Meth K CR "read_string" fRS := ⟨aRS, iRS, kRS⟩
  have FRV := fun_mk (st := sReader_read_value) lRV cRV kRV
  have bRV := FRV.binds (ps := ["self"]) fun _ _ _ _ _ _ us hl => match us, hl with | [_], _ => rfl
  have mRV : Meth K CR "read_value" fRV := ⟨aRV, iRV, kRV⟩
  have FRW := fun_mk (st := sReader_read_row) lRW cRW kRW
  have bRW := FRW.binds (ps := ["self"]) fun _ _ _ _ _ _ us hl => match us, hl with | [_], _ => rfl
  have mRW : Meth K CR "read_row" fRW := ⟨aRW, iRW, kRW⟩
  have FRM := fun_mk (st := sReader_read_names) lRM cRM kRM
  have bRM := FRM.binds (ps := ["self"]) fun _ _ _ _ _ _ us hl => match us, hl with | [_], _ => rfl
  have mRM : Meth K CR "read_names" fRM := ⟨aRM, iRM, kRM⟩
  have FRO := fun_mk (st := sReader_read_item) lRO cRO kRO
  have bRO := FRO.binds (ps := ["self"]) fun _ _ _ _ _ _ us hl => match us, hl with | [_], _ => rfl
  have mRO : Meth K CR "read_item" fRO := ⟨aRO, iRO, kRO⟩
  have FRP := fun_mk (st := sReader_read_change) lRP cRP kRP
  have bRP := FRP.binds (ps := ["self"]) fun _ _ _ _ _ _ us hl => match us, hl with | [_], _ => rfl
  have mRP : Meth K CR "read_change" fRP := ⟨aRP, iRP, kRP⟩
  have FRQ := fun_mk (st := sReader_read_changes) lRQ cRQ kRQ
  have bRQ := FRQ.binds (ps := ["self"]) fun _ _ _ _ _ _ us hl => match us, hl with | [_], _ => rfl
  have mRQ : Meth K CR "read_changes" fRQ := ⟨aRQ, iRQ, kRQ⟩
  have FRU := fun_mk (st := sReader_read_image) lRU cRU kRU
  have bRU := FRU.binds (ps := ["self"]) fun _ _ _ _ _ _ us hl => match us, hl with | [_], _ => rfl
  have mRU : Meth K CR "read_image" fRU := ⟨aRU, iRU, kRU⟩
  have FRX := fun_mk (st := sReader_end) lRX cRX kRX
  have bRX := FRX.binds (ps := ["self"]) fun _ _ _ _ _ _ us hl => match us, hl with | [_], _ => rfl
  have mRX : Meth K CR "end" fRX := ⟨aRX, iRX, kRX⟩
  have X : Txt K mg C := ⟨⟨pg, hd, po, sa⟩, nR, nF, nS, nL, PySem.W.mg_of X G aC⟩
  have FI : FunD K "__init__" "State.__init__" (defArgs sInit) (defBody sInit) (defScope sInit) [V.ref A0] [] fI (PySem.W.fnOf "__init__" "State.__init__" (defArgs sInit) (defBody sInit) (defScope sInit) (.ref TT) kVI dcI pmI anI cdI ctI) :=
    ⟨⟨ocI, odI, .ref TT, kVI, dcI, pmI, anI, cdI, ctI, slI, rfl, lI, cI, .inr ⟨by simp, TT, _, [.ref A0], nT, rfl, lT, rfl, .cons rfl .nil⟩, .inl rfl⟩, kI⟩
  obtain ⟨d1, v1, bI⟩ := FI.binds1 (ps := ["self", "items"]) 2 1 (by simp) rfl fun T kV doc pm an cdv ct us its hu hi => match us, its, hu, hi with | [_, _], [_], _, _ => ⟨_, rfl, rfl⟩
  obtain ⟨d0, v0, bI0⟩ := FI.binds1 (ps := ["self", "items"]) 1 0 (by simp) rfl fun T kV doc pm an cdv ct us its hu hi => match us, its, hu, hi with | [_], [_], _, _ => ⟨_, rfl, rfl⟩
  have e1 : d1 = [] := by cases v1; rfl
  subst e1
  have hA0 : ∀ H : Hp, SqT K H A0 [] := fun H => .inr ⟨_, #[], nA, lA, rfl, rfl, Nat.zero_le _, .nil⟩
  have FMA := fun_mk (st := sAll) lMA cMA kMA
  have bMA := FMA.binds (ps := ["self"]) fun _ _ _ _ _ _ us hl => match us, hl with | [_], _ => rfl
  have mMA : Meth K C "all_items" fMA := ⟨aMA, iMA, kMA⟩
  refine ⟨PySem.W.fnOf "law" "law" (defArgs slaw) (defBody slaw) (defScope slaw) .none kV48 dc48 pm48 an48 cd48 ct48, fun s v => .of_eq rfl, fun base _ _ => ?_⟩
  have Dvalue_key : Kn l.prog w K mg base 1 "value_key" ["value"] (spVKey K) := kn_of F1 g1 b1 (ok_vkey F1 T)
  have Drow_key : Kn l.prog w K mg base 2 "row_key" ["row"] (spRKey K) := kn_of F2 g2 b2 (ok_rkey F2 T Dvalue_key)
  have Dplace_of : Kn l.prog w K mg base 3 "place_of" ["rows", "row"] (spPlace K) := kn_of F3 g3 b3 (ok_place F3 T Drow_key)
  have Dput_fact : Kn l.prog w K mg base 4 "put_fact" ["state", "name", "row"] (spPutFact K C) := kn_of F4 g4 b4 (ok_putfact F4 T X Dplace_of)
  have Dput_item : Kn l.prog w K mg base 5 "put_item" ["state", "item"] (spPutItem K C) := kn_of F5 g5 b5 (ok_putitem F5 T X Dput_fact)
  have St : Sta l.prog w K mg base C := ⟨fI, _, A0, d0, ⟨mk, aI, iI, kc⟩, ok_init FI X Dput_item, ok_init0 FI X Dput_item, bI, bI0, v0, hA0⟩
  have Sall : Kmt l.prog w K mg base C 1 "all_items" ["self"] (spAll K C) := ⟨⟨_, _, mMA, ok_all FMA T X, bMA⟩, X.cl⟩
  have Dwrite_number : Kn l.prog w K mg base 1 "write_number" ["number"] (spNumber) := kn_of F6 g6 b6 (ok_number F6 T)
  have Dwrite_integer : Kn l.prog w K mg base 2 "write_integer" ["number"] (spInteger) := kn_of F7 g7 b7 (ok_integer F7 T Dwrite_number)
  have Dwrite_string : Kn l.prog w K mg base 2 "write_string" ["text"] (spString) := kn_of F8 g8 b8 (ok_string F8 T Dwrite_number)
  have Dwrite_names : Kn l.prog w K mg base 3 "write_names" ["names"] (spNames K) := kn_of F9 g9 b9 (ok_wnames F9 T Dwrite_number Dwrite_string)
  have Dwrite_value : Kn l.prog w K mg base 3 "write_value" ["value"] (spVB) := kn_of F10 g10 b10 (ok_wvalue F10 T Dwrite_string Dwrite_integer)
  have Dwrite_row : Kn l.prog w K mg base 4 "write_row" ["row"] (spRB K) := kn_of F11 g11 b11 (ok_wrow F11 T Dwrite_number Dwrite_value)
  have Dwrite_item : Kn l.prog w K mg base 5 "write_item" ["item"] (spWItem K) := kn_of F12 g12 b12 (ok_witem F12 T SM SM.g Dwrite_number Dwrite_string Dwrite_names Dwrite_row)
  have Dwrite_change : Kn l.prog w K mg base 6 "write_change" ["change"] (spWChange K) := kn_of F13 g13 b13 (ok_wchange F13 Dwrite_string Dwrite_item Dwrite_row)
  have Dwrite_changes : Kn l.prog w K mg base 7 "write_changes" ["changes"] (spWChanges K) := kn_of F14 g14 b14 (ok_wchanges F14 T Dwrite_number Dwrite_change)
  have Dwrite_image : Kn l.prog w K mg base 6 "write_image" ["commits", "state"] (spWImage K C) := kn_of F15 g15 b15 (ok_wimage F15 T Dwrite_number Dwrite_item Sall)
  have Dcharacter : Kn l.prog w K mg base 1 "character" ["code"] (spChar) := kn_of F16 g16 b16 (ok_character F16 G0)
  have RK : Kmk l.prog w K mg base CR 1 ["self", "data"] (spRInit K CR) := ⟨⟨_, _, mRI, ok_rinit FRI T XR, bRI⟩⟩
  have Rleft : Kmt l.prog w K mg base CR 1 "left" ["self"] (spLeft CR) := ⟨⟨_, _, mRL, ok_rleft FRL T XR, bRL⟩, XR.cl⟩
  have Rbyte : Kmt l.prog w K mg base CR 2 "read_byte" ["self"] (spByte CR) := ⟨⟨_, _, mRB, ok_rbyte FRB T XR Rleft, bRB⟩, XR.cl⟩
  have Rchoice : Kmt l.prog w K mg base CR 3 "read_choice" ["self", "many"] (spChoice CR) := ⟨⟨_, _, mRC, ok_rchoice FRC Rbyte, bRC⟩, XR.cl⟩
  have Rnumber : Kmt l.prog w K mg base CR 3 "read_number" ["self"] (spNum CR) := ⟨⟨_, _, mRN, ok_rnumber FRN T G0 Rbyte, bRN⟩, XR.cl⟩
  have Rlength : Kmt l.prog w K mg base CR 4 "read_length" ["self"] (spLen CR) := ⟨⟨_, _, mRG, ok_rlength FRG Rleft Rnumber, bRG⟩, XR.cl⟩
  have Rinteger : Kmt l.prog w K mg base CR 4 "read_integer" ["self"] (spInt CR) := ⟨⟨_, _, mRT, ok_rinteger FRT Rchoice Rnumber, bRT⟩, XR.cl⟩
  have Rstring : Kmt l.prog w K mg base CR 5 "read_string" ["self"] (spStr CR) := ⟨⟨_, _, mRS, ok_rstring FRS T Dcharacter Rbyte Rlength, bRS⟩, XR.cl⟩
  have Rvalue : Kmt l.prog w K mg base CR 6 "read_value" ["self"] (spVal CR) := ⟨⟨_, _, mRV, ok_rvalue FRV Rchoice Rstring Rinteger, bRV⟩, XR.cl⟩
  have Rrow : Kmt l.prog w K mg base CR 7 "read_row" ["self"] (spRdRow CR) := ⟨⟨_, _, mRW, ok_rrow FRW T Rvalue Rlength, bRW⟩, XR.cl⟩
  have Rnames : Kmt l.prog w K mg base CR 6 "read_names" ["self"] (spRdNames CR) := ⟨⟨_, _, mRM, ok_rnames FRM T Rstring Rlength, bRM⟩, XR.cl⟩
  have Ritem : Kmt l.prog w K mg base CR 8 "read_item" ["self"] (spRdItem K CR) := ⟨⟨_, _, mRO, ok_ritem FRO SM SM.g Rchoice Rnumber Rstring Rnames Rrow, bRO⟩, XR.cl⟩
  have Rchange : Kmt l.prog w K mg base CR 9 "read_change" ["self"] (spRdChange K CR) := ⟨⟨_, _, mRP, ok_rchange FRP Rchoice Rstring Rrow Ritem, bRP⟩, XR.cl⟩
  have Rchanges : Kmt l.prog w K mg base CR 10 "read_changes" ["self"] (spRdChanges K CR) := ⟨⟨_, _, mRQ, ok_rchanges FRQ T Rlength Rchange, bRQ⟩, XR.cl⟩
  have Rimage : Kmt l.prog w K mg base CR 9 "read_image" ["self"] (spRdImage K CR C) := ⟨⟨_, _, mRU, ok_rimage FRU T X St Rnumber Rlength Ritem, bRU⟩, XR.cl⟩
  have Rend : Kmx l.prog w K mg base CR 2 "end" ["self"] (spEnd CR CD) := ⟨⟨_, _, mRX, ok_rend FRX XDm Rleft, bRX⟩, XR.cl⟩
  have D_law_mix : Kn l.prog w K mg base 1 "_law_mix" ["cell", "k"] (spMix) := kn_of F17 g17 b17 (ok_mix F17 T)
  have D_law_draws : Kn l.prog w K mg base 2 "_law_draws" ["script"] (spDraws K) := kn_of F18 g18 b18 (ok_draws F18 T D_law_mix)
  have D_law_at : Kn l.prog w K mg base 2 "_law_at" ["draws", "index"] (spAt K) := kn_of F19 g19 b19 (ok_at F19 T D_law_mix)
  have D_law_is_integer : Kn l.prog w K mg base 1 "_law_is_integer" ["actual"] (spIsInt) := kn_of F20 g20 b20 (ok_isint F20 T)
  have D_law_same0 : Kn l.prog w K mg base 1 "_law_same" ["actual", "expected"] (spSm K 0) := kn_of F21 g21 b21 (ok_smZ F21)
  have D_law_same1 : Kn l.prog w K mg base 2 "_law_same" ["actual", "expected"] (spSm K 1) := kn_of F21 g21 b21 (ok_sm F21 T D_law_is_integer D_law_same0)
  have D_law_same2 : Kn l.prog w K mg base 3 "_law_same" ["actual", "expected"] (spSm K 2) := kn_of F21 g21 b21 (ok_sm F21 T D_law_is_integer D_law_same1)
  have D_law_same3 : Kn l.prog w K mg base 4 "_law_same" ["actual", "expected"] (spSm K 3) := kn_of F21 g21 b21 (ok_sm F21 T D_law_is_integer D_law_same2)
  have D_law_same4 : Kn l.prog w K mg base 5 "_law_same" ["actual", "expected"] (spSm K 4) := kn_of F21 g21 b21 (ok_sm F21 T D_law_is_integer D_law_same3)
  have D_law_same : Kn l.prog w K mg base 6 "_law_same" ["actual", "expected"] (spSm K 5) := kn_of F21 g21 b21 (ok_sm F21 T D_law_is_integer D_law_same4)
  have D_law_is_dict : Kn l.prog w K mg base 5 "_law_is_dict" ["actual", "expected"] (spIsD K) := kn_of F22 g22 b22 (ok_isd F22 T D_law_same3)
  have D_law_next : Kn l.prog w K mg base 3 "_law_next" ["state", "limit"] (spNext) := kn_of F23 g23 b23 (ok_next F23 T D_law_at)
  have D_law_number : Kn l.prog w K mg base 1 "_law_number" ["number"] (spNumber) := kn_of F24 g24 b24 (ok_lnumber F24 T)
  have D_law_listed : Kn l.prog w K mg base 2 "_law_listed" ["parts"] (spListed) := kn_of F25 g25 b25 (ok_listed F25 T D_law_number)
  have D_law_text : Kn l.prog w K mg base 4 "_law_text" ["state", "most"] (spText) := kn_of F26 g26 b26 (ok_text F26 T D_law_next)
  have D_law_value : Kn l.prog w K mg base 5 "_law_value" ["state"] (spValue) := kn_of F27 g27 b27 (ok_value F27 T D_law_next D_law_text)
  have D_law_row : Kn l.prog w K mg base 6 "_law_row" ["state", "width"] (spRow) := kn_of F28 g28 b28 (ok_row F28 T D_law_value)
  have D_law_name : Kn l.prog w K mg base 4 "_law_name" ["state"] (spName4) := kn_of F29 g29 b29 (ok_name4 F29 D_law_next)
  have D_law_first : Kn l.prog w K mg base 1 "_law_first" ["one", "other"] (spFirst) := kn_of F30 g30 b30 (ok_first F30 T)
  have D_law_order : Kn l.prog w K mg base 2 "_law_order" ["first", "second"] (spOrder K) := kn_of F31 g31 b31 (ok_order F31 T D_law_first)
  have D_law_key : Kn l.prog w K mg base 1 "_law_key" ["item"] (spLKey K) := kn_of F32 g32 b32 (ok_lkey F32)
  have D_law_key_order : Kn l.prog w K mg base 3 "_law_key_order" ["first", "second"] (spLOrd K) := kn_of F33 g33 b33 (ok_lord F33 T D_law_order)
  have D_law_item : Kn l.prog w K mg base 7 "_law_item" ["state"] (spItem4 K) := kn_of F34 g34 b34 (ok_item4 F34 T D_law_next D_law_name D_law_row)
  have D_law_placed : Kn l.prog w K mg base 4 "_law_placed" ["items", "item"] (spPlaced K) := kn_of F35 g35 b35 (ok_placed F35 T D_law_key D_law_key_order)
  have D_law_some_items : Kn l.prog w K mg base 8 "_law_some_items" ["state", "most"] (spSome4 K) := kn_of F36 g36 b36 (ok_some4 F36 T D_law_next D_law_item D_law_placed)
  have D_law_is_state : Kn l.prog w K mg base 6 "_law_is_state" ["actual", "ordered"] (spIsSt2 K C) := kn_of F37 g37 b37 (ok_isst2 F37 T X Sall D_law_is_dict D_law_same4)
  have D_law_string : Kn l.prog w K mg base 3 "_law_string" ["text"] (spString) := kn_of F38 g38 b38 (ok_lstring F38 T D_law_listed)
  have D_law_value_bytes : Kn l.prog w K mg base 4 "_law_value_bytes" ["value"] (spVB) := kn_of F39 g39 b39 (ok_lvalb F39 T D_law_number D_law_string)
  have D_law_row_bytes : Kn l.prog w K mg base 5 "_law_row_bytes" ["row"] (spRB K) := kn_of F40 g40 b40 (ok_lrowb F40 T D_law_listed D_law_value_bytes)
  have D_law_item_bytes : Kn l.prog w K mg base 6 "_law_item_bytes" ["item"] (spWItem K) := kn_of F41 g41 b41 (ok_litem F41 T D_law_number D_law_string D_law_listed D_law_row_bytes)
  have D_law_change_bytes : Kn l.prog w K mg base 7 "_law_change_bytes" ["change"] (spWChange K) := kn_of F42 g42 b42 (ok_lchange F42 D_law_string D_law_item_bytes D_law_row_bytes)
  have D_law_any_changes : Kn l.prog w K mg base 8 "_law_any_changes" ["state", "most"] (spAny K) := kn_of F43 g43 b43 (ok_lany F43 T D_law_next D_law_item D_law_key)
  have D_law_read : Kn l.prog w K mg base 11 "_law_read" ["reader", "form"] (spLRead K CR) := kn_of F44 g44 b44 (ok_lread F44 Rnumber Rinteger Rstring Rvalue Rrow Ritem Rchange Rchanges)
  have D_law_ends : Kn l.prog w K mg base 3 "_law_ends" ["reader", "tail"] (spEnds K CR) := kn_of F45 g45 b45 (ok_lends F45 T verr XDm gS XIs Rend)
  have D_law_asks : Kn l.prog w K mg base 12 "_law_asks" ["form", "thing", "told", "due", "tail"] (spAsks K) := kn_of F46 g46 b46 (ok_lasks F46 T XR XR.mgC RK D_law_same D_law_read D_law_ends)
  have D_law_image : Kn l.prog w K mg base 10 "_law_image" ["state", "tail"] (spImage K) := kn_of F47 g47 b47 (ok_limage F47 T X XR St XR.mgC RK D_law_next D_law_some_items D_law_number D_law_listed D_law_item_bytes D_law_same Dwrite_image Rimage D_law_is_state D_law_ends)
  exact ok_law F48 T D_law_draws D_law_next D_law_value D_law_text D_law_row D_law_item D_law_any_changes Dwrite_number Dwrite_integer Dwrite_string Dwrite_value Dwrite_row Dwrite_item Dwrite_change Dwrite_changes D_law_number D_law_listed D_law_string D_law_value_bytes D_law_row_bytes D_law_item_bytes D_law_change_bytes D_law_asks D_law_image
end K1
open PySem PySem.W PyProof.Rows
set_option maxHeartbeats 0 in
theorem PySem.Challenge.cw_turnshelves_k04_bytes_of_data_holds : PySem.Challenge.rw_turnshelves_k04_bytes_of_data.Holds := by
  w_on; o_law; k_head; (case hw => w_witness2)
  k_fill
  refine L2.walk_of (l := PySem.Challenge.rw_turnshelves_k04_bytes_of_data) (n := 63) (k := 13) (x := "script") (CX := fun _ => L2.CX0) (sp := fun w => K1.spLaw _) rfl (by decide) rfl ⟨rfl, by decide, by decide⟩ (fun w h Y => PySem.W.kIn_of Y) ?F (fun _ _ a ns hl _ hS => ⟨a, ns, rfl, hS, hl, fun _ => rfl⟩) (fun _ _ _ _ _ h => h)
  case F =>
    intro w mg fa h KX G hmg
    refine' K1.all_mk KX G hmg ?a1 ?l1 ?c1 ?k1 ?a2 ?l2 ?c2 ?k2 ?a3 ?l3 ?c3 ?k3 ?a4 ?l4 ?c4 ?k4 ?a5 ?l5 ?c5 ?k5 ?a6 ?l6 ?c6 ?k6 ?a7 ?l7 ?c7 ?k7 ?a8 ?l8 ?c8 ?k8 ?a9 ?l9 ?c9 ?k9 ?a10 ?l10 ?c10 ?k10 ?a11 ?l11 ?c11 ?k11 ?a12 ?l12 ?c12 ?k12 ?a13 ?l13 ?c13 ?k13 ?a14 ?l14 ?c14 ?k14 ?a15 ?l15 ?c15 ?k15 ?a16 ?l16 ?c16 ?k16 ?a17 ?l17 ?c17 ?k17 ?a18 ?l18 ?c18 ?k18 ?a19 ?l19 ?c19 ?k19 ?a20 ?l20 ?c20 ?k20 ?a21 ?l21 ?c21 ?k21 ?a22 ?l22 ?c22 ?k22 ?a23 ?l23 ?c23 ?k23 ?a24 ?l24 ?c24 ?k24 ?a25 ?l25 ?c25 ?k25 ?a26 ?l26 ?c26 ?k26 ?a27 ?l27 ?c27 ?k27 ?a28 ?l28 ?c28 ?k28 ?a29 ?l29 ?c29 ?k29 ?a30 ?l30 ?c30 ?k30 ?a31 ?l31 ?c31 ?k31 ?a32 ?l32 ?c32 ?k32 ?a33 ?l33 ?c33 ?k33 ?a34 ?l34 ?c34 ?k34 ?a35 ?l35 ?c35 ?k35 ?a36 ?l36 ?c36 ?k36 ?a37 ?l37 ?c37 ?k37 ?a38 ?l38 ?c38 ?k38 ?a39 ?l39 ?c39 ?k39 ?a40 ?l40 ?c40 ?k40 ?a41 ?l41 ?c41 ?k41 ?a42 ?l42 ?c42 ?k42 ?a43 ?l43 ?c43 ?k43 ?a44 ?l44 ?c44 ?k44 ?a45 ?l45 ?c45 ?k45 ?a46 ?l46 ?c46 ?k46 ?a47 ?l47 ?c47 ?k47 ?a48 ?l48 ?c48 ?k48 ?y1 ?y2 ?y3 ?y4 ?y5 ?aS ?lS ?xDg ?xDk ?xDb ?xDt ?xDd ?xDx ?xSg ?xSb ?xSt ?xSd ?xSs ?ig ?ik ?ia ?inn ?it ?im ?iv ?zV ?rC ?rpg ?rhd ?rpo ?rsa ?rmk ?rkc ?rn1 ?rn2 ?aRI ?iRI ?lRI ?cRI ?kRI ?aRL ?iRL ?lRL ?cRL ?kRL ?aRB ?iRB ?lRB ?cRB ?kRB ?aRC ?iRC ?lRC ?cRC ?kRC ?aRN ?iRN ?lRN ?cRN ?kRN ?aRG ?iRG ?lRG ?cRG ?kRG ?aRT ?iRT ?lRT ?cRT ?kRT ?aRS ?iRS ?lRS ?cRS ?kRS ?aRV ?iRV ?lRV ?cRV ?kRV ?aRW ?iRW ?lRW ?cRW ?kRW ?aRM ?iRM ?lRM ?cRM ?kRM ?aRO ?iRO ?lRO ?cRO ?kRO ?aRP ?iRP ?lRP ?cRP ?kRP ?aRQ ?iRQ ?lRQ ?cRQ ?kRQ ?aRU ?iRU ?lRU ?cRU ?kRU ?aRX ?iRX ?lRX ?cRX ?kRX ?aC ?aI ?iI ?lI ?cI ?kI ?lT ?lA ?pg ?hd ?po ?sa ?mk ?kc ?nR ?nF ?nS ?nL ?aMA ?iMA ?lMA ?cMA ?kMA ?z1 ?z2 ?z3 ?z4 ?z5 ?z6 ?z7 ?z8 ?z9 ?z10 ?z11 ?z12 ?z13 ?z14
    (case a1 => k_is); (case l1 => k_is); (case c1 => k_is); (case k1 => k_is); (case a2 => k_is); (case l2 => k_is); (case c2 => k_is); (case k2 => k_is); (case a3 => k_is); (case l3 => k_is); (case c3 => k_is); (case k3 => k_is); (case a4 => k_is); (case l4 => k_is); (case c4 => k_is); (case k4 => k_is); (case a5 => k_is); (case l5 => k_is); (case c5 => k_is); (case k5 => k_is); (case a6 => k_is); (case l6 => k_is); (case c6 => k_is); (case k6 => k_is); (case a7 => k_is); (case l7 => k_is); (case c7 => k_is); (case k7 => k_is); (case a8 => k_is); (case l8 => k_is); (case c8 => k_is); (case k8 => k_is); (case a9 => k_is); (case l9 => k_is); (case c9 => k_is); (case k9 => k_is); (case a10 => k_is); (case l10 => k_is); (case c10 => k_is); (case k10 => k_is); (case a11 => k_is); (case l11 => k_is); (case c11 => k_is); (case k11 => k_is); (case a12 => k_is); (case l12 => k_is); (case c12 => k_is); (case k12 => k_is); (case a13 => k_is); (case l13 => k_is); (case c13 => k_is); (case k13 => k_is); (case a14 => k_is); (case l14 => k_is); (case c14 => k_is); (case k14 => k_is); (case a15 => k_is); (case l15 => k_is); (case c15 => k_is); (case k15 => k_is); (case a16 => k_is); (case l16 => k_is); (case c16 => k_is); (case k16 => k_is); (case a17 => k_is); (case l17 => k_is); (case c17 => k_is); (case k17 => k_is); (case a18 => k_is); (case l18 => k_is); (case c18 => k_is); (case k18 => k_is); (case a19 => k_is); (case l19 => k_is); (case c19 => k_is); (case k19 => k_is); (case a20 => k_is); (case l20 => k_is); (case c20 => k_is); (case k20 => k_is); (case a21 => k_is); (case l21 => k_is); (case c21 => k_is); (case k21 => k_is); (case a22 => k_is); (case l22 => k_is); (case c22 => k_is); (case k22 => k_is); (case a23 => k_is); (case l23 => k_is); (case c23 => k_is); (case k23 => k_is); (case a24 => k_is); (case l24 => k_is); (case c24 => k_is); (case k24 => k_is); (case a25 => k_is); (case l25 => k_is); (case c25 => k_is); (case k25 => k_is); (case a26 => k_is); (case l26 => k_is); (case c26 => k_is); (case k26 => k_is); (case a27 => k_is); (case l27 => k_is); (case c27 => k_is); (case k27 => k_is); (case a28 => k_is); (case l28 => k_is); (case c28 => k_is); (case k28 => k_is); (case a29 => k_is); (case l29 => k_is); (case c29 => k_is); (case k29 => k_is); (case a30 => k_is); (case l30 => k_is); (case c30 => k_is); (case k30 => k_is); (case a31 => k_is); (case l31 => k_is); (case c31 => k_is); (case k31 => k_is); (case a32 => k_is); (case l32 => k_is); (case c32 => k_is); (case k32 => k_is); (case a33 => k_is); (case l33 => k_is); (case c33 => k_is); (case k33 => k_is); (case a34 => k_is); (case l34 => k_is); (case c34 => k_is); (case k34 => k_is); (case a35 => k_is); (case l35 => k_is); (case c35 => k_is); (case k35 => k_is); (case a36 => k_is); (case l36 => k_is); (case c36 => k_is); (case k36 => k_is); (case a37 => k_is); (case l37 => k_is); (case c37 => k_is); (case k37 => k_is); (case a38 => k_is); (case l38 => k_is); (case c38 => k_is); (case k38 => k_is); (case a39 => k_is); (case l39 => k_is); (case c39 => k_is); (case k39 => k_is); (case a40 => k_is); (case l40 => k_is); (case c40 => k_is); (case k40 => k_is); (case a41 => k_is); (case l41 => k_is); (case c41 => k_is); (case k41 => k_is); (case a42 => k_is); (case l42 => k_is); (case c42 => k_is); (case k42 => k_is); (case a43 => k_is); (case l43 => k_is); (case c43 => k_is); (case k43 => k_is); (case a44 => k_is); (case l44 => k_is); (case c44 => k_is); (case k44 => k_is); (case a45 => k_is); (case l45 => k_is); (case c45 => k_is); (case k45 => k_is); (case a46 => k_is); (case l46 => k_is); (case c46 => k_is); (case k46 => k_is); (case a47 => k_is); (case l47 => k_is); (case c47 => k_is); (case k47 => k_is); (case a48 => k_is); (case l48 => k_is); (case c48 => k_is); (case k48 => k_is); (case y1 => k_is); (case y2 => k_is); (case y3 => k_is); (case y4 => k_is); (case y5 => k_is); (case aS => k_is); (case lS => k_is); (case xDg => k_is); (case xDk => k_is); (case xDb => k_is); (case xDt => k_is); (case xDd => k_is); (case xDx => k_exc); (case xSg => k_is); (case xSb => k_is); (case xSt => k_is); (case xSd => k_is); (case xSs => k_is); (case ig => k_is); (case ik => k_is); (case ia => k_is); (case inn => k_is); (case it => k_is); (case im => k_is); (case iv => k_is); (case zV => k_is); (case rC => k_is); (case rpg => k_is); (case rhd => k_is); (case rpo => k_is); (case rsa => k_is); (case rmk => k_is); (case rkc => k_is); (case rn1 => k_is); (case rn2 => k_is); (case aRI => k_is); (case iRI => k_is); (case lRI => k_is); (case cRI => k_is); (case kRI => k_is); (case aRL => k_is); (case iRL => k_is); (case lRL => k_is); (case cRL => k_is); (case kRL => k_is); (case aRB => k_is); (case iRB => k_is); (case lRB => k_is); (case cRB => k_is); (case kRB => k_is); (case aRC => k_is); (case iRC => k_is); (case lRC => k_is); (case cRC => k_is); (case kRC => k_is); (case aRN => k_is); (case iRN => k_is); (case lRN => k_is); (case cRN => k_is); (case kRN => k_is); (case aRG => k_is); (case iRG => k_is); (case lRG => k_is); (case cRG => k_is); (case kRG => k_is); (case aRT => k_is); (case iRT => k_is); (case lRT => k_is); (case cRT => k_is); (case kRT => k_is); (case aRS => k_is); (case iRS => k_is); (case lRS => k_is); (case cRS => k_is); (case kRS => k_is); (case aRV => k_is); (case iRV => k_is); (case lRV => k_is); (case cRV => k_is); (case kRV => k_is); (case aRW => k_is); (case iRW => k_is); (case lRW => k_is); (case cRW => k_is); (case kRW => k_is); (case aRM => k_is); (case iRM => k_is); (case lRM => k_is); (case cRM => k_is); (case kRM => k_is); (case aRO => k_is); (case iRO => k_is); (case lRO => k_is); (case cRO => k_is); (case kRO => k_is); (case aRP => k_is); (case iRP => k_is); (case lRP => k_is); (case cRP => k_is); (case kRP => k_is); (case aRQ => k_is); (case iRQ => k_is); (case lRQ => k_is); (case cRQ => k_is); (case kRQ => k_is); (case aRU => k_is); (case iRU => k_is); (case lRU => k_is); (case cRU => k_is); (case kRU => k_is); (case aRX => k_is); (case iRX => k_is); (case lRX => k_is); (case cRX => k_is); (case kRX => k_is); (case aC => k_is); (case aI => k_is); (case iI => k_is); (case lI => k_is); (case cI => k_is); (case kI => k_is); (case lT => k_is); (case lA => k_is); (case pg => k_is); (case hd => k_is); (case po => k_is); (case sa => k_is); (case mk => k_is); (case kc => k_is); (case nR => k_is); (case nF => k_is); (case nS => k_is); (case nL => k_is); (case aMA => k_is); (case iMA => k_is); (case lMA => k_is); (case cMA => k_is); (case kMA => k_is); (case z1 => k_is); (case z2 => k_is); (case z3 => k_is); (case z4 => k_is); (case z5 => k_is); (case z6 => k_is); (case z7 => k_is); (case z8 => k_is); (case z9 => k_is); (case z10 => k_is); (case z11 => k_is); (case z12 => k_is); (case z13 => k_is); (case z14 => k_is)
