import PyProof.Rows.All
import Wide.All
import OpenK.AllK
import Wide.FinOn
import PyProof.EqAt
import PyProof.EqKinds
import PyProof.TupleCall
import HandS.ForMost
import HandS.IsInst
import HandS.TupAny
import HandS.Strs
import HandS.Replace
import HandS.SetKeys
import HandS.Style
import HandS.Deep
import HandS.TupLen
import HandS.More
import HandS.Walk
import HandS.Defaults
import HandS.Star
import HandS.DictComp
import HandS.TryOnly
import PySem.Challenge.RW_turnshelves_k09_whole_rows_lie_in_their
set_option Elab.async false
set_option linter.all false
set_option maxRecDepth 100000
set_option maxHeartbeats 4000000
namespace Ow
open PySem PySem.Spec PyProof.Rows L2

/-- the def that the module's name x holds keeps sp, by k levels -/
structure Kn (P : Program) (w : World) (K : PySem.W.Frag) (mg : Str → Option Value) (base : Heap)
    (k : Nat) (x : Str) (ps : List Str) (sp : Sp) : Prop where
  ex : ∃ f fd, FnOk P w K mg base CX0 k f fd ps sp ∧ mg x = some (.ref f) ∧
    PySem.W.keepIn K (.ref f) = true ∧ Binds K fd ps []

theorem pe_kn {X : Cx} {k j : Nat} {x : Str} {ps : List Str} {sp : Sp} {p pos : Pos} {e : Expr}
    {es : List Expr} {t : TA} (c : Kn X.prog X.w X.K X.mg X.base k x ps sp) (hr : Room j X.A)
    (ha : PA X (e :: es) t) (hk : k ≤ j := by decide) (hg : Gl X x := by rfl)
    (hdb : (x == ("__debug__" : Str)) = false := by decide)
    (he : starEach (e :: es) X.env = (false, eval e X.env) :: starEach es X.env := by rfl)
    (hpl : (backTo pos (starEach es X.env)).any (·.1) = false := by rfl) :
    PE X (.Call (.Name x p) (e :: es) [] pos) (tCall sp [] E0 t) := by
  obtain ⟨f, fd, F, gm, kp, b⟩ := c.ex
  exact pe_call F (hr.mono hk) hg gm kp b .nil pass0 ha hdb he hpl

theorem hu64 {k : Nat} {A : Around} (hr : Room k A) : A.units + 64 < cLine := hr.units

/-- the heap but for what stands at p -/
def Gw (p : Addr) (H H' : Hp) : Prop := ∀ b o, b ≠ p → H b = some o → H' b = some o
theorem Gw.refl (p : Addr) (H : Hp) : Gw p H H := fun _ _ _ e => e
theorem Gw.trans {p : Addr} {H H1 H2 : Hp} (a : Gw p H H1) (b : Gw p H1 H2) : Gw p H H2 :=
  fun c o n e => b c o n (a c o n e)
theorem Gw.new {p q : Addr} {H : Hp} {o : HO} (n : H q = none) : Gw p H (upd H q o) :=
  fun b u _ e => by rw [upd_ne (ne_of_none e n)]; exact e
theorem Gw.put {p : Addr} {H : Hp} {o : HO} : Gw p H (upd H p o) :=
  fun b u nb e => by rw [upd_ne nb]; exact e
theorem Gw.same {p : Addr} {H H' : Hp} (s : Same H H') : Gw p H H' := fun b o _ e => s b o e
theorem Same.new {q : Addr} {H : Hp} {o : HO} (n : H q = none) : Same H (upd H q o) :=
  fun b u e => by rw [upd_ne (ne_of_none e n)]; exact e

/-- what a drawer keeps at p: its numbers (at d) and its place -/
def Rng (d : Addr) (H : Hp) (p : Addr) : Prop := ∃ (ds : List Int) (k : Int),
  H p = some (.lst [.ref d, .int k]) ∧ 0 ≤ k ∧ H d = some (.lst (ds.map V.int))
theorem Rng.ne {H : Hp} {p d : Addr} {k : Int} {ds : List Int} (h : H p = some (.lst [.ref d, .int k]))
    (g : H d = some (.lst (ds.map V.int))) : d ≠ p := by
  intro e
  subst e
  rw [h] at g
  injection g with g
  injection g with g
  cases ds with
  | nil => cases g
  | cons a r =>
    rw [List.map_cons] at g
    injection g with g1 _
    cases g1
theorem Rng.same {H H' : Hp} {p d : Addr} (r : Rng d H p) (s : Same H H') : Rng d H' p := by
  obtain ⟨ds, k, h, z, g⟩ := r
  exact ⟨ds, k, s _ _ h, z, s _ _ g⟩
theorem Rng.free {H : Hp} {p d q : Addr} (r : Rng d H p) (n : H q = none) : q ≠ p ∧ q ≠ d := by
  obtain ⟨ds, k, h, _, g⟩ := r
  exact ⟨(ne_of_none h n).symm, (ne_of_none g n).symm⟩
theorem Rng.upd {H : Hp} {p d q : Addr} {o : HO} (r : Rng d H p) (n : q ≠ p ∧ q ≠ d) : Rng d (L2.upd H q o) p := by
  obtain ⟨ds, k, h, z, g⟩ := r
  exact ⟨ds, k, by rw [upd_ne n.1.symm]; exact h, z, by rw [upd_ne n.2.symm]; exact g⟩

/-- a call that draws from p: whatever x it hands back, of which R tells -/
def Drw (p d : Addr) (H : Hp) (Q : VK) (R : V → Hp → Prop) : Prop :=
  ∀ x H', R x H' → Gw p H H' → Rng d H' p → Q x H'
theorem Gw.over {p o : Addr} {H H' : Hp} {u : HO} (g : Gw p H H') (n : H o = none) : Gw p H (upd H' o u) :=
  fun b x nb e => by rw [upd_ne (ne_of_none e n)]; exact g b x nb e
theorem Same.over {o : Addr} {H H' : Hp} {u : HO} (g : Same H H') (n : H o = none) : Same H (upd H' o u) :=
  fun b x e => by rw [upd_ne (ne_of_none e n)]; exact g b x e
theorem Gw.keep {p q : Addr} {H H' : Hp} {o : HO} (g : Gw p H H') (h : H q = some o) (n : q ≠ p) : H' q = some o := g q o n h
/-- what is free behind was free before -/
theorem Gw.free {p q : Addr} {H H' : Hp} (g : Gw p H H') (n : H' q = none) (ne : q ≠ p) : H q = none := by
  cases z : H q with
  | none => rfl
  | some o =>
    rw [g q o ne z] at n
    cases n
theorem small {n m : Nat} (h : n ≤ m) (hm : m ≤ 10000) : n < sizeLine :=
  Nat.lt_of_le_of_lt (Nat.le_trans h hm) (by decide)
end Ow
namespace Ow
open PySem PySem.Spec PyProof.Rows L2
theorem pget_list {X : Cx} : PGet X (rIxL X.K) := by
  intro pins s σ H o i ov iv Q I ro ri h
  obtain ⟨p, xs, n, v, rfl, rfl, hs, ha, q⟩ := h
  cases ro
  obtain ⟨t, rfl⟩ := ri
  obtain ⟨its, r, pl, hz⟩ := I.list hs
  obtain ⟨j, h1, h2, h3, h4, h5⟩ := atI_get ha
  obtain ⟨u, eu, ru⟩ := r.get h2
  have ln := line63
  have hl := r.length
  by_cases h0 : 0 ≤ n
  · have ej : n.toNat = j := by
      rw [seqIndex_of h0 h5] at h1
      exact Option.some.inj h1
    exact wpAny_getItem_list pl.isList h0 (by omega) (by rw [ej]; simpa using eu) ⟨v, H, I, ru, q⟩
  · have ej : (n + (its.toArray.size : Int)).toNat = j := by
      rw [seqIndex_neg (by omega) h4] at h1
      rw [List.size_toArray, ← hl]
      exact Option.some.inj h1
    exact wpAny_getItem_list_neg pl.isList (by omega) (by rw [List.size_toArray]; omega) (by omega)
      (by rw [ej]; simpa using eu) ⟨v, H, I, ru, q⟩
theorem at_in {α : Type} {xs : List α} {v : Int} (h0 : 0 ≤ v) (h1 : v < xs.length) : ∃ y, atI xs v = some y ∧ y ∈ xs := by
  have h : v.toNat < xs.length := by omega
  have e : v = ((v.toNat : Nat) : Int) := by omega
  refine ⟨xs[v.toNat], ?_, List.getElem_mem h⟩
  have z := atI_nat (xs := xs) (j := v.toNat) (List.getElem?_eq_getElem h)
  rw [← e] at z
  exact z
end Ow
namespace Ow
open PySem PySem.Spec PyProof.Rows L2
/-- a built-in class by its name -/
theorem pe_ty {X : Cx} (n : String) {x : Str} {pos : Pos} (hg : Gl X x) (hm : X.mg x = none) (hv : bootBuiltins x = some (.type n))
    (hn : x ≠ "__name__" := by decide) (hd : (x == ("__debug__" : Str)) = false := by decide) : PE X (.Name x pos) (tC (.ty n)) :=
  pe_bltn hg hm hv rfl hn hd
theorem sz (n : Nat) (h : n ≤ 1000 := by decide) : n ≤ sizeLine := Nat.le_trans h (by decide)
/-- a statement and the rest, with a word between -/
theorem pss_mid {X : Cx} {st : Stmt} {rest : List Stmt} {t u : TS} (a : PS X st t) (b : PSs X rest u) :
    PSs X (st :: rest) fun D σ H => ∃ Mid : L2.St → Hp → Prop, t { D with nx := Mid } σ H ∧ ∀ σ' H', Mid σ' H' → u D σ' H' := by
  refine ⟨fun pins s σ H D I ⟨Mid, hm, hu⟩ => ?_⟩
  refine wpAny_execs_cons (thn (a.run pins s σ H { D with nx := Mid } I hm) fun f s1 q => ?_)
  cases f with
  | next =>
    obtain ⟨σ', H', I', q⟩ := q
    exact b.run pins s1 σ' H' D I' (hu σ' H' q)
  | ret v => exact q
  | brk => exact q
  | cont => exact q
end Ow
namespace Tlz
open PySem PySem.SeqAt PySem.MeetsSeq PySem.MeetsSeq2 PySem.MeetsSeq3
open PySem.AutoSeq1 (wpAny_loadPart')

/-- x op y gives the answer k and leaves the state -/
def Rc (op : CmpOp) (A : Around) (s : Shared) (x y : Value) (k : Bool) : Prop :=
  ∀ (P : Program) (w : World) (E Q : Value → Shared → Prop), Q (.bool k) s →
    wpAny (model P w) A (richCompare op x y) Q E s

/-- the first of the next k places, from i on, that differs tells; fin if none does -/
def scan (eq ans : Nat → Bool) (fin : Bool) (i : Nat) : Nat → Bool
  | 0 => fin
  | k + 1 => cond (eq i) (scan eq ans fin (i + 1) k) (ans i)

theorem scan_eq {eq ans : Nat → Bool} {fin : Bool} {i k : Nat} (h : eq i = true) :
    scan eq ans fin i (k + 1) = scan eq ans fin (i + 1) k := by
  show cond (eq i) _ _ = _
  rw [h]; rfl
theorem scan_ne {eq ans : Nat → Bool} {fin : Bool} {i k : Nat} (h : eq i = false) :
    scan eq ans fin i (k + 1) = ans i := by
  show cond (eq i) _ _ = _
  rw [h]; rfl

theorem ltBody (a b : Addr) (us vs : Array Value) (n m : Nat) (da db : Option Addr)
    (sa sb : Array (Option Value)) (eq ans : Nat → Bool) :
    Meets (Builtin.«tuple.__lt__» ⟨[.ref a, .ref b], []⟩) (fun A R s =>
      s.heap.get? a = some ⟨.type "tuple", da, .seq us n, sa⟩ ∧
      s.heap.get? b = some ⟨.type "tuple", db, .seq vs m, sb⟩ ∧
      (∀ j (p : j < us.size) (q : j < vs.size), EqAt A.in1 s us[j] vs[j] (eq j)) ∧
      (∀ j (p : j < us.size) (q : j < vs.size), (∀ i, i < j → eq i = true) → eq j = false →
        Rc .Lt A.in1 s us[j] vs[j] (ans j)) ∧
      R (.ok (.ret (.bool (scan eq ans (decide (us.size < vs.size)) 0 (min us.size vs.size))))) s) :=
  .of_wp fun P w A R s ⟨ha, hb, he, hr, h⟩ => by
    obtain ⟨hp, g, d, tk, os⟩ := s
    have sub := AutoSeq1.sub_tuple_tuple
    have len : (us.toList.zip vs.toList).length = min us.size vs.size := by simp
    wp_walk using wpAny_loadPart' ha, wpAny_loadPart' hb, wpAny_forIn_list _ (fun rest c s' => c.1 = none ∧
      s' = ⟨hp, g, d, tk, os⟩ ∧ ∃ i, rest = (us.toList.zip vs.toList).drop i ∧ (∀ z, z < i → eq z = true) ∧
      R (.ok (.ret (.bool (scan eq ans (decide (us.size < vs.size)) i (min us.size vs.size - i))))) s') _
    case turn =>
      rintro ⟨y, x⟩ rest c s' ⟨hc, rfl, i, hz, pre, hR⟩
      have hi : i < min us.size vs.size := by
        rw [← len]
        apply Nat.lt_of_not_le
        intro z
        rw [List.drop_of_length_le z] at hz
        cases hz
      have p : i < us.size := by omega
      have q : i < vs.size := by omega
      rw [List.drop_eq_getElem_cons (by rw [len]; exact hi)] at hz
      injection hz with e1 e2
      have ey : y = us[i] := by simpa using congrArg Prod.fst e1
      have ex : x = vs[i] := by simpa using congrArg Prod.snd e1
      subst ey ex
      have cut : min us.size vs.size - i = min us.size vs.size - (i + 1) + 1 := by omega
      rw [cut] at hR
      refine wpAny_bind (he i p q P w _ _ ?_)
      by_cases k : eq i = true
      · rw [scan_eq k] at hR
        rw [k]
        wp_walk
        refine ⟨rfl, rfl, i + 1, e2, fun z hz => ?_, hR⟩
        by_cases t : z = i
        · rw [t]; exact k
        · exact pre z (by omega)
      · have k' : eq i = false := by simpa using k
        rw [scan_ne k'] at hR
        have r := hr i p q pre k' P w
        rw [k']
        wp_walk using r
        exact ⟨_, rfl, by simpa using hR⟩
    case fin =>
      rintro ⟨c1, c2⟩ s' ⟨hc, rfl, i, hz, pre, hR⟩
      have hc' : c1 = none := hc
      subst hc'
      have hi : min us.size vs.size ≤ i := by
        apply Nat.le_of_not_lt
        intro z
        rw [List.drop_eq_getElem_cons (by rw [len]; exact z)] at hz
        cases hz
      rw [Nat.sub_eq_zero_of_le hi] at hR
      wp_walk
      exact ⟨_, rfl, by simpa [Builtin.Tuple.tupleCompareSizes, scan] using hR⟩
    case h => exact ⟨rfl, rfl, 0, rfl, fun _ z => absurd z (Nat.not_lt_zero _), by simpa using h⟩

theorem gtBody (a b : Addr) (us vs : Array Value) (n m : Nat) (da db : Option Addr)
    (sa sb : Array (Option Value)) (eq ans : Nat → Bool) :
    Meets (Builtin.«tuple.__gt__» ⟨[.ref a, .ref b], []⟩) (fun A R s =>
      s.heap.get? a = some ⟨.type "tuple", da, .seq us n, sa⟩ ∧
      s.heap.get? b = some ⟨.type "tuple", db, .seq vs m, sb⟩ ∧
      (∀ j (p : j < us.size) (q : j < vs.size), EqAt A.in1 s us[j] vs[j] (eq j)) ∧
      (∀ j (p : j < us.size) (q : j < vs.size), (∀ i, i < j → eq i = true) → eq j = false →
        Rc .Gt A.in1 s us[j] vs[j] (ans j)) ∧
      R (.ok (.ret (.bool (scan eq ans (decide (us.size > vs.size)) 0 (min us.size vs.size))))) s) :=
  .of_wp fun P w A R s ⟨ha, hb, he, hr, h⟩ => by
    obtain ⟨hp, g, d, tk, os⟩ := s
    have sub := AutoSeq1.sub_tuple_tuple
    have len : (us.toList.zip vs.toList).length = min us.size vs.size := by simp
    wp_walk using wpAny_loadPart' ha, wpAny_loadPart' hb, wpAny_forIn_list _ (fun rest c s' => c.1 = none ∧
      s' = ⟨hp, g, d, tk, os⟩ ∧ ∃ i, rest = (us.toList.zip vs.toList).drop i ∧ (∀ z, z < i → eq z = true) ∧
      R (.ok (.ret (.bool (scan eq ans (decide (us.size > vs.size)) i (min us.size vs.size - i))))) s') _
    case turn =>
      rintro ⟨y, x⟩ rest c s' ⟨hc, rfl, i, hz, pre, hR⟩
      have hi : i < min us.size vs.size := by
        rw [← len]
        apply Nat.lt_of_not_le
        intro z
        rw [List.drop_of_length_le z] at hz
        cases hz
      have p : i < us.size := by omega
      have q : i < vs.size := by omega
      rw [List.drop_eq_getElem_cons (by rw [len]; exact hi)] at hz
      injection hz with e1 e2
      have ey : y = us[i] := by simpa using congrArg Prod.fst e1
      have ex : x = vs[i] := by simpa using congrArg Prod.snd e1
      subst ey ex
      have cut : min us.size vs.size - i = min us.size vs.size - (i + 1) + 1 := by omega
      rw [cut] at hR
      refine wpAny_bind (he i p q P w _ _ ?_)
      by_cases k : eq i = true
      · rw [scan_eq k] at hR
        rw [k]
        wp_walk
        refine ⟨rfl, rfl, i + 1, e2, fun z hz => ?_, hR⟩
        by_cases t : z = i
        · rw [t]; exact k
        · exact pre z (by omega)
      · have k' : eq i = false := by simpa using k
        rw [scan_ne k'] at hR
        have r := hr i p q pre k' P w
        rw [k']
        wp_walk using r
        exact ⟨_, rfl, by simpa using hR⟩
    case fin =>
      rintro ⟨c1, c2⟩ s' ⟨hc, rfl, i, hz, pre, hR⟩
      have hc' : c1 = none := hc
      subst hc'
      have hi : min us.size vs.size ≤ i := by
        apply Nat.le_of_not_lt
        intro z
        rw [List.drop_eq_getElem_cons (by rw [len]; exact z)] at hz
        cases hz
      rw [Nat.sub_eq_zero_of_le hi] at hR
      wp_walk
      exact ⟨_, rfl, by simpa [Builtin.Tuple.tupleCompareSizes, scan] using hR⟩
    case h => exact ⟨rfl, rfl, 0, rfl, fun _ z => absurd z (Nat.not_lt_zero _), by simpa using h⟩

theorem Rc.tupLt {A : Around} {s : Shared} {a b : Addr} {us vs : Array Value} {eq ans : Nat → Bool}
    (ta : s.heap.IsTuple a us) (tb : s.heap.IsTuple b vs) (hu : A.units < cLine)
    (he : ∀ j (p : j < us.size) (q : j < vs.size), EqAt A.in1 s us[j] vs[j] (eq j))
    (hr : ∀ j (p : j < us.size) (q : j < vs.size), (∀ i, i < j → eq i = true) → eq j = false →
      Rc .Lt A.in1 s us[j] vs[j] (ans j)) :
    Rc .Lt A s (.ref a) (.ref b) (scan eq ans (decide (us.size < vs.size)) 0 (min us.size vs.size)) := by
  intro P w E Q h
  obtain ⟨⟨c1, da, t1, sa⟩, ga, ca, n, ea⟩ := id ta
  obtain ⟨⟨c2, db, t2, sb⟩, gb, cb, m, eb⟩ := id tb
  have ca1 : c1 = Value.type "tuple" := ca
  have cb1 : c2 = Value.type "tuple" := cb
  have ea1 : t1 = .seq us n := ea
  have eb1 : t2 = .seq vs m := eb
  subst ca1 cb1 ea1 eb1
  exact richCompare_meets_room (op := .Lt) ⟨_, ga, rfl⟩ ⟨_, gb, rfl⟩ F.slot_tuple_lt F.entry_tuple_lt
    (F.args_tuple_lt_2 _ _) (ltBody a b us vs n m da db sa sb eq ans)
    ⟨ga, gb, he, hr, fun z => (nomatch z), h⟩ hu

theorem Rc.tupGt {A : Around} {s : Shared} {a b : Addr} {us vs : Array Value} {eq ans : Nat → Bool}
    (ta : s.heap.IsTuple a us) (tb : s.heap.IsTuple b vs) (hu : A.units < cLine)
    (he : ∀ j (p : j < us.size) (q : j < vs.size), EqAt A.in1 s us[j] vs[j] (eq j))
    (hr : ∀ j (p : j < us.size) (q : j < vs.size), (∀ i, i < j → eq i = true) → eq j = false →
      Rc .Gt A.in1 s us[j] vs[j] (ans j)) :
    Rc .Gt A s (.ref a) (.ref b) (scan eq ans (decide (us.size > vs.size)) 0 (min us.size vs.size)) := by
  intro P w E Q h
  obtain ⟨⟨c1, da, t1, sa⟩, ga, ca, n, ea⟩ := id ta
  obtain ⟨⟨c2, db, t2, sb⟩, gb, cb, m, eb⟩ := id tb
  have ca1 : c1 = Value.type "tuple" := ca
  have cb1 : c2 = Value.type "tuple" := cb
  have ea1 : t1 = .seq us n := ea
  have eb1 : t2 = .seq vs m := eb
  subst ca1 cb1 ea1 eb1
  exact richCompare_meets_room (op := .Gt) ⟨_, ga, rfl⟩ ⟨_, gb, rfl⟩ F.slot_tuple_gt F.entry_tuple_gt
    (F.args_tuple_gt_2 _ _) (gtBody a b us vs n m da db sa sb eq ans)
    ⟨ga, gb, he, hr, fun z => (nomatch z), h⟩ hu
end Tlz
namespace Tlz
open PySem PySem.SeqAt PyProof.Rows
def ltL (f : PyData → PyData → Bool) : List PyData → List PyData → Bool
  | [], [] => false
  | [], _ :: _ => true
  | _ :: _, [] => false
  | x :: xs, y :: ys => if PyData.eqv x y = true then ltL f xs ys else f x y
def gtL (f : PyData → PyData → Bool) : List PyData → List PyData → Bool
  | [], [] => false
  | [], _ :: _ => false
  | _ :: _, [] => true
  | x :: xs, y :: ys => if PyData.eqv x y = true then gtL f xs ys else f x y
/-- comparable as far as it is asked -/
def okL (f : PyData → PyData → Bool) : List PyData → List PyData → Bool
  | x :: xs, y :: ys => if PyData.eqv x y = true then okL f xs ys else f x y
  | [], _ => true
  | _ :: _, [] => true
def ltD : Nat → PyData → PyData → Bool
  | _, .int i, .int j => decide (i < j)
  | _, .str x, .str y => decide (x.cps.toList < y.cps.toList)
  | n + 1, .tuple xs, .tuple ys => ltL (ltD n) xs ys
  | _, _, _ => false
def gtD : Nat → PyData → PyData → Bool
  | _, .int i, .int j => decide (j < i)
  | _, .str x, .str y => decide (y.cps.toList < x.cps.toList)
  | n + 1, .tuple xs, .tuple ys => gtL (gtD n) xs ys
  | _, _, _ => false
def okD : Nat → PyData → PyData → Bool
  | _, .int _, .int _ => true
  | _, .str _, .str _ => true
  | n + 1, .tuple xs, .tuple ys => okL (okD n) xs ys
  | _, _, _ => false
abbrev at_ (xs : List PyData) (j : Nat) : PyData := xs.getD j .none
theorem scan_shift (eq ans : Nat → Bool) (fin : Bool) : ∀ k i : Nat,
    scan eq ans fin (i + 1) k = scan (fun j => eq (j + 1)) (fun j => ans (j + 1)) fin i k
  | 0, _ => rfl
  | k + 1, i => by
    show cond (eq (i + 1)) (scan eq ans fin (i + 1 + 1) k) (ans (i + 1)) = cond (eq (i + 1)) (scan _ _ fin (i + 1) k) (ans (i + 1))
    rw [scan_shift eq ans fin k (i + 1)]
theorem scan_lt (f : PyData → PyData → Bool) : ∀ xs ys : List PyData,
    scan (fun j => PyData.eqv (at_ xs j) (at_ ys j)) (fun j => f (at_ xs j) (at_ ys j)) (decide (xs.length < ys.length)) 0 (min xs.length ys.length) = ltL f xs ys
  | [], [] => rfl
  | [], _ :: ys => by simp [scan, ltL]
  | _ :: xs, [] => by simp [scan, ltL]
  | x :: xs, y :: ys => by
    have e : min (x :: xs).length (y :: ys).length = min xs.length ys.length + 1 := by
      rw [List.length_cons, List.length_cons]; omega
    have d : decide ((x :: xs).length < (y :: ys).length) = decide (xs.length < ys.length) := by
      rw [List.length_cons, List.length_cons]
      exact decide_eq_decide.mpr (by omega)
    rw [e, d]
    show cond (PyData.eqv x y) (scan _ _ _ (0 + 1) (min xs.length ys.length)) (f x y) = _
    rw [scan_shift]
    have ih := scan_lt f xs ys
    unfold ltL
    cases h : PyData.eqv x y with
    | true => exact ih
    | false => rfl
theorem scan_gt (f : PyData → PyData → Bool) : ∀ xs ys : List PyData,
    scan (fun j => PyData.eqv (at_ xs j) (at_ ys j)) (fun j => f (at_ xs j) (at_ ys j)) (decide (xs.length > ys.length)) 0 (min xs.length ys.length) = gtL f xs ys
  | [], [] => rfl
  | [], _ :: ys => by simp [scan, gtL]
  | _ :: xs, [] => by simp [scan, gtL]
  | x :: xs, y :: ys => by
    have e : min (x :: xs).length (y :: ys).length = min xs.length ys.length + 1 := by
      rw [List.length_cons, List.length_cons]; omega
    have d : decide ((x :: xs).length > (y :: ys).length) = decide (xs.length > ys.length) := by
      rw [List.length_cons, List.length_cons]
      exact decide_eq_decide.mpr (by omega)
    rw [e, d]
    show cond (PyData.eqv x y) (scan _ _ _ (0 + 1) (min xs.length ys.length)) (f x y) = _
    rw [scan_shift]
    have ih := scan_gt f xs ys
    unfold gtL
    cases h : PyData.eqv x y with
    | true => exact ih
    | false => rfl
theorem okL_at (f : PyData → PyData → Bool) : ∀ (xs ys : List PyData), okL f xs ys = true → ∀ j, j < xs.length → j < ys.length →
    (∀ i, i < j → PyData.eqv (at_ xs i) (at_ ys i) = true) → PyData.eqv (at_ xs j) (at_ ys j) = false → f (at_ xs j) (at_ ys j) = true
  | [], _, _, j, h, _, _, _ => absurd h (Nat.not_lt_zero _)
  | _ :: _, [], _, j, _, h, _, _ => absurd h (Nat.not_lt_zero _)
  | x :: xs, y :: ys, h, j, h1, h2, pre, ne => by
    unfold okL at h
    cases j with
    | zero =>
      have n : PyData.eqv x y = false := ne
      rw [n] at h
      exact h
    | succ j =>
      have p : PyData.eqv x y = true := pre 0 (Nat.succ_pos _)
      rw [p] at h
      exact okL_at f xs ys h j (by simpa using h1) (by simpa using h2) (fun i hi => pre (i + 1) (by omega)) ne
theorem reads_at {h : Heap} : ∀ {vs : List Value} {ds : List PyData} {as : List Addr}, ReadsAll h vs ds as → ∀ j (p : j < vs.length), ∃ bs, Reads h vs[j] (at_ ds j) bs
  | _, _, _, .nil, j, p => absurd p (Nat.not_lt_zero _)
  | _, _, _, .cons r _, 0, _ => ⟨_, r⟩
  | _, _, _, .cons _ t, j + 1, p => reads_at t j (by simpa using p)
theorem lay_at : ∀ (ds : List PyData), PyData.canLayAll0 ds = true → ∀ j, j < ds.length → (at_ ds j).canLay0 = true
  | [], _, j, p => absurd p (Nat.not_lt_zero _)
  | d :: ds, h, j, p => by
    unfold PyData.canLayAll0 at h
    rw [Bool.and_eq_true] at h
    cases j with
    | zero => exact h.1
    | succ j => exact lay_at ds h.2 j (by simpa using p)
theorem deep_at : ∀ (ds : List PyData) (n : Nat), PyData.depthAll ds ≤ n → ∀ j, (at_ ds j).depth ≤ n
  | [], n, _, j => by
    show (PyData.none).depth ≤ n
    exact Nat.zero_le _
  | d :: ds, n, h, j => by
    unfold PyData.depthAll at h
    cases j with
    | zero => exact Nat.le_trans (Nat.le_max_left _ _) h
    | succ j => exact deep_at ds n (Nat.le_trans (Nat.le_max_right _ _) h) j
theorem rcLt : ∀ (n : Nat) (d e : PyData) (A : Around) (s : Shared) (v u : Value) (as bs : List Addr), Reads s.heap v d as → Reads s.heap u e bs →
    d.canLay0 = true → e.canLay0 = true → d.depth ≤ n → okD n d e = true → A.units + n < cLine → Rc .Lt A s v u (ltD n d e) := by
  intro n
  induction n with
  | zero =>
    intro d e A s v u as bs rv ru cd ce dd ok hu
    cases rv with
    | int i t =>
      cases ru with
      | int j t' => exact fun _ _ _ _ h => PyProof.Rows.lt_int h
      | _ => exact absurd ok (by simp [okD])
    | str x t =>
      cases ru with
      | str y t' => exact fun _ _ _ _ h => PyProof.Rows.lt_str h
      | _ => exact absurd ok (by simp [okD])
    | _ => exact absurd ok (by simp [okD])
  | succ n ih =>
    intro d e A s v u as bs rv ru cd ce dd ok hu
    cases rv with
    | int i t =>
      cases ru with
      | int j t' => exact fun _ _ _ _ h => PyProof.Rows.lt_int h
      | _ => exact absurd ok (by simp [okD])
    | str x t =>
      cases ru with
      | str y t' => exact fun _ _ _ _ h => PyProof.Rows.lt_str h
      | _ => exact absurd ok (by simp [okD])
    | @tuple a o vs k xs as h1 h2 h3 h4 =>
      cases ru with
      | @tuple b o' ws k' ys bs g1 g2 g3 g4 =>
        have lx : vs.size = xs.length := by simpa using ReadsAll.lenAny h4
        have ly : ws.size = ys.length := by simpa using ReadsAll.lenAny g4
        have dx : PyData.depthAll xs ≤ n := by
          have z : PyData.depthAll xs + 1 ≤ n + 1 := dd
          omega
        have ok' : okL (okD n) xs ys = true := ok
        have R := Rc.tupLt (A := A) (eq := fun j => PyData.eqv (at_ xs j) (at_ ys j)) (ans := fun j => ltD n (at_ xs j) (at_ ys j)) (a := a) (b := b) (us := vs) (vs := ws) (s := s)
          ⟨_, h1, h2, _, h3⟩ ⟨_, g1, g2, _, g3⟩ (by omega) (fun j p q => by
            obtain ⟨_, r1⟩ := reads_at h4 j (by simpa using p)
            obtain ⟨_, r2⟩ := reads_at g4 j (by simpa using q)
            have := eqAt_reads _ _ A.in1 s _ _ _ _ r1 r2 (lay_at xs cd j (by omega)) (lay_at ys ce j (by omega)) (by
              have z := deep_at xs n dx j
              have zz : min (at_ xs j).depth (at_ ys j).depth ≤ (at_ xs j).depth := Nat.min_le_left _ _
              show A.units + 1 + _ < cLine
              omega)
            simpa using this) (fun j p q pre ne => by
            obtain ⟨_, r1⟩ := reads_at h4 j (by simpa using p)
            obtain ⟨_, r2⟩ := reads_at g4 j (by simpa using q)
            have := ih _ _ A.in1 s _ _ _ _ r1 r2 (lay_at xs cd j (by omega)) (lay_at ys ce j (by omega)) (deep_at xs n dx j)
              (okL_at (okD n) xs ys ok' j (by omega) (by omega) pre ne) (by
                show A.units + 1 + n < cLine
                omega)
            simpa using this)
        rw [lx, ly, scan_lt] at R
        exact R
      | _ => exact absurd ok (by simp [okD])
    | _ => exact absurd ok (by simp [okD])
theorem rcGt : ∀ (n : Nat) (d e : PyData) (A : Around) (s : Shared) (v u : Value) (as bs : List Addr), Reads s.heap v d as → Reads s.heap u e bs →
    d.canLay0 = true → e.canLay0 = true → d.depth ≤ n → okD n d e = true → A.units + n < cLine → Rc .Gt A s v u (gtD n d e) := by
  intro n
  induction n with
  | zero =>
    intro d e A s v u as bs rv ru cd ce dd ok hu
    cases rv with
    | int i t =>
      cases ru with
      | int j t' => exact fun _ _ _ _ h => PyProof.Rows.gt_int h
      | _ => exact absurd ok (by simp [okD])
    | str x t =>
      cases ru with
      | str y t' => exact fun _ _ _ _ h => PySem.P.gt_str h
      | _ => exact absurd ok (by simp [okD])
    | _ => exact absurd ok (by simp [okD])
  | succ n ih =>
    intro d e A s v u as bs rv ru cd ce dd ok hu
    cases rv with
    | int i t =>
      cases ru with
      | int j t' => exact fun _ _ _ _ h => PyProof.Rows.gt_int h
      | _ => exact absurd ok (by simp [okD])
    | str x t =>
      cases ru with
      | str y t' => exact fun _ _ _ _ h => PySem.P.gt_str h
      | _ => exact absurd ok (by simp [okD])
    | @tuple a o vs k xs as h1 h2 h3 h4 =>
      cases ru with
      | @tuple b o' ws k' ys bs g1 g2 g3 g4 =>
        have lx : vs.size = xs.length := by simpa using ReadsAll.lenAny h4
        have ly : ws.size = ys.length := by simpa using ReadsAll.lenAny g4
        have dx : PyData.depthAll xs ≤ n := by
          have z : PyData.depthAll xs + 1 ≤ n + 1 := dd
          omega
        have ok' : okL (okD n) xs ys = true := ok
        have R := Rc.tupGt (A := A) (eq := fun j => PyData.eqv (at_ xs j) (at_ ys j)) (ans := fun j => gtD n (at_ xs j) (at_ ys j)) (a := a) (b := b) (us := vs) (vs := ws) (s := s)
          ⟨_, h1, h2, _, h3⟩ ⟨_, g1, g2, _, g3⟩ (by omega) (fun j p q => by
            obtain ⟨_, r1⟩ := reads_at h4 j (by simpa using p)
            obtain ⟨_, r2⟩ := reads_at g4 j (by simpa using q)
            have := eqAt_reads _ _ A.in1 s _ _ _ _ r1 r2 (lay_at xs cd j (by omega)) (lay_at ys ce j (by omega)) (by
              have z := deep_at xs n dx j
              have zz : min (at_ xs j).depth (at_ ys j).depth ≤ (at_ xs j).depth := Nat.min_le_left _ _
              show A.units + 1 + _ < cLine
              omega)
            simpa using this) (fun j p q pre ne => by
            obtain ⟨_, r1⟩ := reads_at h4 j (by simpa using p)
            obtain ⟨_, r2⟩ := reads_at g4 j (by simpa using q)
            have := ih _ _ A.in1 s _ _ _ _ r1 r2 (lay_at xs cd j (by omega)) (lay_at ys ce j (by omega)) (deep_at xs n dx j)
              (okL_at (okD n) xs ys ok' j (by omega) (by omega) pre ne) (by
                show A.units + 1 + n < cLine
                omega)
            simpa using this)
        rw [lx, ly, scan_gt] at R
        exact R
      | _ => exact absurd ok (by simp [okD])
    | _ => exact absurd ok (by simp [okD])
end Tlz
namespace K1
open PySem PySem.Spec PyProof.Rows L2 Ow
def topS (i : Nat) : Stmt := PySem.Challenge.pw_turnshelves_k09_whole_rows_lie_in_their.main.body.getD i (.Pass ⟨0, 0, 0, 0⟩)
/-- the names that the top leaves alone -/
structure Bl (mg : Str → Option Value) : Prop where
  range : mg "range" = none
  len : mg "len" = none
  int : mg "int" = none
  str : mg "str" = none
  bool : mg "bool" = none
  list : mg "list" = none
  tuple : mg "tuple" = none
  dict : mg "dict" = none
  isinstance : mg "isinstance" = none
  min : mg "min" = none
  sum : mg "sum" = none
  sorted : mg "sorted" = none
  abs : mg "abs" = none
  ord : mg "ord" = none
end K1
namespace K1
open PySem PySem.Spec PyProof.Rows L2 Ow
/-- the signs of a text are those of values -/
def Pr (z : Str) : Prop := ∀ c ∈ z.cps.toList, 32 ≤ c ∧ c < 127 ∧ c ≠ 37
instance (z : Str) : Decidable (Pr z) := inferInstanceAs (Decidable (∀ c ∈ z.cps.toList, 32 ≤ c ∧ c < 127 ∧ c ≠ 37))
theorem joinL_mem : ∀ (ps : List (List Nat)) (c : Nat), c ∈ TL.joinL [] ps → ∃ p ∈ ps, c ∈ p
  | [], _, h => nomatch h
  | [p], c, h => ⟨p, List.mem_singleton.mpr rfl, h⟩
  | p :: q :: r, c, h => by
    have h' : c ∈ p ++ ([] ++ TL.joinL [] (q :: r)) := h
    rw [List.nil_append] at h'
    rcases List.mem_append.mp h' with z | z
    · exact ⟨p, List.mem_cons_self, z⟩
    · obtain ⟨x, m, i⟩ := joinL_mem (q :: r) c z
      exact ⟨x, List.mem_cons_of_mem _ m, i⟩
theorem joinL_len : ∀ (ps : List (List Nat)), (TL.joinL [] ps).length = (ps.map (·.length)).sum
  | [] => rfl
  | [p] => by simp [TL.joinL]
  | p :: q :: r => by
    have e : TL.joinL [] (p :: q :: r) = p ++ ([] ++ TL.joinL [] (q :: r)) := rfl
    rw [e, List.nil_append, List.length_append, joinL_len (q :: r)]
    rfl
theorem Pr.join {ys : List Str} (h : ∀ y ∈ ys, Pr y) : Pr (Txt.join (PySem.Str.ofString "") ys) := by
  intro c hc
  rw [TL.join_eq] at hc
  have h1 : c ∈ TL.joinL [] (ys.map fun z => z.cps.toList) := by
    have hc' : c ∈ TL.tl (Str.join (PySem.Str.ofString "") ys) := hc
    rw [TL.tl_join] at hc'
    exact hc'
  obtain ⟨p, m, i⟩ := joinL_mem _ _ h1
  obtain ⟨y, my, rfl⟩ := List.mem_map.mp m
  exact h y my c i
theorem join_size {ys : List Str} : (Txt.join (PySem.Str.ofString "") ys).length = (ys.map (·.length)).sum := by
  rw [TL.join_eq]
  have e : (TL.tl (Str.join (PySem.Str.ofString "") ys)).length = (Str.join (PySem.Str.ofString "") ys).length := by
    show (Str.join (PySem.Str.ofString "") ys).cps.toList.length = _
    rw [Array.length_toList]
    rfl
  rw [← e, TL.tl_join]
  show (TL.joinL [] (ys.map fun z => z.cps.toList)).length = _
  rw [joinL_len, List.map_map]
  congr 1
/-- a value of a row -/
def Scal (v : V) : Prop := (∃ i, v = .int i ∧ i.natAbs < 2 ^ 140) ∨ ∃ z, v = .str z ∧ Pr z ∧ z.length ≤ 200
def firstV : V → V → Bool
  | .int i, .int j => decide (i < j)
  | .int _, .str _ => true
  | .str _, .int _ => false
  | .str x, .str y => decide (x.cps.toList < y.cps.toList)
  | _, _ => false
def orderV : List V → List V → Int
  | [], [] => 0
  | [], _ :: _ => -1
  | _ :: _, [] => 1
  | x :: xs, y :: ys => if firstV x y = true then -1 else if firstV y x = true then 1 else orderV xs ys
def spMix : Sp := fun vs H Q _ => ∃ c k : Int, vs = [.int c, .int k] ∧
  ∀ v : Int, 0 ≤ v → v < 9973 → Q (.int v) H
def spDraws (K : PySem.W.Frag) : Sp := fun vs H Q _ => ∃ (a : Addr) (ns : List Int), vs = [.ref a] ∧
  SqL K H a (ns.map V.int) ∧ ns.length ≤ 63 ∧ ∀ (H' : Hp) (p : Addr) (ds : List Int), Same H H' → H p = none →
    H' p = some (.lst (ds.map V.int)) → Q (.ref p) H'
def spAt (K : PySem.W.Frag) : Sp := fun vs H Q _ => ∃ (d : Addr) (ds : List Int) (i : Int), vs = [.ref d, .int i] ∧
  SqL K H d (ds.map V.int) ∧ 0 ≤ i ∧ ∀ v : Int, Q (.int v) H
def spNext : Sp := fun vs H Q _ => ∃ (p d : Addr) (l : Int), vs = [.ref p, .int l] ∧ 0 < l ∧ Rng d H p ∧
  Drw p d H Q fun x _ => ∃ v : Int, x = .int v ∧ 0 ≤ v ∧ v < l
def spText : Sp := fun vs H Q _ => ∃ (p d : Addr) (m : Nat), vs = [.ref p, .int (m : Int)] ∧ m ≤ 1000 ∧ Rng d H p ∧
  Drw p d H Q fun x _ => ∃ z : Str, x = .str z ∧ Pr z ∧ z.length ≤ m
def spValue : Sp := fun vs H Q _ => ∃ p d : Addr, vs = [.ref p] ∧ Rng d H p ∧ Drw p d H Q fun x _ => Scal x
def spRow : Sp := fun vs H Q _ => ∃ (p d : Addr) (n : Nat), vs = [.ref p, .int (n : Int)] ∧ n ≤ 1000 ∧ Rng d H p ∧
  Drw p d H Q fun x H' => ∃ (q : Addr) (xs : List V), x = .ref q ∧ H' q = some (.tup xs) ∧ xs.length = n ∧ ∀ y ∈ xs, Scal y
def spName : Sp := fun vs H Q _ => ∃ p d : Addr, vs = [.ref p] ∧ Rng d H p ∧ Drw p d H Q fun x _ => ∃ z, x = .str z ∧ Pr z
def spFirst : Sp := fun vs H Q _ => ∃ a b : V, vs = [a, b] ∧ Scal a ∧ Scal b ∧ Q (.bl (firstV a b)) H
def spOrder (K : PySem.W.Frag) : Sp := fun vs H Q _ => ∃ (a b : Addr) (xs ys : List V), vs = [.ref a, .ref b] ∧
  SqT K H a xs ∧ SqT K H b ys ∧ xs.length ≤ 1000 ∧ (∀ x ∈ xs, Scal x) ∧ (∀ y ∈ ys, Scal y) ∧ Q (.int (orderV xs ys)) H
/-- a tuple whose object is known -/
def FT (H : Hp) (a : Addr) (xs : List V) : Prop := ∃ o : Obj, H a = some (.frz o (.tup xs)) ∧ o.dict = none ∧ o.cls = .type "tuple"
theorem FT.sq {K : PySem.W.Frag} {H : Hp} {a : Addr} {xs : List V} (h : FT H a xs) : SqT K H a xs := by
  obtain ⟨o, h, _⟩ := h
  exact .inl (.inr ⟨o, h⟩)
structure Tk (K : PySem.W.Frag) (H H' : Hp) : Prop where
  f : ∀ (a : Addr) (xs : List V), SqT K H a xs → SqT K H' a xs
  x : ∀ (a : Addr) (xs : List V), FT H a xs → FT H' a xs
instance {K : PySem.W.Frag} {H H' : Hp} : CoeFun (Tk K H H') (fun _ => ∀ (a : Addr) (xs : List V), SqT K H a xs → SqT K H' a xs) := ⟨Tk.f⟩
theorem Tk.same {K : PySem.W.Frag} {H H' : Hp} (s : Same H H') : Tk K H H' := by
  refine ⟨fun a xs h => ?_, fun a xs ⟨o, h, d⟩ => ⟨o, s _ _ h, d⟩⟩
  rcases h with (h | ⟨o, h⟩) | h
  · exact .inl (.inl (s _ _ h))
  · exact .inl (.inr ⟨o, s _ _ h⟩)
  · exact .inr h
theorem Tk.trans {K : PySem.W.Frag} {H H1 H2 : Hp} (a : Tk K H H1) (b : Tk K H1 H2) : Tk K H H2 := ⟨fun c xs h => b.f c xs (a.f c xs h), fun c xs h => b.x c xs (a.x c xs h)⟩
theorem Tk.gw {K : PySem.W.Frag} {H H' : Hp} {p : Addr} {us : List V} (e : H p = some (.lst us)) (g : Gw p H H') : Tk K H H' := by
  refine ⟨fun a xs h => ?_, fun a xs ⟨o, h, d⟩ => ⟨o, g _ _ (fun z => by rw [z, e] at h; cases h) h, d⟩⟩
  rcases h with (h | ⟨o, h⟩) | h
  · exact .inl (.inl (g _ _ (fun z => by rw [z, e] at h; cases h) h))
  · exact .inl (.inr ⟨o, g _ _ (fun z => by rw [z, e] at h; cases h) h⟩)
  · exact .inr h
theorem Tk.put {K : PySem.W.Frag} {H : Hp} {p : Addr} {us : List V} {o : HO} (e : H p = some (.lst us)) : Tk K H (upd H p o) := Tk.gw e Gw.put
/-- a def that makes something and keeps all else -/
def Mak (H : Hp) (Q : VK) (R : V → Hp → Prop) : Prop := ∀ x H', R x H' → Same H H' → Q x H'
theorem SqL.same {K : PySem.W.Frag} {H H' : Hp} {a : Addr} {xs : List V} (s : Same H H') (h : SqL K H a xs) : SqL K H' a xs := s.seq h
end K1
namespace Ow
open PySem PySem.Spec PyProof.Rows L2
theorem for_str {x : Str} {g : TG} {tb : TS} {D : Ends} {σ : L2.St} {H : Hp} (Pv : Nat → L2.St → Hp → Prop) (h0 : Pv 0 σ H)
    (hs : ∀ i c σ H, x.cps[i]? = some c → Pv i σ H → g (.str ⟨#[c]⟩) σ H fun σ2 H2 => tb { D with nx := Pv (i + 1), ct := Pv (i + 1), bk := D.nx } σ2 H2) (hd : ∀ σ H, Pv x.cps.size σ H → D.nx σ H) :
    ∃ W : Nat → Nat → L2.St → Hp → Prop, (∃ m, W 0 m σ H) ∧ ∀ i m σ H, W i m σ H →
      ((Its x).stop i H ∧ D.nx σ H) ∨ ((Its x).go i H ∧ ∃ N : L2.St → Hp → Prop, (∀ σ' H', N σ' H' → ∃ m', m' < m ∧ W (i + 1) m' σ' H') ∧ ∀ v H', (Its x).yld i H v H' → g v σ H' fun σ2 H2 => tb { D with nx := N, ct := N, bk := D.nx } σ2 H2) := by
  refine ⟨fun i m σ H => m = x.cps.size - i ∧ i ≤ x.cps.size ∧ Pv i σ H, ⟨x.cps.size, by simp, Nat.zero_le _, h0⟩, ?_⟩
  rintro i m σ H ⟨rfl, hi, p⟩
  by_cases hlt : i < x.cps.size
  · refine .inr ⟨hlt, Pv (i + 1), fun σ' H' p' => ⟨x.cps.size - (i + 1), by omega, rfl, hlt, p'⟩, fun v H' y => ?_⟩
    obtain ⟨rfl, c, ec, rfl⟩ := y
    exact hs i c σ _ ec p
  · have e : i = x.cps.size := by omega
    subst e
    exact .inl ⟨Nat.le_refl _, hd σ H p⟩
theorem lc_str {x : Str} {g : TG} {tt : TT} {te : TE} {vs : List Nat} {σ : L2.St} {H1 : Hp} {D : Addr} {Qd : Hp → Prop} (Pv : Nat → Hp → Prop) (h0 : Pv 0 (upd H1 D (.lst [])))
    (hs : ∀ i c H, x.cps[i]? = some c → Pv i H → g (.str ⟨#[c]⟩) (wipe σ vs) H fun σ2 H2 => wipe σ2 vs = wipe σ vs ∧ tt σ2 H2 fun b H3 =>
      if b = true then te σ2 H3 fun y H4 => ∃ acc, H4 D = some (.lst acc) ∧ acc.length < sizeLine ∧ Pv (i + 1) (upd H4 D (.lst (acc ++ [y]))) else Pv (i + 1) H3) (hd : ∀ H, Pv x.cps.size H → Qd H) :
    ∃ W : Nat → Nat → Hp → Prop, (∃ m, W 0 m (upd H1 D (.lst []))) ∧ ∀ i m H, W i m H →
      ((Its x).stop i H ∧ Qd H) ∨ ((Its x).go i H ∧ ∃ Nx : Hp → Prop, (∀ H', Nx H' → ∃ m', m' < m ∧ W (i + 1) m' H') ∧ ∀ v H', (Its x).yld i H v H' → g v (wipe σ vs) H' fun σ2 H2 => wipe σ2 vs = wipe σ vs ∧ tt σ2 H2 fun b H3 =>
        if b = true then te σ2 H3 fun y H4 => ∃ acc, H4 D = some (.lst acc) ∧ acc.length < sizeLine ∧ Nx (upd H4 D (.lst (acc ++ [y]))) else Nx H3) := by
  refine ⟨fun i m H => m = x.cps.size - i ∧ i ≤ x.cps.size ∧ Pv i H, ⟨x.cps.size, by simp, Nat.zero_le _, h0⟩, ?_⟩
  rintro i m H ⟨rfl, hi, p⟩
  by_cases hlt : i < x.cps.size
  · refine .inr ⟨hlt, Pv (i + 1), fun H' p' => ⟨x.cps.size - (i + 1), by omega, rfl, hlt, p'⟩, fun v H' y => ?_⟩
    obtain ⟨rfl, c, ec, rfl⟩ := y
    exact hs i c _ ec p
  · have e : i = x.cps.size := by omega
    subst e
    exact .inl ⟨Nat.le_refl _, hd H p⟩
/-- a text times a number -/
theorem op_mul_str {X : Cx} : OpR X (binaryOp .Mult) (fun x y H Q => ∃ z n, x = .str z ∧ y = .int n ∧ 1 ≤ z.length ∧ 0 ≤ n ∧ (z.length : Int) * n ≤ 10000 ∧ Q (.str (Txt.mul z n)) H) := by
  intro pins s σ H x y v u Q I rx ry h
  obtain ⟨z, n, rfl, rfl, h1, h0, hz, q⟩ := h
  obtain ⟨t, rfl⟩ := rx
  obtain ⟨t', rfl⟩ := ry
  have hn : n ≤ 10000 := by
    have : (1 : Int) * n ≤ (z.length : Int) * n := Int.mul_le_mul_of_nonneg_right (by omega) h0
    omega
  have hl : (z.length : Int) ≤ 10000 ∨ n < 1 := by
    by_cases hn0 : n < 1
    · exact .inr hn0
    · left
      have : (z.length : Int) * 1 ≤ (z.length : Int) * n := Int.mul_le_mul_of_nonneg_left (by omega) (by omega)
      omega
  refine SB.mul ⟨?_, ?_, ?_⟩ (fun t' k => ⟨.str (Txt.mul z n), H, I.tok _, ⟨_, rfl⟩, q⟩)
  · rw [decide_eq_false (by omega), decide_eq_false (by omega)]
    rfl
  · intro a _ b
    have c : (2 ^ 63 - 1 : Int) / n ≥ (2 ^ 63 - 1 : Int) / 10000 := by
      have h3 : (2 ^ 63 - 1 : Int) / 10000 * n ≤ 2 ^ 63 - 1 := by
        have : (2 ^ 63 - 1 : Int) / 10000 * n ≤ (2 ^ 63 - 1 : Int) / 10000 * 10000 := Int.mul_le_mul_of_nonneg_left hn (by decide)
        have h4 : (2 ^ 63 - 1 : Int) / 10000 * 10000 ≤ 2 ^ 63 - 1 := by decide
        omega
      exact (Int.le_ediv_iff_mul_le (by omega)).mpr h3
    have d : (2 ^ 63 - 1 : Int) / 10000 ≥ 10001 := by decide
    omega
  · intro a _
    have e : ((z.length * n.toNat : Nat) : Int) = (z.length : Int) * n := by
      rw [Int.natCast_mul, Int.toNat_of_nonneg h0]
    have e2 : z.length * n.toNat ≤ 10000 := by omega
    show decide _ = false
    exact decide_eq_false (by
      have : sizeLine = 16777216 := rfl
      omega)
end Ow
namespace Ow
open PySem PySem.Spec PyProof.Rows L2 Tlz
/-- two data at x, y, comparable to depth n -/
structure Cp (K : PySem.W.Frag) (H : Hp) (n : Nat) (x y : V) (d e : PyData) : Prop where
  l : Dp K H x d
  r : Dp K H y e
  cl : d.canLay0 = true
  cr : e.canLay0 = true
  dl : d.depth ≤ n
  dr : e.depth ≤ n
  ok : okD n d e = true
  n60 : n ≤ 60
def rLtK (K : PySem.W.Frag) : R2 := fun x y H Q => ∃ n d e, Cp K H n x y d e ∧ Q (.bl (ltD n d e)) H
def rGtK (K : PySem.W.Frag) : R2 := fun x y H Q => ∃ n d e, Cp K H n x y d e ∧ Q (.bl (gtD n d e)) H
theorem op_ltK {X : Cx} {k : Nat} (hr : Room k X.A) : OpR X (compareOp .Lt) (rLtK X.K) := by
  intro pins s σ H x y v u Q I rx ry h
  obtain ⟨n, d, e, c, q⟩ := h
  obtain ⟨as, r1⟩ := Dp.reads I d x v c.l rx
  obtain ⟨bs, r2⟩ := Dp.reads I e y u c.r ry
  have hu := hr.units
  have c6 := c.n60
  exact rcLt n d e X.A s v u as bs r1 r2 c.cl c.cr c.dl c.ok (by omega) X.prog X.w X.xe (EP X pins σ Q) ⟨.bl _, H, I, rfl, q⟩
theorem op_gtK {X : Cx} {k : Nat} (hr : Room k X.A) : OpR X (compareOp .Gt) (rGtK X.K) := by
  intro pins s σ H x y v u Q I rx ry h
  obtain ⟨n, d, e, c, q⟩ := h
  obtain ⟨as, r1⟩ := Dp.reads I d x v c.l rx
  obtain ⟨bs, r2⟩ := Dp.reads I e y u c.r ry
  have hu := hr.units
  have c6 := c.n60
  exact rcGt n d e X.A s v u as bs r1 r2 c.cl c.cr c.dl c.ok (by omega) X.prog X.w X.xe (EP X pins σ Q) ⟨.bl _, H, I, rfl, q⟩
theorem shaped_of {d : PyData} {n : Nat} (c : d.canLay0 = true) (h : d.depth ≤ n) (hn : n ≤ 60) : SeqAt.shaped d = true := by
  unfold SeqAt.shaped
  rw [c, decide_eq_true (show d.depth ≤ 64 by omega)]
  rfl
end Ow
namespace K1
open PySem PySem.Spec PyProof.Rows L2 Ow Tlz
/-- the key of a value, as data -/
def vkD : V → PyData
  | .int i => .tuple [.int 0, .int i]
  | .str z => .tuple [.int 1, .str z]
  | _ => .none
def rkD (xs : List V) : PyData := .tuple (xs.map vkD)
def kD (s : Int) (n : Str) (row : List V) : PyData := .tuple [.int s, .str n, rkD row]
def kd2 (s : Int) (n : Str) : PyData := .tuple [.int s, .str n]
/-- the order o tells what <, == and > say of d and e -/
structure Agr (n : Nat) (d e : PyData) (o : Int) : Prop where
  lt : ltD n d e = decide (o < 0)
  eq : PyData.eqv d e = decide (o = 0)
  gt : gtD n d e = decide (0 < o)
theorem str_tri (x y : Str) : (x == y) = (!decide (x.cps.toList < y.cps.toList) && !decide (y.cps.toList < x.cps.toList)) := by
  by_cases h : x = y
  · subst h
    have n : ¬ x.cps.toList < x.cps.toList := List.lt_irrefl _
    simp [n]
  · have e : (x == y) = false := by simpa using h
    rw [e]
    symm
    rw [Bool.and_eq_false_iff]
    apply Classical.byContradiction
    intro z
    apply h
    have z1 : ¬ x.cps.toList < y.cps.toList := fun w => z (.inl (by rw [decide_eq_true w]; rfl))
    have z2 : ¬ y.cps.toList < x.cps.toList := fun w => z (.inr (by rw [decide_eq_true w]; rfl))
    have e2 : x.cps.toList = y.cps.toList := List.le_antisymm z2 z1
    cases x
    cases y
    simp only [Str.mk.injEq]
    exact Array.toList_inj.mp e2
theorem eqv_int (i j : Int) : PyData.eqv (.int i) (.int j) = (i == j) := by rw [PyData.eqv]
theorem eqv_str (x y : Str) : PyData.eqv (.str x) (.str y) = (x == y) := by rw [PyData.eqv]
theorem eqv_tup (xs ys : List PyData) : PyData.eqv (.tuple xs) (.tuple ys) = PyData.eqvAll xs ys := by rw [PyData.eqv]
theorem eqv_cons (x y : PyData) (xs ys : List PyData) : PyData.eqvAll (x :: xs) (y :: ys) = (PyData.eqv x y && PyData.eqvAll xs ys) := by rw [PyData.eqvAll]
theorem eqv_nil : PyData.eqvAll [] [] = true := by rw [PyData.eqvAll]
theorem eqv_nc (y : PyData) (ys : List PyData) : PyData.eqvAll [] (y :: ys) = false := by rw [PyData.eqvAll]
theorem eqv_cn (x : PyData) (xs : List PyData) : PyData.eqvAll (x :: xs) [] = false := by rw [PyData.eqvAll]
theorem int_tri (i j : Int) : (i == j) = (!decide (i < j) && !decide (j < i)) := by
  by_cases h : i = j
  · subst h; simp
  · have e : (i == j) = false := by simpa using h
    rw [e]
    rcases Int.lt_or_gt_of_ne h with z | z
    · simp [z]
    · simp [z]
/-- the keys of two values -/
theorem vk_all {x y : V} (sx : Scal x) (sy : Scal y) (n : Nat) : okD (n + 1) (vkD x) (vkD y) = true ∧ ltD (n + 1) (vkD x) (vkD y) = firstV x y ∧ gtD (n + 1) (vkD x) (vkD y) = firstV y x ∧
    PyData.eqv (vkD x) (vkD y) = (!firstV x y && !firstV y x) := by
  rcases sx with ⟨i, rfl, _⟩ | ⟨x, rfl, _⟩ <;> rcases sy with ⟨j, rfl, _⟩ | ⟨y, rfl, _⟩
  · simp only [vkD, okD, ltD, gtD, okL, ltL, gtL, eqv_int, eqv_tup, eqv_cons, eqv_nil, firstV, beq_self_eq_true, if_true, Bool.true_and, Bool.and_true, ← int_tri]
    cases h : (i == j) with
    | true =>
      have e : i = j := by simpa using h
      subst e
      simp
    | false => simp
  · have e : ((0 : Int) == 1) = false := by decide
    simp only [vkD, okD, ltD, gtD, okL, ltL, gtL, eqv_int, eqv_tup, eqv_cons, eqv_nil, firstV, e, if_false, Bool.false_and, Bool.false_eq_true]
    decide
  · have e : ((1 : Int) == 0) = false := by decide
    simp only [vkD, okD, ltD, gtD, okL, ltL, gtL, eqv_int, eqv_tup, eqv_cons, eqv_nil, firstV, e, if_false, Bool.false_and, Bool.false_eq_true]
    decide
  · simp only [vkD, okD, ltD, gtD, okL, ltL, gtL, eqv_int, eqv_str, eqv_tup, eqv_cons, eqv_nil, firstV, beq_self_eq_true, if_true, Bool.true_and, Bool.and_true, ← str_tri]
    cases h : (x == y) with
    | true =>
      have e : x = y := by simpa using h
      subst e
      have n : ¬ x.cps.toList < x.cps.toList := List.lt_irrefl _
      simp [n]
    | false => simp
theorem first_asym {x y : V} (sx : Scal x) (sy : Scal y) (h : firstV x y = true) : firstV y x = false := by
  rcases sx with ⟨i, rfl, _⟩ | ⟨x, rfl, _⟩ <;> rcases sy with ⟨j, rfl, _⟩ | ⟨y, rfl, _⟩
  · have h' : i < j := of_decide_eq_true h
    exact decide_eq_false (by omega)
  · rfl
  · exact absurd (show false = true from h) Bool.false_ne_true
  · have h' : x.cps.toList < y.cps.toList := of_decide_eq_true h
    exact decide_eq_false (List.lt_asymm h')
/-- the keys of two rows -/
theorem rk_all (n : Nat) : ∀ (xs ys : List V), (∀ x ∈ xs, Scal x) → (∀ y ∈ ys, Scal y) →
    okL (okD (n + 1)) (xs.map vkD) (ys.map vkD) = true ∧ ltL (ltD (n + 1)) (xs.map vkD) (ys.map vkD) = decide (orderV xs ys < 0) ∧
    gtL (gtD (n + 1)) (xs.map vkD) (ys.map vkD) = decide (0 < orderV xs ys) ∧ PyData.eqvAll (xs.map vkD) (ys.map vkD) = decide (orderV xs ys = 0)
  | [], [], _, _ => ⟨rfl, rfl, rfl, by rw [List.map_nil, eqv_nil]; rfl⟩
  | [], y :: ys, _, _ => ⟨rfl, rfl, rfl, by rw [List.map_nil, List.map_cons, eqv_nc]; rfl⟩
  | x :: xs, [], _, _ => ⟨rfl, rfl, rfl, by rw [List.map_nil, List.map_cons, eqv_cn]; rfl⟩
  | x :: xs, y :: ys, hx, hy => by
    have sx := hx x List.mem_cons_self
    have sy := hy y List.mem_cons_self
    obtain ⟨a1, a2, a3, a4⟩ := vk_all sx sy n
    obtain ⟨b1, b2, b3, b4⟩ := rk_all n xs ys (fun z m => hx z (List.mem_cons_of_mem _ m)) (fun z m => hy z (List.mem_cons_of_mem _ m))
    rw [List.map_cons, List.map_cons]
    unfold okL ltL gtL orderV
    rw [eqv_cons, a4, a2, a3, a1, b1, b2, b3, b4]
    cases h : firstV x y with
    | true =>
      have h2 := first_asym sx sy h
      rw [h2]
      simp
    | false =>
      cases h2 : firstV y x with
      | true => simp
      | false => simp
theorem Agr.row {xs ys : List V} (hx : ∀ x ∈ xs, Scal x) (hy : ∀ y ∈ ys, Scal y) : Agr 2 (rkD xs) (rkD ys) (orderV xs ys) ∧ okD 2 (rkD xs) (rkD ys) = true := by
  obtain ⟨b1, b2, b3, b4⟩ := rk_all 0 xs ys hx hy
  exact ⟨⟨b2, (eqv_tup _ _).trans b4, b3⟩, b1⟩
theorem Agr.one {x y : V} (sx : Scal x) (sy : Scal y) : Agr 1 (vkD x) (vkD y) (orderV [x] [y]) ∧ okD 1 (vkD x) (vkD y) = true := by
  obtain ⟨a1, a2, a3, a4⟩ := vk_all sx sy 0
  have e : orderV [x] [y] = if firstV x y = true then -1 else if firstV y x = true then 1 else 0 := by
    unfold orderV
    rfl
  rw [e]
  refine ⟨⟨?_, ?_, ?_⟩, a1⟩
  · rw [a2]
    cases h : firstV x y with
    | true => rfl
    | false => cases h2 : firstV y x with
      | true => rfl
      | false => rfl
  · rw [a4]
    cases h : firstV x y with
    | true => rw [first_asym sx sy h]; rfl
    | false => cases h2 : firstV y x with
      | true => rfl
      | false => rfl
  · rw [a3]
    cases h : firstV x y with
    | true => rw [first_asym sx sy h]; rfl
    | false => cases h2 : firstV y x with
      | true => rfl
      | false => rfl
/-- the order of two keys, as the law reckons it -/
def keyOrd (s : Int) (n : Str) (row : List V) (s' : Int) (n' : Str) (row' : List V) : Int :=
  if (!PyData.eqv (kd2 s n) (kd2 s' n')) = true then (if ltD 1 (kd2 s n) (kd2 s' n') = true then -1 else 1) else orderV row row'
theorem Agr.key {s s' : Int} {n n' : Str} {xs ys : List V} (hx : ∀ x ∈ xs, Scal x) (hy : ∀ y ∈ ys, Scal y) :
    Agr 3 (kD s n xs) (kD s' n' ys) (keyOrd s n xs s' n' ys) ∧ okD 3 (kD s n xs) (kD s' n' ys) = true := by
  obtain ⟨⟨r1, r2, r3⟩, r4⟩ := Agr.row hx hy
  have e2 : PyData.eqv (kd2 s n) (kd2 s' n') = ((s == s') && (n == n')) := by
    unfold kd2
    rw [eqv_tup, eqv_cons, eqv_cons, eqv_nil, eqv_int, eqv_str, Bool.and_true]
  have l2 : ltD 1 (kd2 s n) (kd2 s' n') = if (s == s') = true then (if (n == n') = true then false else decide (n.cps.toList < n'.cps.toList)) else decide (s < s') := by
    simp only [kd2, ltD, ltL, eqv_int, eqv_str]
  have e3 : PyData.eqv (kD s n xs) (kD s' n' ys) = ((s == s') && ((n == n') && PyData.eqv (rkD xs) (rkD ys))) := by
    unfold kD
    rw [eqv_tup, eqv_cons, eqv_cons, eqv_cons, eqv_nil, eqv_int, eqv_str, Bool.and_true]
  have l3 : ltD 3 (kD s n xs) (kD s' n' ys) = if (s == s') = true then (if (n == n') = true then (if PyData.eqv (rkD xs) (rkD ys) = true then false else ltD 2 (rkD xs) (rkD ys)) else decide (n.cps.toList < n'.cps.toList)) else decide (s < s') := by
    simp only [kD, ltD, ltL, eqv_int, eqv_str]
  have g3 : gtD 3 (kD s n xs) (kD s' n' ys) = if (s == s') = true then (if (n == n') = true then (if PyData.eqv (rkD xs) (rkD ys) = true then false else gtD 2 (rkD xs) (rkD ys)) else decide (n'.cps.toList < n.cps.toList)) else decide (s' < s) := by
    simp only [kD, gtD, gtL, eqv_int, eqv_str]
  have o3 : okD 3 (kD s n xs) (kD s' n' ys) = if (s == s') = true then (if (n == n') = true then (if PyData.eqv (rkD xs) (rkD ys) = true then true else okD 2 (rkD xs) (rkD ys)) else true) else true := by
    simp only [kD, okD, okL, eqv_int, eqv_str]
  have it := int_tri s s'
  have st := str_tri n n'
  unfold keyOrd
  rw [e2, l2]
  refine ⟨⟨?_, ?_, ?_⟩, ?_⟩
  · rw [l3]
    cases h1 : (s == s') with
    | false => cases h : decide (s < s') <;> simp
    | true =>
      cases h2 : (n == n') with
      | false => cases h : decide (n.cps.toList < n'.cps.toList) <;> simp
      | true =>
        rw [r1, r2]
        by_cases z : orderV xs ys = 0
        · simp [z]
        · simp [z]
  · rw [e3]
    cases h1 : (s == s') with
    | false => cases h : decide (s < s') <;> simp
    | true =>
      cases h2 : (n == n') with
      | false => cases h : decide (n.cps.toList < n'.cps.toList) <;> simp
      | true => rw [r2]; simp
  · rw [g3]
    cases h1 : (s == s') with
    | false =>
      rw [h1] at it
      cases h : decide (s < s') with
      | false =>
        rw [h] at it
        simp at it
        simp [it]
      | true =>
        have z : s < s' := of_decide_eq_true h
        simp
        omega
    | true =>
      cases h2 : (n == n') with
      | false =>
        rw [h2] at st
        cases h : decide (n.cps.toList < n'.cps.toList) with
        | false =>
          rw [h] at st
          simp at st
          simp [st]
        | true =>
          have z : n.cps.toList < n'.cps.toList := of_decide_eq_true h
          have z2 := List.lt_asymm z
          simp [z2]
      | true =>
        rw [r3, r2]
        by_cases z : orderV xs ys = 0
        · simp [z]
        · simp [z]
  · rw [o3, r4]
    split
    · split
      · split <;> rfl
      · rfl
    · rfl
end K1
namespace K1
open PySem PySem.Spec PyProof.Rows L2 Ow Tlz
/-! data without lists -/
mutual
def noL : PyData → Bool
  | .list _ => false
  | .tuple xs => noLs xs
  | _ => true
def noLs : List PyData → Bool
  | [] => true
  | x :: xs => noL x && noLs xs
end
mutual
theorem Dp.tk {K : PySem.W.Frag} {H H' : Hp} (t : Tk K H H') : ∀ (d : PyData) (v : V), noL d = true → Dp K H v d → Dp K H' v d
  | .none, _, _, .non => .non
  | .bool b, _, _, .bl _ => .bl b
  | .int i, _, _, .int _ => .int i
  | .str x, _, _, .str _ => .str x
  | .list _, _, h, _ => absurd h (by rw [noL]; exact Bool.false_ne_true)
  | .tuple xs, _, h, .tup s a => .tup (t _ _ s) (DpAll.tk t xs _ (by rw [noL] at h; exact h) a)
theorem DpAll.tk {K : PySem.W.Frag} {H H' : Hp} (t : Tk K H H') : ∀ (ds : List PyData) (vs : List V), noLs ds = true → DpAll K H vs ds → DpAll K H' vs ds
  | [], _, _, .nil => .nil
  | d :: ds, _, h, .cons a b => by
    rw [noLs, Bool.and_eq_true] at h
    exact .cons (Dp.tk t d _ h.1 a) (DpAll.tk t ds _ h.2 b)
end
theorem DpAll.snoc {K : PySem.W.Frag} {H : Hp} : ∀ {vs : List V} {ds : List PyData} {v : V} {d : PyData}, DpAll K H vs ds → Dp K H v d → DpAll K H (vs ++ [v]) (ds ++ [d])
  | _, _, _, _, .nil, h => .cons h .nil
  | _, _, _, _, .cons a b, h => .cons a (DpAll.snoc b h)
theorem noL_vk (v : V) : noL (vkD v) = true := by
  cases v <;> simp [vkD, noL, noLs]
theorem noLs_vk : ∀ xs : List V, noLs (xs.map vkD) = true
  | [] => by simp [noLs]
  | x :: xs => by rw [List.map_cons, noLs, noL_vk, noLs_vk xs]; rfl
/-- strings of values can be laid -/
theorem Pr.ok {z : Str} (h : Pr z) : PyData.canLay0 (.str z) = true := by
  rw [PyData.canLay0]
  show z.cps.all (fun c => decide (c < 0x110000)) = true
  rw [Array.all_eq_true]
  intro i hi
  have := h z.cps[i] (by simp)
  exact decide_eq_true (by omega)
theorem lay_vk {v : V} (h : Scal v) : (vkD v).canLay0 = true := by
  rcases h with ⟨i, rfl, _⟩ | ⟨z, rfl, p, _⟩
  · simp [vkD, PyData.canLay0, PyData.canLayAll0]
  · have := p.ok
    simp [vkD, PyData.canLay0, PyData.canLayAll0] at this ⊢
    exact this
theorem lays_vk : ∀ {xs : List V}, (∀ x ∈ xs, Scal x) → PyData.canLayAll0 (xs.map vkD) = true
  | [], _ => by simp [PyData.canLayAll0]
  | x :: xs, h => by
    rw [List.map_cons, PyData.canLayAll0, lay_vk (h x List.mem_cons_self), lays_vk fun z m => h z (List.mem_cons_of_mem _ m)]
    rfl
theorem deep_vk (v : V) : (vkD v).depth ≤ 1 := by
  cases v <;> simp [vkD, PyData.depth, PyData.depthAll]
theorem deeps_vk : ∀ xs : List V, PyData.depthAll (xs.map vkD) ≤ 1
  | [] => by simp [PyData.depthAll]
  | x :: xs => by
    rw [List.map_cons, PyData.depthAll]
    exact Nat.max_le.mpr ⟨deep_vk x, deeps_vk xs⟩
theorem lay_rk {xs : List V} (h : ∀ x ∈ xs, Scal x) : (rkD xs).canLay0 = true := by
  unfold rkD
  rw [PyData.canLay0]
  exact lays_vk h
theorem deep_rk (xs : List V) : (rkD xs).depth ≤ 2 := by
  unfold rkD
  rw [PyData.depth]
  have := deeps_vk xs
  omega
theorem lay_k {s : Int} {n : Str} {xs : List V} (p : Pr n) (h : ∀ x ∈ xs, Scal x) : (kD s n xs).canLay0 = true := by
  have a := p.ok
  have b := lay_rk h
  unfold kD
  rw [PyData.canLay0, PyData.canLayAll0, PyData.canLayAll0, PyData.canLayAll0, PyData.canLayAll0, a, b]
  simp [PyData.canLay0]
theorem deep_k (s : Int) (n : Str) (xs : List V) : (kD s n xs).depth ≤ 3 := by
  have := deep_rk xs
  unfold kD
  rw [PyData.depth, PyData.depthAll, PyData.depthAll, PyData.depthAll, PyData.depthAll, PyData.depth, PyData.depth]
  omega
theorem noL_rk (xs : List V) : noL (rkD xs) = true := by
  unfold rkD
  rw [noL]
  exact noLs_vk xs
theorem noL_k (s : Int) (n : Str) (xs : List V) : noL (kD s n xs) = true := by
  unfold kD
  rw [noL, noLs, noLs, noLs, noLs, noL_rk]
  simp [noL]

/-- x is an item with the key s, n, row -/
def ItemAt (K : PySem.W.Frag) (H : Hp) (x : V) (s : Int) (n : Str) (row : List V) : Prop := ∃ (a : Addr) (xs : List V), x = .ref a ∧ SqT K H a xs ∧
  Pr n ∧ (∀ y ∈ row, Scal y) ∧ row.length ≤ 1000 ∧
  ((∃ rest, xs = .str "relation" :: .str n :: rest ∧ s = 0 ∧ row = []) ∨ (∃ rest, xs = .str "structure" :: .str n :: rest ∧ s = 2 ∧ row = []) ∨
   (∃ rest, xs = .str "layout" :: .str n :: rest ∧ s = 3 ∧ row = []) ∨ ∃ r : Addr, xs = [.str "fact", .str n, .ref r] ∧ s = 1 ∧ SqT K H r row)
def KeyAt (K : PySem.W.Frag) (H : Hp) (x : V) (s : Int) (n : Str) (row : List V) : Prop := ∃ a r : Addr, x = .ref a ∧
  SqT K H a [.int s, .str n, .ref r] ∧ SqT K H r row ∧ Pr n ∧ (∀ y ∈ row, Scal y) ∧ row.length ≤ 1000
theorem ItemAt.tk {K : PySem.W.Frag} {H H' : Hp} {x : V} {s : Int} {n : Str} {row : List V} (t : Tk K H H') (h : ItemAt K H x s n row) : ItemAt K H' x s n row := by
  obtain ⟨a, xs, e, h1, h2, h3, h4, h5⟩ := h
  refine ⟨a, xs, e, t _ _ h1, h2, h3, h4, ?_⟩
  rcases h5 with h | h | h | ⟨r, e1, e2, e3⟩
  · exact .inl h
  · exact .inr (.inl h)
  · exact .inr (.inr (.inl h))
  · exact .inr (.inr (.inr ⟨r, e1, e2, t _ _ e3⟩))
theorem KeyAt.tk {K : PySem.W.Frag} {H H' : Hp} {x : V} {s : Int} {n : Str} {row : List V} (t : Tk K H H') (h : KeyAt K H x s n row) : KeyAt K H' x s n row := by
  obtain ⟨a, r, e, h1, h2, h3⟩ := h
  exact ⟨a, r, e, t _ _ h1, t _ _ h2, h3⟩
def spLKey (K : PySem.W.Frag) : Sp := fun vs H Q _ => ∃ (x : V) (s : Int) (n : Str) (row : List V), vs = [x] ∧ ItemAt K H x s n row ∧
  Mak H Q fun y H' => KeyAt K H' y s n row
def spVKey (K : PySem.W.Frag) : Sp := fun vs H Q _ => ∃ x : V, vs = [x] ∧ Scal x ∧ Mak H Q fun y H' => Dp K H' y (vkD x)
def spRKey (K : PySem.W.Frag) : Sp := fun vs H Q _ => ∃ (a : Addr) (xs : List V), vs = [.ref a] ∧ SqT K H a xs ∧ (∀ x ∈ xs, Scal x) ∧ xs.length ≤ 1000 ∧
  Mak H Q fun y H' => Dp K H' y (rkD xs)
def spKOrd (K : PySem.W.Frag) : Sp := fun vs H Q _ => ∃ (x : V) (s : Int) (n : Str) (row : List V), vs = [x] ∧ KeyAt K H x s n row ∧
  Mak H Q fun y H' => Dp K H' y (kD s n row)
def spLOrd (K : PySem.W.Frag) : Sp := fun vs H Q _ => ∃ (x y : V) (s s' : Int) (n n' : Str) (row row' : List V), vs = [x, y] ∧ KeyAt K H x s n row ∧ KeyAt K H y s' n' row' ∧
  Mak H Q fun z _ => z = .int (keyOrd s n row s' n' row')
def spItem (K : PySem.W.Frag) : Sp := fun vs H Q _ => ∃ p d : Addr, vs = [.ref p] ∧ Rng d H p ∧
  Drw p d H Q fun x H' => ∃ (s : Int) (n : Str) (row : List V), ItemAt K H' x s n row
def spAgrees (K : PySem.W.Frag) : Sp := fun vs H Q _ => ∃ (x y : V) (n : Nat) (ds es : List PyData) (o : Int), vs = [x, y, .int o] ∧
  Cp K H n x y (.tuple ds) (.tuple es) ∧ Agr n (.tuple ds) (.tuple es) o ∧ Mak H Q fun z _ => z = .bl true
/-- two equal data without lists, n deep at most -/
def spSame (K : PySem.W.Frag) (n : Nat) : Sp := fun vs H Q _ => ∃ (x y : V) (d : PyData), vs = [x, y] ∧ Dp K H x d ∧ Dp K H y d ∧ d.canLay0 = true ∧ noL d = true ∧
  d.depth ≤ n ∧ n ≤ 50 ∧ Mak H Q fun z _ => z = .bl true
end K1
namespace K1
open PySem PySem.Spec PyProof.Rows L2 Ow
/-! the bytes of data -/
def numB (n : Nat) : List Int := if n ≤ 127 then [(n : Int)] else (128 + (n : Int) % 128) :: numB (n / 128)
termination_by n
decreasing_by omega
theorem numB_small {n : Nat} (h : n ≤ 127) : numB n = [(n : Int)] := by rw [numB, if_pos h]
theorem numB_big {n : Nat} (h : ¬ n ≤ 127) : numB n = (128 + (n : Int) % 128) :: numB (n / 128) := by rw [numB, if_neg h]
theorem numB_len : ∀ (k n : Nat), n < 128 ^ k → (numB n).length ≤ k + 1
  | 0, n, h => by
    rw [numB_small (by simp at h; omega)]; simp
  | k + 1, n, h => by
    by_cases e : n ≤ 127
    · rw [numB_small e]; simp
    · rw [numB_big e, List.length_cons]
      have h2 : n / 128 < 128 ^ k := by
        rw [Nat.pow_succ] at h
        exact Nat.div_lt_of_lt_mul (by rw [Nat.mul_comm]; exact h)
      have := numB_len k (n / 128) h2
      omega
theorem numB_20 {n : Nat} (h : n < 2 ^ 140) : (numB n).length ≤ 21 := numB_len 20 n (by
  have : (128 : Nat) ^ 20 = 2 ^ 140 := by decide
  omega)
def cpB (z : Str) : List Int := z.cps.toList.map fun (c : Nat) => (c : Int)
theorem cpB_len (z : Str) : (cpB z).length = z.length := by
  unfold cpB
  rw [List.length_map, Array.length_toList]
  rfl
def strB (z : Str) : List Int := numB z.length ++ cpB z
def intB (i : Int) : List Int := (if i < 0 then 1 else 0) :: numB i.natAbs
def valB : V → List Int
  | .int i => 0 :: intB i
  | .str z => 1 :: strB z
  | _ => []
def listB (xs : List (List Int)) : List Int := numB xs.length ++ xs.flatten
def rowB (xs : List V) : List Int := listB (xs.map valB)
theorem strB_len {z : Str} (h : z.length ≤ 200) : (strB z).length ≤ 221 := by
  unfold strB
  rw [List.length_append, cpB_len]
  have := numB_20 (n := z.length) (Nat.lt_of_le_of_lt h (by decide))
  omega
theorem valB_len {v : V} (h : Scal v) : (valB v).length ≤ 222 := by
  rcases h with ⟨i, rfl, h⟩ | ⟨z, rfl, _, h⟩
  · unfold valB intB
    rw [List.length_cons, List.length_cons]
    have := numB_20 h
    omega
  · unfold valB
    rw [List.length_cons]
    have := strB_len h
    omega
theorem flat_len : ∀ {xs : List (List Int)} {b : Nat}, (∀ x ∈ xs, x.length ≤ b) → xs.flatten.length ≤ xs.length * b
  | [], _, _ => by simp
  | x :: xs, b, h => by
    have h1 := h x List.mem_cons_self
    have h2 := flat_len (xs := xs) (b := b) fun y m => h y (List.mem_cons_of_mem _ m)
    rw [List.flatten_cons, List.length_append, List.length_cons, Nat.succ_mul]
    omega
theorem listB_len {xs : List (List Int)} {b : Nat} (h : ∀ x ∈ xs, x.length ≤ b) (l : xs.length ≤ 1000) : (listB xs).length ≤ 21 + xs.length * b := by
  unfold listB
  rw [List.length_append]
  have := flat_len h
  have := numB_20 (n := xs.length) (Nat.lt_of_le_of_lt l (by decide))
  omega
theorem rowB_len {xs : List V} (h : ∀ x ∈ xs, Scal x) (l : xs.length ≤ 10) : (rowB xs).length ≤ 2300 := by
  have h1 := listB_len (xs := xs.map valB) (b := 222) (fun y m => by
    obtain ⟨x, mx, rfl⟩ := List.mem_map.mp m
    exact valB_len (h x mx)) (by rw [List.length_map]; omega)
  unfold rowB
  rw [List.length_map] at h1
  omega
/-! rows in sectors -/
structure Pk where
  S : List (List Int)
  cur : List Int
  cnt : Int
def pk0 : Pk := ⟨[], [], 0⟩
def pkS (p : Pk) (c : List Int) : Pk := if p.cur.length + c.length > 63 then ⟨p.S ++ [p.cnt :: p.cur], c, 1⟩ else ⟨p.S, p.cur ++ c, p.cnt + 1⟩
def pkAll (p : Pk) : List (List Int) := if p.cnt > 0 then p.S ++ [p.cnt :: p.cur] else p.S
def padS (s : List Int) : List Int := s ++ List.replicate (64 - s.length) 0
def pkF (cs : List (List Int)) : Pk := cs.foldl pkS pk0
def packO (cs : List (List Int)) : Option (List (List Int)) :=
  if cs.all (fun c => decide (c.length ≤ 63)) = true then some ((pkAll (pkF cs)).map padS) else none
structure PkOk (n : Nat) (p : Pk) : Prop where
  z : p.cnt = 0 → p.S = [] ∧ p.cur = []
  nn : 0 ≤ p.cnt
  l : p.S.length + (if p.cnt > 0 then 1 else 0) ≤ n
  c : p.cur.length ≤ 63
  s : ∀ x ∈ p.S, x.length ≤ 64 ∧ x ≠ []
theorem pk0_ok : PkOk 0 pk0 := ⟨fun _ => ⟨rfl, rfl⟩, Int.le_refl _, by simp [pk0], by simp [pk0], fun _ h => nomatch h⟩
theorem pkS_ok {n : Nat} {p : Pk} {c : List Int} (h : PkOk n p) (hc : c.length ≤ 63) : PkOk (n + 1) (pkS p c) := by
  have h1 := h.z; have h2 := h.nn; have h3 := h.l; have h4 := h.c; have h5 := h.s
  unfold pkS
  split
  · rename_i e
    have e0 : p.cnt ≠ 0 := fun z => by
      rw [(h1 z).2] at e
      simp at e
      omega
    have e1 : p.cnt > 0 := by omega
    rw [if_pos e1] at h3
    refine ⟨fun z => ?_, ?_, ?_, hc, fun x m => ?_⟩
    · have z' : (1 : Int) = 0 := z
      omega
    · show (0 : Int) ≤ 1
      decide
    · show (p.S ++ [p.cnt :: p.cur]).length + (if (1 : Int) > 0 then 1 else 0) ≤ n + 1
      rw [List.length_append, if_pos (by decide)]
      simp
      omega
    · rcases List.mem_append.mp m with m | m
      · exact h5 x m
      · rw [List.mem_singleton.mp m, List.length_cons]
        exact ⟨by omega, by simp⟩
  · rename_i e
    refine ⟨fun z => ?_, ?_, ?_, ?_, h5⟩
    · have z' : p.cnt + 1 = 0 := z
      omega
    · show 0 ≤ p.cnt + 1
      omega
    · show p.S.length + (if p.cnt + 1 > 0 then 1 else 0) ≤ n + 1
      rw [if_pos (by omega)]
      split at h3
      · omega
      · have z : p.cnt = 0 := by omega
        rw [(h1 z).1]
        simp
    · show (p.cur ++ c).length ≤ 63
      rw [List.length_append]
      omega
theorem pkF_ok : ∀ (cs : List (List Int)) (n : Nat) (p : Pk), PkOk n p → (∀ c ∈ cs, c.length ≤ 63) → PkOk (n + cs.length) (cs.foldl pkS p)
  | [], n, p, h, _ => h
  | c :: cs, n, p, h, hc => by
    have := pkF_ok cs (n + 1) (pkS p c) (pkS_ok h (hc c List.mem_cons_self)) fun x m => hc x (List.mem_cons_of_mem _ m)
    rw [List.foldl_cons, List.length_cons, Nat.add_comm cs.length 1, ← Nat.add_assoc]
    exact this
/-! the bucket -/
def buk (bs : List Int) : Int := bs.foldl (fun h b => 31 * h + b + 1) 0
theorem buk_mod (m : Int) : ∀ (bs : List Int) (h g : Int), g = h % m → bs.foldl (fun g b => (31 * g + b + 1) % m) g = (bs.foldl (fun h b => 31 * h + b + 1) h) % m
  | [], h, g, e => e
  | b :: bs, h, g, e => by
    rw [List.foldl_cons, List.foldl_cons]
    refine buk_mod m bs _ _ ?_
    rw [e]
    have h1 : 31 * (h % m) + b + 1 = 31 * (h % m) + (b + 1) := by omega
    have h2 : 31 * h + b + 1 = 31 * h + (b + 1) := by omega
    rw [h1, h2, Int.add_emod, Int.mul_emod, Int.emod_emod_of_dvd _ (Int.dvd_refl m), ← Int.mul_emod, ← Int.add_emod]
end K1
namespace K1
open PySem PySem.Spec PyProof.Rows L2 Ow
/-! tuples whose object is known: their making, slices and methods -/
def tTupF (t : TA) : TE := fun σ H Q => t σ H fun xs H1 => xs.length ≤ sizeLine ∧ ∀ p o, H1 p = none → o.dict = none → o.cls = .type "tuple" → Q (.ref p) (upd H1 p (.frz o (.tup xs)))
theorem pe_tupF {X : Cx} {es : List Expr} {t : TA} {pos : Pos} {x1} (h : PA X es t) : PE X (.Tuple es x1 pos) (tTupF t) := by
  refine ⟨fun pins s σ H Q I hq => ?_⟩
  refine wpAny_Tuple_spliced (thn (h.run pos pins s σ H _ I hq) fun us s1 ⟨xs, H1, I1, r, z, q⟩ => ⟨by rw [← r.length]; exact z, ?_⟩)
  have hf : H1 s1.heap.objs.size = none := I1.hok.fresh (Nat.le_refl _)
  refine ⟨.ref s1.heap.objs.size, upd H1 s1.heap.objs.size (.frz { cls := .type "tuple", data := .seq us.toArray } (.tup xs)), I1.laid (t' := s1.toks) (fun b u e => Heap.get?_push_of_some _ e) (Nat.le_refl _) ?_, rfl, q _ _ hf rfl rfl⟩
  exact ⟨Heap.get?_push_size _ rfl, z, us, r, ⟨_, Heap.get?_push_size _ rfl, rfl, _, rfl⟩⟩
def rSlF : V → Option Int → Option Int → Hp → VK → Prop := fun x lo hi H Q => ∃ a xs, x = .ref a ∧ FT H a xs ∧ ∀ c H', FT H' c (cutV xs lo hi) → Same H H' → Q (.ref c) H'
theorem sl_tupF {X : Cx} : SlR X rSlF := by
  intro pins s σ H x v vl vu lo hi sl Q I rx hs pl pu h
  obtain ⟨a, xs, rfl, hx, q⟩ := h
  cases rx
  obtain ⟨its, r, ht, hz⟩ := I.tuple (hx.sq (K := X.K))
  have hlen : its.toArray.size = xs.length := by rw [List.size_toArray]; exact r.length.symm
  refine ⟨"tuple", _, PyProof.Rows.slot_tuple_getitem.lookup, ht.typeIs, ?_⟩
  by_cases hw : HT.sIx xs.length 0 lo = 0 ∧ HT.sIx xs.length xs.length hi = xs.length
  · have e : cutV xs lo hi = xs := by
      unfold cutV
      rw [hw.1, hw.2, List.drop_zero, Nat.sub_zero, List.take_length]
    exact getItem_tuple_whole ht hs pl pu (by rw [hlen]; exact hw) ⟨.ref a, H, I, rfl, q a H (by rw [e]; exact hx) (Same.refl _)⟩
  · refine HT.getItem_tuple_cut ht hs pl pu (by rw [hlen]; exact hw) ?_ (by rw [hlen]; exact hz)
    rw [hlen]
    have hf := I.hok.fresh (Nat.le_refl s.heap.objs.size)
    refine ⟨.ref s.heap.objs.size, _, I.laid (t' := s.toks) (o := .frz { cls := .type "tuple", data := .seq ((its.toArray.toList.drop (HT.sIx xs.length 0 lo)).take (HT.sIx xs.length xs.length hi - HT.sIx xs.length 0 lo)).toArray } (.tup (cutV xs lo hi))) (fun b ob q => Heap.get?_push_of_some _ q) (Nat.le_refl _) ?_, rfl, q _ _ ⟨_, upd_same, ?_, ?_⟩ (Same.new hf)⟩
    · exact ⟨Heap.get?_push_size _ rfl, Nat.le_trans (cutV_length xs lo hi) hz, _, (r.drop (HT.sIx xs.length 0 lo)).take (HT.sIx xs.length xs.length hi - HT.sIx xs.length 0 lo), IsTup.new _ _⟩
    · rfl
    · rfl
def tBMT (r : V → List V → Hp → VK → Prop) (to : TE) (t : TA) : TE := fun σ H Q => to σ H fun x H1 => (∃ p ys, x = .ref p ∧ FT H1 p ys) ∧ t σ H1 fun xs H2 => r x xs H2 Q
theorem pe_bmT {X : Cx} {o e : Expr} {es : List Expr} {to : TE} {t : TA} {name : Str} {apos cpos : Pos} {id : String} {r : V → List V → Hp → VK → Prop}
    (pa : PlainAttrs "tuple") (slot : Slot "tuple" name id) (hty : typeOf (.builtin id) = pure (.type "method_descriptor")) (hm : MtR X id r) (ho : PE X o to) (ha : PA X (e :: es) t)
    (hbase : attributeBase o name X.env (eval o X.env) = eval o X.env := by rfl)
    (hfew : ((backTo cpos (starEach (e :: es) X.env)).all (fun x => !x.1) && (backToKw cpos (keywordEach [] X.env)).all (fun x => x.1.isSome)
      && decide ((e :: es).length + ([] : List Keyword).length + (if ([] : List Keyword).isEmpty then 0 else 1) < 30)) = true := by rfl)
    (hline : (apos.endLine == cpos.line) = true := by rfl) (hs : starEach (e :: es) X.env = (false, eval e X.env) :: starEach es X.env := by rfl) (hplain : (backTo cpos (starEach es X.env)).any (·.1) = false := by rfl) :
    PE X (.Call (.Attribute o name apos) (e :: es) [] cpos) (tBMT r to t) := by
  refine ⟨fun pins s σ H Q I h => ?_⟩
  refine wpAny_Call_method_late hbase hfew hline rfl (thn (ho.run pins s σ H _ I h) fun v s1 ⟨x, H1, I1, r1, ty, q1⟩ => ?_)
  obtain ⟨p, ys, ex, ob, hp, hd, hc⟩ := ty
  subst ex
  cases r1
  have hg := (I1.hok p _ hp).1
  refine ⟨"tuple", id, pa, slot, hty, ⟨ob, hg, hc⟩, (fun a e2 => ?_), ?_⟩
  · cases e2
    exact ⟨ob, hg, hd⟩
  have hA := ha.run cpos pins s1 σ H1 _ I1 q1
  rw [hs] at hA ⊢
  refine Calls.callWith_builtin (by show (false || (backTo cpos (starEach es X.env)).any (·.1)) = false; rw [hplain] <;> rfl) (Calls.evalArgs_plain ?_)
  exact thn hA fun us s2 ⟨vs, H2, I2, r2, q2⟩ => hm pins s2 σ H2 (.ref p) vs _ us Q I2 rfl r2 q2
def rTupIx (K : PySem.W.Frag) : V → List V → Hp → VK → Prop := fun x xs H Q => ∃ p, ∃ ys : List Str, ∃ z j, x = .ref p ∧ xs = [.str z] ∧ SqT K H p (ys.map V.str) ∧ ys[j]? = some z ∧ (∀ m, m < j → ys[m]? ≠ some z) ∧ Q (.int (j : Nat)) H
theorem mt_tup_ix_K {X : Cx} {K : PySem.W.Frag} (e : X.K = K) : MtR X "tuple.index" (rTupIx K) := by
  subst e
  exact mt_tup_index
end K1
namespace K1
open PySem PySem.Spec PyProof.Rows L2 Ow
abbrev s_law_first : Stmt := topS 44
abbrev N_law_first : List Str := ["one", "other"]
theorem sc_law_first : FnScope N_law_first ["one", "other"] (defScope s_law_first) := ⟨rfl, rfl, rfl, by decide +kernel, rfl, by decide +kernel, by decide +kernel⟩
section
variable {P : Program} {w : World} {K : PySem.W.Frag} {mg : Str → Option Value} {base : Heap}
theorem ok_first {f : Addr} {fd : FuncData} (F : Fun K "_law_first" "_law_first" s_law_first f fd) (T : Bl mg) :
    FnOk P w K mg base CX0 1 f fd ["one", "other"] spFirst := by
  refine F.ok sc_law_first (fun vs H Q E h => ?_) (fun cdv A outer s H vs Q E hr h => ?_)
  · obtain ⟨a, b, rfl, _⟩ := h
    rfl
  · obtain ⟨a, b, rfl, sa, sb, q⟩ := h
    refine ⟨_, (pss_cons (ps_if (pt_cmpR op_ne (pe_callB call_isi (by rfl) T.isinstance (by decide +kernel) (pa_cons (pv 0) (pa_cons (pe_ty "int" (by rfl) T.int (by decide +kernel)) pa_nil))) (pe_callB call_isi (by rfl) T.isinstance (by decide +kernel) (pa_cons (pv 1) (pa_cons (pe_ty "int" (by rfl) T.int (by decide +kernel)) pa_nil))) (nomark _)) (pss_one (ps_ret (pe_callB call_isi (by rfl) T.isinstance (by decide +kernel) (pa_cons (pv 0) (pa_cons (pe_ty "int" (by rfl) T.int (by decide +kernel)) pa_nil))))) pss_nil)
      (pss_one (ps_ret (pe_cmpR (op_lt.or op_lt_str) (pv 0) (pv 1) (nomark _))))), ?_⟩
    rcases sa with ⟨i, rfl, _⟩ | ⟨x, rfl, _⟩
    · rcases sb with ⟨j, rfl, _⟩ | ⟨y, rfl, _⟩
      · refine ⟨_, rfl, _, _, .type "int", .type "int", true, rfl, .ty _, .base (.int i), kit_ty (by decide +kernel), ?_⟩
        refine ⟨_, rfl, _, _, .type "int", .type "int", true, rfl, .ty _, .base (.int j), kit_ty (by decide +kernel), ?_⟩
        refine ⟨rfl, _, rfl, ite2 (fun e => absurd e (by decide)) (fun _ => ?_)⟩
        exact ⟨_, rfl, _, rfl, .inl ⟨i, j, rfl, rfl, q⟩⟩
      · refine ⟨_, rfl, _, _, .type "int", .type "int", true, rfl, .ty _, .base (.int i), kit_ty (by decide +kernel), ?_⟩
        refine ⟨_, rfl, _, _, .type "str", .type "int", false, rfl, .ty _, .base (.str y), kit_ty (by decide +kernel), ?_⟩
        refine ⟨rfl, _, rfl, ite2 (fun _ => ?_) (fun e => absurd (by decide) e)⟩
        refine ⟨_, rfl, _, _, .type "int", .type "int", true, rfl, .ty _, .base (.int i), kit_ty (by decide +kernel), ?_⟩
        exact q
    · rcases sb with ⟨j, rfl, _⟩ | ⟨y, rfl, _⟩
      · refine ⟨_, rfl, _, _, .type "str", .type "int", false, rfl, .ty _, .base (.str x), kit_ty (by decide +kernel), ?_⟩
        refine ⟨_, rfl, _, _, .type "int", .type "int", true, rfl, .ty _, .base (.int j), kit_ty (by decide +kernel), ?_⟩
        refine ⟨rfl, _, rfl, ite2 (fun _ => ?_) (fun e => absurd (by decide) e)⟩
        refine ⟨_, rfl, _, _, .type "str", .type "int", false, rfl, .ty _, .base (.str x), kit_ty (by decide +kernel), ?_⟩
        exact q
      · refine ⟨_, rfl, _, _, .type "str", .type "int", false, rfl, .ty _, .base (.str x), kit_ty (by decide +kernel), ?_⟩
        refine ⟨_, rfl, _, _, .type "str", .type "int", false, rfl, .ty _, .base (.str y), kit_ty (by decide +kernel), ?_⟩
        refine ⟨rfl, _, rfl, ite2 (fun e => absurd e (by decide)) (fun _ => ?_)⟩
        exact ⟨_, rfl, _, rfl, .inr ⟨x, y, rfl, rfl, q⟩⟩
end
end K1
namespace K1
open PySem PySem.Spec PyProof.Rows L2 Ow
abbrev s_law_order : Stmt := topS 45
abbrev N_law_order : List Str := ["first", "second", "k"]
theorem sc_law_order : FnScope N_law_order ["first", "second"] (defScope s_law_order) := ⟨rfl, rfl, rfl, by decide +kernel, rfl, by decide +kernel, by decide +kernel⟩
theorem order_end : ∀ xs ys : List V, (xs = [] ∨ ys = []) →
    orderV xs ys = (if decide (ys.length < xs.length) = true then 1 else 0) - (if decide (xs.length < ys.length) = true then 1 else 0)
  | [], [], _ => rfl
  | [], y :: ys, _ => by simp [orderV]
  | x :: xs, [], _ => by simp [orderV]
  | x :: xs, y :: ys, h => by simp at h
section
variable {P : Program} {w : World} {K : PySem.W.Frag} {mg : Str → Option Value} {base : Heap}
theorem ok_order {f : Addr} {fd : FuncData} (F : Fun K "_law_order" "_law_order" s_law_order f fd) (T : Bl mg)
    (D_law_first : Kn P w K mg base 1 "_law_first" ["one", "other"] spFirst) :
    FnOk P w K mg base CX0 2 f fd ["first", "second"] (spOrder K) := by
  refine F.ok sc_law_order (fun vs H Q E h => ?_) (fun cdv A outer s H vs Q E hr h => ?_)
  · obtain ⟨a, b, xs, ys, rfl, _⟩ := h
    rfl
  · obtain ⟨a, b, xs, ys, rfl, hx, hy, bx, sx, sy, q⟩ := h
    refine ⟨_, (pss_cons (ps_for PassesOwn.never rfl (pi_range1 (by rfl) T.range (pa_cons (pe_callB (call_min2 rfl) (by rfl) T.min (by decide +kernel) (pa_cons (pe_callB call_len_seq (by rfl) T.len PySem.boot_len (pa_cons (pv 0) pa_nil)) (pa_cons (pe_callB call_len_seq (by rfl) T.len PySem.boot_len (pa_cons (pv 1) pa_nil)) pa_nil))) pa_nil)) (pg_name (i := 2) sc_law_order.nd rfl (.inl rfl)) (pss_cons (ps_if (pt_val (pe_kn D_law_first hr (pa_cons (pe_ix ix_tup (pv 0) (pv 2) (fun _ _ => rfl)) (pa_cons (pe_ix ix_tup (pv 1) (pv 2) (fun _ _ => rfl)) pa_nil)))) (pss_one (ps_ret (pe_un un_neg pe_int))) pss_nil)
      (pss_one (ps_if (pt_val (pe_kn D_law_first hr (pa_cons (pe_ix ix_tup (pv 1) (pv 2) (fun _ _ => rfl)) (pa_cons (pe_ix ix_tup (pv 0) (pv 2) (fun _ _ => rfl)) pa_nil)))) (pss_one (ps_ret pe_int)) pss_nil))))
      (pss_one (ps_ret (pe_op op_sub (pe_callTy call_int1 (by rfl) T.int (by decide +kernel) (pa_cons (pe_cmpR op_gt (pe_callB call_len_seq (by rfl) T.len PySem.boot_len (pa_cons (pv 0) pa_nil)) (pe_callB call_len_seq (by rfl) T.len PySem.boot_len (pa_cons (pv 1) pa_nil)) (nomark _)) pa_nil)) (pe_callTy call_int1 (by rfl) T.int (by decide +kernel) (pa_cons (pe_cmpR op_lt (pe_callB call_len_seq (by rfl) T.len PySem.boot_len (pa_cons (pv 0) pa_nil)) (pe_callB call_len_seq (by rfl) T.len PySem.boot_len (pa_cons (pv 1) pa_nil)) (nomark _)) pa_nil)))))), ?_⟩
    have em : (if (ys.length : Int) < (xs.length : Int) then (ys.length : Int) else (xs.length : Int)) = ((min xs.length ys.length : Nat) : Int) := by
      split <;> omega
    have hmin : min xs.length ys.length ≤ xs.length := Nat.min_le_left _ _
    refine ⟨_, rfl, a, xs, rfl, .inr hx, _, rfl, b, ys, rfl, .inr hy, (xs.length : Int), (ys.length : Int), rfl, ((min xs.length ys.length : Nat) : Int), by rw [em], by omega, by omega,
      for_range (lo := 0) (n := ((min xs.length ys.length : Nat) : Int).toNat) (fun i σ H3 => ∃ y2 : Option V, σ = [some (.ref a), some (.ref b), y2] ∧ H3 = H ∧
        orderV xs ys = orderV (xs.drop i) (ys.drop i)) ⟨none, rfl, rfl, rfl⟩ (fun i σ H3 hi hP => ?_) (fun σ H3 hP => ?_)⟩
    · obtain ⟨y2, rfl, rfl, eo⟩ := hP
      have h1 : i < xs.length := by omega
      have h2 : i < ys.length := by omega
      rw [List.drop_eq_getElem_cons h1, List.drop_eq_getElem_cons h2] at eo
      have ex := at_of (xs := xs) (z := 0 + (i : Int)) (j := i) (by omega) (List.getElem?_eq_getElem h1)
      have ey := at_of (xs := ys) (z := 0 + (i : Int)) (j := i) (by omega) (List.getElem?_eq_getElem h2)
      have s1 := sx _ (List.getElem_mem h1)
      have s2 := sy _ (List.getElem_mem h2)
      refine ⟨_, rfl, _, rfl, a, xs, _, xs[i], rfl, rfl, hx, ex, _, rfl, _, rfl, b, ys, _, ys[i], rfl, rfl, hy, ey, xs[i], ys[i], rfl, s1, s2, _, rfl, ite2 (fun e => ?_) (fun e => ?_)⟩
      · refine ⟨1, rfl, ?_⟩
        have z : orderV xs ys = -1 := by
          rw [eo]
          unfold orderV
          rw [if_pos e]
        rw [z] at q
        exact q
      · refine ⟨_, rfl, _, rfl, b, ys, _, ys[i], rfl, rfl, hy, ey, _, rfl, _, rfl, a, xs, _, xs[i], rfl, rfl, hx, ex, ys[i], xs[i], rfl, s2, s1, _, rfl, ite2 (fun e2 => ?_) (fun e2 => ?_)⟩
        · have z : orderV xs ys = 1 := by
            rw [eo]
            unfold orderV
            rw [if_neg e, if_pos e2]
          rw [z] at q
          exact q
        · refine ⟨_, rfl, rfl, ?_⟩
          rw [eo]
          conv => lhs; unfold orderV
          rw [if_neg e, if_neg e2]
    · obtain ⟨y2, rfl, rfl, eo⟩ := hP
      have eo' : orderV xs ys = orderV (xs.drop (min xs.length ys.length)) (ys.drop (min xs.length ys.length)) := eo
      refine ⟨_, rfl, a, xs, rfl, .inr hx, _, rfl, b, ys, rfl, .inr hy, _, _, rfl, rfl, .inr ⟨_, rfl, _, rfl, a, xs, rfl, .inr hx, _, rfl, b, ys, rfl, .inr hy, _, _, rfl, rfl, .inr ⟨_, rfl, _, _, rfl, rfl, ?_⟩⟩⟩
      have eE := order_end (xs.drop (min xs.length ys.length)) (ys.drop (min xs.length ys.length)) (by
        by_cases h : xs.length ≤ ys.length
        · left; exact List.drop_of_length_le (by omega)
        · right; exact List.drop_of_length_le (by omega))
      have e1 : decide ((ys.drop (min xs.length ys.length)).length < (xs.drop (min xs.length ys.length)).length) = decide ((ys.length : Int) < (xs.length : Int)) := by
        rw [List.length_drop, List.length_drop]
        apply decide_eq_decide.mpr
        omega
      have e2 : decide ((xs.drop (min xs.length ys.length)).length < (ys.drop (min xs.length ys.length)).length) = decide ((xs.length : Int) < (ys.length : Int)) := by
        rw [List.length_drop, List.length_drop]
        apply decide_eq_decide.mpr
        omega
      rw [e1, e2] at eE
      rw [eo'.trans eE] at q
      exact q
end
end K1
namespace K1
open PySem PySem.Spec PyProof.Rows L2 Ow Tlz
abbrev svalue_key : Stmt := topS 5
abbrev Nvalue_key : List Str := ["value"]
theorem scvalue_key : FnScope Nvalue_key ["value"] (defScope svalue_key) := ⟨rfl, rfl, rfl, by decide +kernel, rfl, by decide +kernel, by decide +kernel⟩
abbrev srow_key : Stmt := topS 6
abbrev Nrow_key : List Str := ["row", "value"]
theorem scrow_key : FnScope Nrow_key ["row"] (defScope srow_key) := ⟨rfl, rfl, rfl, by decide +kernel, rfl, by decide +kernel, by decide +kernel⟩
section
variable {P : Program} {w : World} {K : PySem.W.Frag} {mg : Str → Option Value} {base : Heap}
theorem ok_vkey {f : Addr} {fd : FuncData} (F : Fun K "value_key" "value_key" svalue_key f fd) (T : Bl mg) :
    FnOk P w K mg base CX0 1 f fd ["value"] (spVKey K) := by
  refine F.ok scvalue_key (fun vs H Q E h => ?_) (fun cdv A outer s H vs Q E hr h => ?_)
  · obtain ⟨x, rfl, _⟩ := h
    rfl
  · obtain ⟨x, rfl, sx, q⟩ := h
    refine ⟨_, (pss_cons (ps_if (pt_val (pe_callB call_isi (by rfl) T.isinstance (by decide +kernel) (pa_cons (pv 0) (pa_cons (pe_ty "str" (by rfl) T.str (by decide +kernel)) pa_nil)))) (pss_one (ps_ret (pe_tup (pa_cons pe_int (pa_cons (pv 0) pa_nil))))) pss_nil)
      (pss_one (ps_ret (pe_tup (pa_cons pe_int (pa_cons (pv 0) pa_nil)))))), ?_⟩
    rcases sx with ⟨i, rfl, _⟩ | ⟨z, rfl, _⟩
    · refine ⟨_, rfl, _, _, .type "int", .type "str", false, rfl, .ty _, .base (.int i), kit_ty (by decide +kernel), ?_⟩
      refine ⟨_, rfl, iteF ?_⟩
      refine ⟨_, rfl, sz 2, fun t nt => q _ _ ?_ (Same.new nt)⟩
      exact .tup (SqT.of upd_same) (.cons (.int 0) (.cons (.int i) .nil))
    · refine ⟨_, rfl, _, _, .type "str", .type "str", true, rfl, .ty _, .base (.str z), kit_ty (by decide +kernel), ?_⟩
      refine ⟨_, rfl, iteT ?_⟩
      refine ⟨_, rfl, sz 2, fun t nt => q _ _ ?_ (Same.new nt)⟩
      exact .tup (SqT.of upd_same) (.cons (.int 1) (.cons (.str z) .nil))
theorem ok_rkey {f : Addr} {fd : FuncData} (F : Fun K "row_key" "row_key" srow_key f fd) (T : Bl mg)
    (Dvalue_key : Kn P w K mg base 1 "value_key" ["value"] (spVKey K)) :
    FnOk P w K mg base CX0 2 f fd ["row"] (spRKey K) := by
  refine F.ok scrow_key (fun vs H Q E h => ?_) (fun cdv A outer s H vs Q E hr h => ?_)
  · obtain ⟨a, xs, rfl, _⟩ := h
    rfl
  · obtain ⟨a, xs, rfl, hx, sx, lx, q⟩ := h
    refine ⟨_, (pss_one (ps_ret (pe_callTy call_tuple_of (by rfl) T.tuple (by decide +kernel) (pa_cons (pe_lc (own := [("value", 1)]) (g := gName 1) rfl scrow_key.nd (pi_tup (pv 0)) (blkOk_by (own := [("value", 1)]) (N := Nrow_key) (sc := defScope srow_key) (by decide +kernel)) (fun _ _ _ _ _ => pg_name (i := 1) scrow_key.nd rfl (Or.inl rfl)) (fun _ _ _ _ _ => pts_nil) (fun _ _ _ _ _ => (pe_kn Dvalue_key hr (pa_cons (pv 1) pa_nil)))) pa_nil)))), ?_⟩
    refine ⟨_, rfl, a, rfl, ⟨_, hx⟩, fun D nD => lc_tup (K := K) (a := a) (xs := xs) (fun i H4 => ∃ ks : List V, H4 D = some (.lst ks) ∧ ks.length = i ∧ Same H H4 ∧
      DpAll K H4 ks ((xs.take i).map vkD)) ⟨[], upd_same, rfl, Same.new nD, .nil⟩ (fun i H4 hi hP => ?_) (fun i x H4 hi hP => ?_) (fun H4 hP => ?_)⟩
    · obtain ⟨ks, _, _, sm, _⟩ := hP
      exact Tk.same sm _ _ hx
    · obtain ⟨ks, eD, lk, sm, da⟩ := hP
      refine ⟨rfl, ?_⟩
      refine ⟨_, rfl, x, rfl, sx x (List.mem_of_getElem? hi), ?_⟩
      intro y H5 dy s5
      have hl : i < xs.length := (List.getElem?_eq_some_iff.mp hi).1
      have t5 : Tk K H4 H5 := Tk.same s5
      have eD5 := s5 _ _ eD
      refine ⟨ks, eD5, small (m := 1000) (by omega) (by decide), ks ++ [y], upd_same, by rw [List.length_append, lk]; rfl, Same.over (sm.trans s5) nD, ?_⟩
      have t6 : Tk K H5 (upd H5 D (.lst (ks ++ [y]))) := Tk.put eD5
      rw [List.take_add_one, hi]
      rw [List.map_append]
      exact DpAll.snoc (DpAll.tk (t5.trans t6) _ _ (noLs_vk _) da) (Dp.tk t6 _ _ (noL_vk x) dy)
    · obtain ⟨ks, eD, lk, sm, da⟩ := hP
      rw [List.take_length] at da
      refine ⟨D, ks, rfl, .inl ⟨SqL.of eD, fun l nl => q _ _ ?_ (sm.trans (Same.new nl))⟩⟩
      exact .tup (SqT.of upd_same) (DpAll.tk (Tk.same (Same.new nl)) _ _ (noLs_vk _) da)
end
end K1
namespace K1
open PySem PySem.Spec PyProof.Rows L2 Ow
abbrev s_law_mix : Stmt := topS 36
abbrev N_law_mix : List Str := ["cell", "k", "value"]
theorem sc_law_mix : FnScope N_law_mix ["cell", "k"] (defScope s_law_mix) := ⟨rfl, rfl, rfl, by decide +kernel, rfl, by decide +kernel, by decide +kernel⟩
section
variable {P : Program} {w : World} {K : PySem.W.Frag} {mg : Str → Option Value} {base : Heap}
theorem ok_mix {f : Addr} {fd : FuncData} (F : Fun K "_law_mix" "_law_mix" s_law_mix f fd) (T : Bl mg) :
    FnOk P w K mg base CX0 1 f fd ["cell", "k"] spMix := by
  refine F.ok sc_law_mix (fun vs H Q E h => ?_) (fun cdv A outer s H vs Q E hr h => ?_)
  · obtain ⟨c, k, rfl, _⟩ := h
    rfl
  · obtain ⟨c, k, rfl, q⟩ := h
    refine ⟨_, (pss_cons (ps_set (i := 2) sc_law_mix.nd rfl (.inl rfl) (pe_op op_mod (pe_callTy call_int1 (by rfl) T.int (by decide +kernel) (pa_cons (pe_op op_add (pe_op op_add (pe_op op_mul (pe_callTy call_int1 (by rfl) T.int (by decide +kernel) (pa_cons (pv 0) pa_nil)) pe_int) (pe_op op_mul (pv 1) pe_int)) pe_int) pa_nil)) pe_int))
      (pss_cons (ps_set (i := 2) sc_law_mix.nd rfl (.inl rfl) (pe_op op_mod (pe_callTy call_int1 (by rfl) T.int (by decide +kernel) (pa_cons (pe_op op_add (pe_op op_add (pe_op op_mul (pv 2) (pv 2)) (pe_op op_mul (pv 1) pe_int)) pe_int) pa_nil)) pe_int))
      (pss_one (ps_ret (pe_op op_mod (pe_op op_fdiv (pv 2) pe_int) pe_int))))), ?_⟩
    refine ⟨_, rfl, .inl ⟨c, rfl, c, 48271, rfl, rfl, .inr ⟨by decide, by decide⟩, _, rfl, k, 69621, rfl, rfl,
      .inr ⟨by decide, by decide⟩, _, _, rfl, rfl, _, _, rfl, rfl, .inl ⟨_, rfl, _, 2147483647, rfl, rfl, (by show (0 : Int) < 2147483647; decide), ?_⟩⟩⟩
    refine ⟨_, rfl, _, rfl, _, _, rfl, rfl, .inl ⟨by omega, by omega⟩, _, rfl, k, 40692, rfl, rfl,
      .inr ⟨by decide, by decide⟩, _, _, rfl, rfl, _, _, rfl, rfl, .inl ⟨_, rfl, _, 2147483399, rfl, rfl, (by show (0 : Int) < 2147483399; decide), ?_⟩⟩
    refine ⟨_, rfl, _, 5, rfl, rfl, ⟨by decide, by decide⟩, _, 9973, rfl, rfl, (by show (0 : Int) < 9973; decide), ?_⟩
    exact q _ (Int.emod_nonneg _ (by decide)) (Int.emod_lt_of_pos _ (by decide))
end
end K1
namespace K1
open PySem PySem.Spec PyProof.Rows L2 Ow
abbrev s_law_at : Stmt := topS 38
abbrev N_law_at : List Str := ["draws", "index"]
theorem sc_law_at : FnScope N_law_at ["draws", "index"] (defScope s_law_at) := ⟨rfl, rfl, rfl, by decide +kernel, rfl, by decide +kernel, by decide +kernel⟩
section
variable {P : Program} {w : World} {K : PySem.W.Frag} {mg : Str → Option Value} {base : Heap}
theorem ok_at {f : Addr} {fd : FuncData} (F : Fun K "_law_at" "_law_at" s_law_at f fd) (T : Bl mg)
    (D_law_mix : Kn P w K mg base 1 "_law_mix" ["cell", "k"] spMix) :
    FnOk P w K mg base CX0 2 f fd ["draws", "index"] (spAt K) := by
  refine F.ok sc_law_at (fun vs H Q E h => ?_) (fun cdv A outer s H vs Q E hr h => ?_)
  · obtain ⟨d, ds, i, rfl, _⟩ := h
    rfl
  · obtain ⟨d, ds, i, rfl, hd, hi, q⟩ := h
    refine ⟨_, (pss_cons (ps_if (pt_cmpR op_lt (pv 1) (pe_callB call_len_seq (by rfl) T.len PySem.boot_len (pa_cons (pv 0) pa_nil)) (nomark _)) (pss_one (ps_ret (pe_ix ix_list (pv 0) (pv 1) (fun _ _ => rfl)))) pss_nil)
      (pss_cons (ps_if (pt_cmpR op_eq (pe_callB call_len_seq (by rfl) T.len PySem.boot_len (pa_cons (pv 0) pa_nil)) pe_int (nomark _)) (pss_one (ps_ret (pe_kn D_law_mix hr (pa_cons (pv 1) (pa_cons pe_int pa_nil))))) pss_nil)
      (pss_one (ps_ret (pe_kn D_law_mix hr (pa_cons (pe_op op_add (pe_ix ix_list (pv 0) (pe_op op_mod (pe_callTy call_int1 (by rfl) T.int (by decide +kernel) (pa_cons (pv 1) pa_nil)) (pe_callB call_len_seq (by rfl) T.len PySem.boot_len (pa_cons (pv 0) pa_nil))) (fun _ _ => rfl)) (pe_op op_mul (pv 1) pe_int)) (pa_cons (pv 1) pa_nil))))))), ?_⟩
    refine ⟨_, rfl, _, rfl, d, ds.map V.int, rfl, .inl hd, _, _, rfl, rfl, _, rfl, ite2 (fun e => ?_) (fun e => ?_)⟩
    · have e1 : i < ((ds.map V.int).length : Int) := of_decide_eq_true e
      rw [List.length_map] at e1
      have e2 : i.toNat < ds.length := by omega
      refine ⟨_, rfl, _, rfl, d, ds.map V.int, i, .int ds[i.toNat], rfl, rfl, hd, ?_, q _⟩
      exact at_of (j := i.toNat) (by omega) (by rw [List.getElem?_map, List.getElem?_eq_getElem e2]; rfl)
    · refine ⟨_, rfl, d, ds.map V.int, rfl, .inl hd, rfl, _, rfl, ite2 (fun e2 => ?_) (fun e2 => ?_)⟩
      · exact ⟨_, rfl, i, 77, rfl, fun v _ _ => q v⟩
      · have n0 : 0 < ds.length := by
          apply Nat.pos_of_ne_zero
          intro z
          apply e2
          apply decide_eq_true
          rw [List.length_map, z]
          rfl
        have m0 : 0 ≤ i % (ds.length : Int) := Int.emod_nonneg _ (by omega)
        have m1 : i % (ds.length : Int) < ds.length := Int.emod_lt_of_pos _ (by omega)
        have m2 : (i % (ds.length : Int)).toNat < ds.length := by omega
        refine ⟨_, rfl, _, rfl, .inl ⟨_, rfl, _, rfl, d, ds.map V.int, rfl, .inl hd, _, _, rfl, rfl, ?_, d, ds.map V.int, _,
          .int ds[(i % (ds.length : Int)).toNat], rfl, rfl, hd, ?_, _, rfl, i, 131, rfl, rfl, .inr ⟨by decide, by decide⟩, _, _, rfl, rfl, _, rfl, _, _, rfl, fun v _ _ => q v⟩⟩
        · show (0 : Int) < ((ds.map V.int).length : Int)
          rw [List.length_map]
          omega
        · rw [List.length_map]
          exact at_of (j := (i % (ds.length : Int)).toNat) (by omega) (by rw [List.getElem?_map, List.getElem?_eq_getElem m2]; rfl)
end
end K1
namespace K1
open PySem PySem.Spec PyProof.Rows L2 Ow
abbrev s_law_draws : Stmt := topS 37
abbrev N_law_draws : List Str := ["script", "draws", "k", "cell", "place"]
theorem sc_law_draws : FnScope N_law_draws ["script"] (defScope s_law_draws) := ⟨rfl, rfl, rfl, by decide +kernel, rfl, by decide +kernel, by decide +kernel⟩
section
variable {P : Program} {w : World} {K : PySem.W.Frag} {mg : Str → Option Value} {base : Heap}
theorem ok_draws {f : Addr} {fd : FuncData} (F : Fun K "_law_draws" "_law_draws" s_law_draws f fd) (T : Bl mg)
    (D_law_mix : Kn P w K mg base 1 "_law_mix" ["cell", "k"] spMix) :
    FnOk P w K mg base CX0 2 f fd ["script"] (spDraws K) := by
  refine F.ok sc_law_draws (fun vs H Q E h => ?_) (fun cdv A outer s H vs Q E hr h => ?_)
  · obtain ⟨a, ns, rfl, _⟩ := h
    rfl
  · obtain ⟨a, ns, rfl, hS, hlen, q⟩ := h
    refine ⟨_, (pss_cons (ps_set (i := 1) sc_law_draws.nd rfl (.inl rfl) (pe_lst pa_nil))
      (pss_cons (ps_for PassesOwn.never rfl (pi_range1 (by rfl) T.range (pa_cons (pe_callB (call_min2 rfl) (by rfl) T.min (by decide +kernel) (pa_cons pe_int (pa_cons (pe_callB call_len_seq (by rfl) T.len PySem.boot_len (pa_cons (pv 0) pa_nil)) pa_nil))) pa_nil)) (pg_name (i := 2) sc_law_draws.nd rfl (.inl rfl)) (pss_cons (ps_set (i := 3) sc_law_draws.nd rfl (.inl rfl) (pe_callTy call_int1 (by rfl) T.int (by decide +kernel) (pa_cons (pe_ix ix_list (pv 0) (pv 2) (fun _ _ => rfl)) pa_nil)))
      (pss_one (ps_if (pt_cmpR op_lt (pv 3) (pe_op op_pow pe_int pe_int) (nomark _)) (pss_one (ps_expr (pe_bm PySem.F.plainAttrs_list PySem.F.slot_list_append PySem.F.type_list_append mt_append (pv 1) (pa_cons (pe_kn D_law_mix hr (pa_cons (pv 3) (pa_cons (pv 2) pa_nil))) pa_nil)))) (pss_one (ps_for PassesOwn.never rfl (pi_range1 (by rfl) T.range (pa_cons pe_int pa_nil)) (pg_name (i := 4) sc_law_draws.nd rfl (.inl rfl)) (pss_one (ps_if (pt_cmpR op_gt (pv 3) pe_int (nomark _)) (pss_cons (ps_expr (pe_bm PySem.F.plainAttrs_list PySem.F.slot_list_append PySem.F.type_list_append mt_append (pv 1) (pa_cons (pe_op op_mod (pe_callTy call_int1 (by rfl) T.int (by decide +kernel) (pa_cons (pv 3) pa_nil)) pe_int) pa_nil)))
      (pss_one (ps_set (i := 3) sc_law_draws.nd rfl (.inl rfl) (pe_op op_fdiv (pv 3) pe_int)))) pss_nil))))))))
      (pss_one (ps_ret (pv 1))))), ?_⟩
    refine ⟨Nat.zero_le _, fun o no => ?_⟩
    have s1 : Same H (upd H o (.lst [])) := Same.new no
    have en : (if ((ns.map V.int).length : Int) < 63 then ((ns.map V.int).length : Int) else 63) = (ns.length : Int) := by
      rw [List.length_map]
      split <;> omega
    refine ⟨_, rfl, a, ns.map V.int, rfl, .inl (s1.seq hS), 63, ((ns.map V.int).length : Int), rfl, (ns.length : Int), by rw [en], by omega, by omega,
      for_range (lo := 0) (n := (ns.length : Int).toNat) (fun i σ H3 => ∃ (y2 y3 y4 : Option V) (ds : List Int), σ = [some (.ref a), some (.ref o), y2, y3, y4] ∧
        Same H H3 ∧ H3 o = some (.lst (ds.map V.int)) ∧ ds.length ≤ 60 * i) ⟨none, none, none, [], rfl, s1, upd_same, Nat.zero_le _⟩ (fun i σ H3 hi hP => ?_) (fun σ H3 hP => ?_)⟩
    · obtain ⟨y2, y3, y4, ds, rfl, sm, eo, hl⟩ := hP
      have hi' : i < ns.length := by omega
      have g : (ns.map V.int)[i]? = some (.int ns[i]) := by
        rw [List.getElem?_map, List.getElem?_eq_getElem hi']
        rfl
      refine ⟨_, rfl, _, rfl, a, ns.map V.int, _, .int ns[i], rfl, rfl, sm.seq hS, at_of (j := i) (by omega) g, .inl ⟨_, rfl, ?_⟩⟩
      refine ⟨_, rfl, 10, 18, rfl, rfl, ⟨by decide, by decide, by decide⟩, _, _, rfl, rfl, _, rfl, ite2 (fun e => ?_) (fun e => ?_)⟩
      · refine ⟨_, rfl, .inl ⟨rfl, _, .inl (.inl eo)⟩, _, rfl, _, rfl, _, _, rfl, fun v v0 v1 => ⟨o, ds.map V.int, .int v, rfl, rfl, eo, ?_, ?_⟩⟩
        · rw [List.length_map]
          exact small hl (by omega)
        · exact ⟨_, _, _, ds ++ [v], rfl, Same.over sm no, by rw [upd_same, List.map_append]; rfl, by rw [List.length_append]; show ds.length + 1 ≤ _; omega⟩
      · refine ⟨60, rfl, by decide, by decide, for_range (lo := 0) (n := (60 : Int).toNat) (fun j σ H4 => ∃ (c : Int) (y5 : Option V) (es : List Int), σ = [some (.ref a), some (.ref o), some (.int (0 + (i : Int))), some (.int c), y5] ∧
          Same H H4 ∧ H4 o = some (.lst (es.map V.int)) ∧ es.length ≤ 60 * i + j) ⟨ns[i], y4, ds, rfl, sm, eo, hl⟩ (fun j σ H4 hj hP => ?_) (fun σ H4 hP => ?_)⟩
        · obtain ⟨c, y5, es, rfl, sm4, eo4, hl4⟩ := hP
          have hj' : j < 60 := hj
          refine ⟨_, rfl, _, _, rfl, rfl, _, rfl, ite2 (fun e2 => ?_) (fun e2 => ?_)⟩
          · refine ⟨_, rfl, .inl ⟨rfl, _, .inl (.inl eo4)⟩, _, rfl, .inl ⟨c, rfl, c, 9973, rfl, rfl, (by show (0 : Int) < 9973; decide), o, es.map V.int, _, rfl, rfl, eo4, ?_, ?_⟩⟩
            · rw [List.length_map]
              exact small hl4 (by omega)
            · refine ⟨_, rfl, c, 9973, rfl, rfl, ⟨by decide, by decide⟩, ?_⟩
              exact ⟨c / 9973, _, es ++ [c % 9973], rfl, Same.over sm4 no, by rw [upd_same, List.map_append]; rfl, by rw [List.length_append]; show es.length + 1 ≤ _; omega⟩
          · exact ⟨c, _, es, rfl, sm4, eo4, by omega⟩
        · obtain ⟨c, y5, es, rfl, sm4, eo4, hl4⟩ := hP
          have hl5 : es.length ≤ 60 * i + 60 := hl4
          exact ⟨_, _, _, es, rfl, sm4, eo4, by omega⟩
    · obtain ⟨y2, y3, y4, ds, rfl, sm, eo, hl⟩ := hP
      exact ⟨_, rfl, q H3 o ds sm no eo⟩
end
end K1
namespace K1
open PySem PySem.Spec PyProof.Rows L2 Ow
abbrev s_law_next : Stmt := topS 41
abbrev N_law_next : List Str := ["state", "limit"]
theorem sc_law_next : FnScope N_law_next ["state", "limit"] (defScope s_law_next) := ⟨rfl, rfl, rfl, by decide +kernel, rfl, by decide +kernel, by decide +kernel⟩
section
variable {P : Program} {w : World} {K : PySem.W.Frag} {mg : Str → Option Value} {base : Heap}
theorem ok_next {f : Addr} {fd : FuncData} (F : Fun K "_law_next" "_law_next" s_law_next f fd) (T : Bl mg)
    (D_law_at : Kn P w K mg base 2 "_law_at" ["draws", "index"] (spAt K)) :
    FnOk P w K mg base CX0 3 f fd ["state", "limit"] spNext := by
  refine F.ok sc_law_next (fun vs H Q E h => ?_) (fun cdv A outer s H vs Q E hr h => ?_)
  · obtain ⟨p, d, l, rfl, _⟩ := h
    rfl
  · obtain ⟨p, d, l, rfl, hl, ⟨ds, k, hp, hk, hd⟩, q⟩ := h
    have nd := Rng.ne hp hd
    refine ⟨_, (pss_cons (ps_augS (pv 0) pe_int pget_list pe_int ip_add set_list)
      (pss_one (ps_ret (pe_op op_mod (pe_kn D_law_at hr (pa_cons (pe_ix ix_list (pv 0) pe_int (fun _ _ => rfl)) (pa_cons (pe_ix ix_list (pv 0) pe_int (fun _ _ => rfl)) pa_nil))) (pv 1))))), ?_⟩
    refine ⟨_, rfl, p, [.ref d, .int k], 1, .int k, rfl, rfl, SqL.of hp, rfl, k, 1, rfl, rfl, p, [.ref d, .int k], 1, 1, rfl, rfl, hp, rfl, ?_⟩
    have e1 : (upd H p (.lst [.ref d, .int (k + 1)])) d = some (.lst (ds.map V.int)) := by
      rw [upd_ne nd]
      exact hd
    refine ⟨_, rfl, p, [.ref d, .int (k + 1)], 0, .ref d, rfl, rfl, SqL.of upd_same, rfl, _, rfl, p, [.ref d, .int (k + 1)], 1, .int (k + 1), rfl, rfl, SqL.of upd_same, rfl,
      d, ds, k + 1, rfl, SqL.of e1, by omega, fun v => ⟨_, rfl, v, l, rfl, rfl, hl, ?_⟩⟩
    exact q _ _ ⟨_, rfl, Int.emod_nonneg _ (by omega), Int.emod_lt_of_pos _ hl⟩ Gw.put ⟨ds, k + 1, upd_same, by omega, e1⟩
end
end K1
namespace K1
open PySem PySem.Spec PyProof.Rows L2 Ow
abbrev s_law_text : Stmt := topS 42
abbrev N_law_text : List Str := ["state", "most", "chars", "start", "step", "k"]
theorem sc_law_text : FnScope N_law_text ["state", "most"] (defScope s_law_text) := ⟨rfl, rfl, rfl, by decide +kernel, rfl, by decide +kernel, by decide +kernel⟩
theorem join_len : ∀ (ys : List Str) (n : Nat), (∀ y ∈ ys, y.length ≤ 1) → ys.length ≤ n → (ys.map (·.length)).sum ≤ n
  | [], _, _, _ => Nat.zero_le _
  | y :: r, 0, _, h => by simp at h
  | y :: r, n + 1, h, hl => by
    have ih := join_len r n (fun z hz => h z (List.mem_cons_of_mem _ hz)) (by simpa using hl)
    have h1 := h y List.mem_cons_self
    rw [List.map_cons, List.sum_cons]
    omega
section
variable {P : Program} {w : World} {K : PySem.W.Frag} {mg : Str → Option Value} {base : Heap}
theorem ok_text {f : Addr} {fd : FuncData} (F : Fun K "_law_text" "_law_text" s_law_text f fd) (T : Bl mg)
    (D_law_next : Kn P w K mg base 3 "_law_next" ["state", "limit"] spNext) :
    FnOk P w K mg base CX0 4 f fd ["state", "most"] spText := by
  refine F.ok sc_law_text (fun vs H Q E h => ?_) (fun cdv A outer s H vs Q E hr h => ?_)
  · obtain ⟨p, d, m, rfl, _⟩ := h
    rfl
  · obtain ⟨p, d, m, rfl, hm, rg, q⟩ := h
    refine ⟨_, (pss_cons (ps_set (i := 2) sc_law_text.nd rfl (.inr rfl) pe_str)
      (pss_cons (ps_set (i := 3) sc_law_text.nd rfl (.inr rfl) (pe_kn D_law_next hr (pa_cons (pv 0) (pa_cons pe_int pa_nil))))
      (pss_cons (ps_set (i := 4) sc_law_text.nd rfl (.inr rfl) (pe_kn D_law_next hr (pa_cons (pv 0) (pa_cons pe_int pa_nil))))
      (pss_one (ps_ret (pe_join pe_str (pe_lc (own := [("k", 5)]) (g := gName 5) rfl sc_law_text.nd (pi_range1 (by rfl) T.range (pa_cons (pe_kn D_law_next hr (pa_cons (pv 0) (pa_cons (pe_op op_add (pv 1) pe_int) pa_nil))) pa_nil)) (blkOk_by (own := [("k", 5)]) (N := N_law_text) (sc := defScope s_law_text) (by decide +kernel)) (fun _ _ _ _ _ => pg_name (i := 5) sc_law_text.nd rfl (Or.inl rfl)) (fun _ _ _ _ _ => pts_nil) (fun _ _ _ _ _ => (pe_ix ix_str (pv 2) (pe_op op_mod (pe_op op_add (pv 3) (pe_op op_mul (pv 4) (pv 5))) pe_int) (fun _ _ => rfl)))))))))), ?_⟩
    refine ⟨_, rfl, p, d, 94, rfl, by decide, rg, ?_⟩
    rintro x1 H1 ⟨b, rfl, b0, b1⟩ gw1 rg1
    refine ⟨_, rfl, p, d, 94, rfl, by decide, rg1, ?_⟩
    rintro x2 H2 ⟨c, rfl, c0, c1⟩ gw2 rg2
    refine ⟨⟨_, rfl⟩, _, rfl, _, rfl, (m : Int), 1, rfl, rfl, p, d, (m : Int) + 1, rfl, by omega, rg2, ?_⟩
    rintro x3 H3 ⟨n, rfl, n0, n1⟩ gw3 rg3
    have gw : Gw p H H3 := (gw1.trans gw2).trans gw3
    refine ⟨n, rfl, by omega, by omega, fun D nD => lc_range (lo := 0) (n := n.toNat) (fun i H4 => ∃ ys : List Str, H4 D = some (.lst (ys.map V.str)) ∧
      ys.length = i ∧ (∀ y ∈ ys, y.length ≤ 1 ∧ Pr y) ∧ Gw p H H4 ∧ Rng d H4 p) ⟨[], upd_same, rfl, fun _ z => (nomatch z), Gw.over gw (gw.free nD (rg3.free nD).1), rg3.same (Same.new nD)⟩ (fun i H4 hi hP => ?_) (fun H4 hP => ?_)⟩
    · obtain ⟨ys, eD, ly, l1, gw4, rg4⟩ := hP
      refine ⟨rfl, ?_⟩
      refine ⟨_, rfl, _, rfl, _, rfl, _, rfl, c, _, rfl, rfl, .inl ⟨by omega, by omega⟩, _, _, rfl, rfl, _, 94, rfl, rfl, (by show (0 : Int) < 94; decide), ?_⟩
      obtain ⟨ch, hch, mch⟩ := at_in (xs := (PySem.Str.ofString " !\"#$&'()*+,-./0123456789:;<=>?@ABCDEFGHIJKLMNOPQRSTUVWXYZ[\\]^_`abcdefghijklmnopqrstuvwxyz{|}~").cps.toList)
        (v := (b + c * (0 + (i : Int))) % 94) (Int.emod_nonneg _ (by decide)) (by
          rw [show (PySem.Str.ofString " !\"#$&'()*+,-./0123456789:;<=>?@ABCDEFGHIJKLMNOPQRSTUVWXYZ[\\]^_`abcdefghijklmnopqrstuvwxyz{|}~").cps.toList.length = 94 by decide +kernel]
          exact Int.emod_lt_of_pos _ (by decide))
      refine ⟨_, _, ch, rfl, rfl, by decide +kernel, hch, ys.map V.str, eD, ?_, ?_⟩
      · rw [List.length_map]
        exact small (m := 1000) (by omega) (by decide)
      · refine ⟨ys ++ [⟨#[ch]⟩], by rw [upd_same, List.map_append]; rfl, by rw [List.length_append, ly]; rfl, fun y hy => ?_, ?_, ?_⟩
        · rcases List.mem_append.mp hy with h | h
          · exact l1 y h
          · rw [List.mem_singleton.mp h]
            refine ⟨Nat.le_refl _, fun z hz => ?_⟩
            have ez : z = ch := List.mem_singleton.mp hz
            rw [ez]
            exact (by decide +kernel : ∀ c ∈ (PySem.Str.ofString " !\"#$&'()*+,-./0123456789:;<=>?@ABCDEFGHIJKLMNOPQRSTUVWXYZ[\\]^_`abcdefghijklmnopqrstuvwxyz{|}~").cps.toList, 32 ≤ c ∧ c < 127 ∧ c ≠ 37) ch mch
        · exact Gw.over gw4 (gw.free nD (rg3.free nD).1)
        · exact rg4.upd (rg3.free nD)
    · obtain ⟨ys, eD, ly, l1, gw4, rg4⟩ := hP
      have hs : (ys.map (·.length)).sum ≤ m := join_len ys m (fun y hy => (l1 y hy).1) (by omega)
      refine ⟨_, D, ys, rfl, rfl, .inl (SqL.of eD), ?_, ?_⟩
      · show (ys.map (·.length)).sum + ys.length * 0 ≤ _
        omega
      · exact q _ _ ⟨_, rfl, Pr.join fun y hy => (l1 y hy).2, by rw [join_size]; exact hs⟩ gw4 rg4
end
end K1
namespace K1
open PySem PySem.Spec PyProof.Rows L2 Ow
abbrev s_law_value : Stmt := topS 43
abbrev N_law_value : List Str := ["state", "pick", "number", "k"]
theorem sc_law_value : FnScope N_law_value ["state"] (defScope s_law_value) := ⟨rfl, rfl, rfl, by decide +kernel, rfl, by decide +kernel, by decide +kernel⟩
section
variable {P : Program} {w : World} {K : PySem.W.Frag} {mg : Str → Option Value} {base : Heap}
theorem ok_value {f : Addr} {fd : FuncData} (F : Fun K "_law_value" "_law_value" s_law_value f fd) (T : Bl mg)
    (D_law_next : Kn P w K mg base 3 "_law_next" ["state", "limit"] spNext)
    (D_law_text : Kn P w K mg base 4 "_law_text" ["state", "most"] spText) :
    FnOk P w K mg base CX0 5 f fd ["state"] spValue := by
  refine F.ok sc_law_value (fun vs H Q E h => ?_) (fun cdv A outer s H vs Q E hr h => ?_)
  · obtain ⟨p, d, rfl, _⟩ := h
    rfl
  · obtain ⟨p, d, rfl, rg, q⟩ := h
    refine ⟨_, (pss_cons (ps_set (i := 1) sc_law_value.nd rfl (.inl rfl) (pe_kn D_law_next hr (pa_cons (pv 0) (pa_cons pe_int pa_nil))))
      (pss_cons (ps_if (pt_cmpR op_lt (pv 1) pe_int (nomark _)) (pss_one (ps_ret (pe_op op_sub (pe_kn D_law_next hr (pa_cons (pv 0) (pa_cons pe_int pa_nil))) pe_int))) pss_nil)
      (pss_cons (ps_if (pt_cmpR op_eq (pv 1) pe_int (nomark _)) (pss_cons (ps_set (i := 2) sc_law_value.nd rfl (.inl rfl) pe_int)
      (pss_cons (ps_for PassesOwn.never rfl (pi_range1 (by rfl) T.range (pa_cons (pe_op op_add pe_int (pe_kn D_law_next hr (pa_cons (pv 0) (pa_cons pe_int pa_nil)))) pa_nil)) (pg_name (i := 3) sc_law_value.nd rfl (.inl rfl)) (pss_one (ps_set (i := 2) sc_law_value.nd rfl (.inl rfl) (pe_op op_add (pe_op op_mul (pv 2) pe_int) (pe_kn D_law_next hr (pa_cons (pv 0) (pa_cons pe_int pa_nil)))))))
      (pss_one (ps_ret (pe_op op_mul (pv 2) (pe_ix ix_list (pe_lst (pa_cons pe_int (pa_cons (pe_un un_neg pe_int) pa_nil))) (pe_kn D_law_next hr (pa_cons (pv 0) (pa_cons pe_int pa_nil))) (fun _ _ => rfl))))))) pss_nil)
      (pss_cons (ps_if (pt_cmpR op_eq (pv 1) pe_int (nomark _)) (pss_one (ps_ret (pe_ix ix_list (pe_lst (pa_cons (pe_op op_sub (pe_op op_pow pe_int pe_int) pe_int) (pa_cons (pe_op op_sub pe_int (pe_op op_pow pe_int pe_int)) (pa_cons pe_int (pa_cons pe_int (pa_cons (pe_un un_neg pe_int) (pa_cons pe_int pa_nil))))))) (pe_kn D_law_next hr (pa_cons (pv 0) (pa_cons pe_int pa_nil))) (fun _ _ => rfl)))) pss_nil)
      (pss_cons (ps_if (pt_cmpR op_lt (pv 1) pe_int (nomark _)) (pss_one (ps_ret (pe_ix ix_list (pe_lst (pa_cons pe_str (pa_cons pe_str (pa_cons pe_str (pa_cons pe_str (pa_cons pe_str (pa_cons pe_str (pa_cons pe_str pa_nil)))))))) (pe_kn D_law_next hr (pa_cons (pv 0) (pa_cons pe_int pa_nil))) (fun _ _ => rfl)))) pss_nil)
      (pss_one (ps_ret (pe_kn D_law_text hr (pa_cons (pv 0) (pa_cons pe_int pa_nil)))))))))), ?_⟩
    refine ⟨_, rfl, p, d, 9, rfl, by decide, rg, ?_⟩
    rintro x1 H1 ⟨b, rfl, b0, b1⟩ gw1 rg1
    refine ⟨_, rfl, _, _, rfl, rfl, _, rfl, ite2 (fun e => ?_) (fun e => ?_)⟩
    · refine ⟨_, rfl, p, d, 5, rfl, by decide, rg1, ?_⟩
      rintro x2 H2 ⟨c, rfl, c0, c1⟩ gw2 rg2
      exact ⟨c, 2, rfl, rfl, q _ _ (.inl ⟨_, rfl, by omega⟩) (gw1.trans gw2) rg2⟩
    refine ⟨_, rfl, rfl, _, rfl, ite2 (fun e => ?_) (fun e => ?_)⟩
    · refine ⟨_, rfl, p, d, 7, rfl, by decide, rg1, ?_⟩
      rintro x2 H2 ⟨c, rfl, c0, c1⟩ gw2 rg2
      refine ⟨1, c, rfl, rfl, 1 + c, rfl, by omega, by omega, for_range (lo := 0) (n := (1 + c).toNat) (fun i σ H3 => ∃ (n : Int) (y3 : Option V),
        σ = [some (.ref p), some (.int b), some (.int n), y3] ∧ 0 ≤ n ∧ n < 9973 ^ i ∧ Gw p H H3 ∧ Rng d H3 p) ⟨0, none, rfl, by decide, by decide, gw1.trans gw2, rg2⟩ (fun i σ H3 hi hP => ?_) (fun σ H3 hP => ?_)⟩
      · obtain ⟨n, y3, rfl, n0, n1, gw3, rg3⟩ := hP
        refine ⟨_, rfl, n, 9973, rfl, rfl, .inr ⟨by decide, by decide⟩, _, rfl, p, d, 9973, rfl, by decide, rg3, ?_⟩
        rintro x4 H4 ⟨z, rfl, z0, z1⟩ gw4 rg4
        exact ⟨_, _, rfl, rfl, _, _, rfl, by omega, by rw [Int.pow_succ]; omega, gw3.trans gw4, rg4⟩
      · obtain ⟨n, y3, rfl, n0, n1, gw3, rg3⟩ := hP
        have n2 : n < 9973 ^ 7 := by
          have : (1 + c).toNat ≤ 7 := by omega
          have h := Nat.pow_le_pow_right (n := 9973) (by decide) this
          have h' : ((9973 ^ (1 + c).toNat : Nat) : Int) ≤ ((9973 ^ 7 : Nat) : Int) := by omega
          rw [Int.natCast_pow, Int.natCast_pow] at h'
          exact Int.lt_of_lt_of_le n1 h'
        refine ⟨_, rfl, 1, rfl, by decide, fun o no => ⟨_, rfl, p, d, 2, rfl, by decide, rg3.same (Same.new no), ?_⟩⟩
        rintro x5 H5 ⟨v, rfl, v0, v1⟩ gw5 rg5
        obtain ⟨y, hy, my⟩ := at_in (xs := [V.int 1, V.int (-1)]) v0 v1
        refine ⟨o, _, v, y, rfl, rfl, SqL.of (gw5.keep upd_same (rg3.free no).1), hy, ?_⟩
        have gw6 : Gw p H H5 := (gw3.trans (Gw.new no)).trans gw5
        simp only [List.mem_cons, List.not_mem_nil, or_false] at my
        rcases my with rfl | rfl
        · exact ⟨n, 1, rfl, rfl, .inr ⟨by decide, by decide⟩, q _ _ (.inl ⟨_, rfl, by omega⟩) gw6 rg5⟩
        · exact ⟨n, -1, rfl, rfl, .inr ⟨by decide, by decide⟩, q _ _ (.inl ⟨_, rfl, by omega⟩) gw6 rg5⟩
    refine ⟨_, rfl, rfl, _, rfl, ite2 (fun e => ?_) (fun e => ?_)⟩
    · refine ⟨10, 30, rfl, rfl, ⟨by decide, by decide, by decide⟩, _, 1, rfl, rfl, 10, 30, rfl, rfl, ⟨by decide, by decide, by decide⟩, 1, _, rfl, rfl, 128, rfl, by decide, fun o no => ⟨_, rfl, p, d, 6, rfl, by decide, rg1.same (Same.new no), ?_⟩⟩
      rintro x5 H5 ⟨v, rfl, v0, v1⟩ gw5 rg5
      obtain ⟨y, hy, my⟩ := at_in (xs := [V.int ((10 : Int) ^ (30 : Int).toNat - 1), V.int (1 - (10 : Int) ^ (30 : Int).toNat), V.int 127, V.int 128, V.int (-128), V.int 16384]) v0 v1
      refine ⟨o, _, v, y, rfl, rfl, SqL.of (gw5.keep upd_same (rg1.free no).1), hy, q _ _ ?_ ((gw1.trans (Gw.new no)).trans gw5) rg5⟩
      simp only [List.mem_cons, List.not_mem_nil, or_false] at my
      rcases my with rfl | rfl | rfl | rfl | rfl | rfl <;> exact .inl ⟨_, rfl, by decide⟩
    refine ⟨_, rfl, _, _, rfl, rfl, _, rfl, ite2 (fun e => ?_) (fun e => ?_)⟩
    · refine ⟨by decide, fun o no => ⟨_, rfl, p, d, 7, rfl, by decide, rg1.same (Same.new no), ?_⟩⟩
      rintro x5 H5 ⟨v, rfl, v0, v1⟩ gw5 rg5
      obtain ⟨y, hy, my⟩ := at_in (xs := [V.str "", V.str "a", V.str "b", V.str "ab", V.str "a ", V.str "0", V.str "1"]) v0 v1
      refine ⟨o, _, v, y, rfl, rfl, SqL.of (gw5.keep upd_same (rg1.free no).1), hy, q _ _ ?_ ((gw1.trans (Gw.new no)).trans gw5) rg5⟩
      simp only [List.mem_cons, List.not_mem_nil, or_false] at my
      rcases my with rfl | rfl | rfl | rfl | rfl | rfl | rfl <;> exact .inr ⟨_, rfl, by decide +kernel, by decide +kernel⟩
    · refine ⟨_, rfl, p, d, 30, rfl, by decide, rg1, ?_⟩
      rintro x2 H2 ⟨z, rfl, pz, lz⟩ gw2 rg2
      exact q _ _ (.inr ⟨_, rfl, pz, by omega⟩) (gw1.trans gw2) rg2
end
end K1
namespace K1
open PySem PySem.Spec PyProof.Rows L2 Ow
abbrev s_law_small : Stmt := topS 47
abbrev N_law_small : List Str := ["state", "pick"]
theorem sc_law_small : FnScope N_law_small ["state"] (defScope s_law_small) := ⟨rfl, rfl, rfl, by decide +kernel, rfl, by decide +kernel, by decide +kernel⟩
section
variable {P : Program} {w : World} {K : PySem.W.Frag} {mg : Str → Option Value} {base : Heap}
theorem ok_small {f : Addr} {fd : FuncData} (F : Fun K "_law_small" "_law_small" s_law_small f fd) (T : Bl mg)
    (D_law_next : Kn P w K mg base 3 "_law_next" ["state", "limit"] spNext)
    (D_law_value : Kn P w K mg base 5 "_law_value" ["state"] spValue) :
    FnOk P w K mg base CX0 6 f fd ["state"] spValue := by
  refine F.ok sc_law_small (fun vs H Q E h => ?_) (fun cdv A outer s H vs Q E hr h => ?_)
  · obtain ⟨p, d, rfl, _⟩ := h
    rfl
  · obtain ⟨p, d, rfl, rg, q⟩ := h
    refine ⟨_, (pss_cons (ps_set (i := 1) sc_law_small.nd rfl (.inl rfl) (pe_kn D_law_next hr (pa_cons (pv 0) (pa_cons pe_int pa_nil))))
      (pss_cons (ps_if (pt_cmpR op_lt (pv 1) pe_int (nomark _)) (pss_one (ps_ret (pe_kn D_law_next hr (pa_cons (pv 0) (pa_cons pe_int pa_nil))))) pss_nil)
      (pss_cons (ps_if (pt_cmpR op_lt (pv 1) pe_int (nomark _)) (pss_one (ps_ret (pe_ix ix_list (pe_lst (pa_cons pe_str (pa_cons pe_str (pa_cons pe_str (pa_cons pe_str pa_nil))))) (pe_kn D_law_next hr (pa_cons (pv 0) (pa_cons pe_int pa_nil))) (fun _ _ => rfl)))) pss_nil)
      (pss_one (ps_ret (pe_kn D_law_value hr (pa_cons (pv 0) pa_nil))))))), ?_⟩
    refine ⟨_, rfl, p, d, 12, rfl, by decide, rg, ?_⟩
    rintro x1 H1 ⟨b, rfl, b0, b1⟩ gw1 rg1
    refine ⟨_, rfl, _, _, rfl, rfl, _, rfl, ite2 (fun e => ?_) (fun e => ?_)⟩
    · refine ⟨_, rfl, p, d, 6, rfl, by decide, rg1, ?_⟩
      rintro x2 H2 ⟨c, rfl, c0, c1⟩ gw2 rg2
      exact q _ _ (.inl ⟨_, rfl, by omega⟩) (gw1.trans gw2) rg2
    refine ⟨_, rfl, _, _, rfl, rfl, _, rfl, ite2 (fun e => ?_) (fun e => ?_)⟩
    · refine ⟨by decide, fun o no => ⟨_, rfl, p, d, 4, rfl, by decide, rg1.same (Same.new no), ?_⟩⟩
      rintro x5 H5 ⟨v, rfl, v0, v1⟩ gw5 rg5
      obtain ⟨y, hy, my⟩ := at_in (xs := [V.str "a", V.str "b", V.str "ab", V.str "lamp"]) v0 v1
      refine ⟨o, _, v, y, rfl, rfl, SqL.of (gw5.keep upd_same (rg1.free no).1), hy, q _ _ ?_ ((gw1.trans (Gw.new no)).trans gw5) rg5⟩
      simp only [List.mem_cons, List.not_mem_nil, or_false] at my
      rcases my with rfl | rfl | rfl | rfl <;> exact .inr ⟨_, rfl, by decide +kernel, by decide +kernel⟩
    · refine ⟨_, rfl, p, d, rfl, rg1, ?_⟩
      rintro x2 H2 sx gw2 rg2
      exact q _ _ sx (gw1.trans gw2) rg2
end
end K1
namespace K1
open PySem PySem.Spec PyProof.Rows L2 Ow Tlz
/-! the order of rows -/
theorem cps_inj {x y : Str} (h : x.cps.toList = y.cps.toList) : x = y := by
  cases x
  cases y
  simp only [Str.mk.injEq]
  exact Array.toList_inj.mp h
theorem str_tot (x y : Str) : x.cps.toList < y.cps.toList ∨ x = y ∨ y.cps.toList < x.cps.toList := by
  by_cases h1 : x.cps.toList < y.cps.toList
  · exact .inl h1
  · by_cases h2 : y.cps.toList < x.cps.toList
    · exact .inr (.inr h2)
    · exact .inr (.inl (cps_inj (List.le_antisymm h2 h1)))
theorem first_tot {x y : V} (sx : Scal x) (sy : Scal y) : firstV x y = true ∨ x = y ∨ firstV y x = true := by
  rcases sx with ⟨i, rfl, _⟩ | ⟨x, rfl, _⟩ <;> rcases sy with ⟨j, rfl, _⟩ | ⟨y, rfl, _⟩
  · rcases Int.lt_trichotomy i j with h | h | h
    · exact .inl (decide_eq_true h)
    · exact .inr (.inl (by rw [h]))
    · exact .inr (.inr (decide_eq_true h))
  · exact .inl rfl
  · exact .inr (.inr rfl)
  · rcases str_tot x y with h | h | h
    · exact .inl (decide_eq_true h)
    · exact .inr (.inl (by rw [h]))
    · exact .inr (.inr (decide_eq_true h))
theorem first_irr {x : V} (sx : Scal x) : firstV x x = false := by
  rcases sx with ⟨i, rfl, _⟩ | ⟨x, rfl, _⟩
  · exact decide_eq_false (by omega)
  · exact decide_eq_false (List.lt_irrefl _)
theorem first_trans {x y z : V} (sx : Scal x) (sy : Scal y) (sz : Scal z) (h : firstV x y = true) (g : firstV y z = true) : firstV x z = true := by
  rcases sx with ⟨i, rfl, _⟩ | ⟨x, rfl, _⟩ <;> rcases sy with ⟨j, rfl, _⟩ | ⟨y, rfl, _⟩ <;> rcases sz with ⟨k, rfl, _⟩ | ⟨z, rfl, _⟩
  · have a : i < j := of_decide_eq_true h
    have b : j < k := of_decide_eq_true g
    exact decide_eq_true (by omega)
  · rfl
  · exact absurd (show false = true from g) Bool.false_ne_true
  · rfl
  · exact absurd (show false = true from h) Bool.false_ne_true
  · exact absurd (show false = true from h) Bool.false_ne_true
  · exact absurd (show false = true from g) Bool.false_ne_true
  · have a : x.cps.toList < y.cps.toList := of_decide_eq_true h
    have b : y.cps.toList < z.cps.toList := of_decide_eq_true g
    exact decide_eq_true (List.lt_trans a b)
def Rlt (xs ys : List V) : Prop := orderV xs ys < 0
instance (xs ys : List V) : Decidable (Rlt xs ys) := inferInstanceAs (Decidable (_ < _))
theorem order_cons (x y : V) (xs ys : List V) : orderV (x :: xs) (y :: ys) = if firstV x y = true then -1 else if firstV y x = true then 1 else orderV xs ys := by
  rw [orderV]
theorem rlt_cons {x y : V} {xs ys : List V} (sx : Scal x) (sy : Scal y) : Rlt (x :: xs) (y :: ys) ↔ firstV x y = true ∨ (x = y ∧ Rlt xs ys) := by
  unfold Rlt
  rw [order_cons]
  rcases first_tot sx sy with h | h | h
  · rw [if_pos h]
    exact ⟨fun _ => .inl h, fun _ => by decide⟩
  · subst h
    rw [first_irr sx, if_neg Bool.false_ne_true, if_neg Bool.false_ne_true]
    exact ⟨fun z => .inr ⟨rfl, z⟩, fun z => z.elim (fun w => absurd w Bool.false_ne_true) (·.2)⟩
  · have h2 := first_asym sy sx h
    rw [h2, if_neg Bool.false_ne_true, if_pos h]
    refine ⟨fun z => absurd z (by decide), fun z => z.elim (fun w => absurd w Bool.false_ne_true) fun w => ?_⟩
    rw [w.1, first_irr sy] at h
    exact absurd h Bool.false_ne_true
theorem rlt_trans : ∀ {xs ys zs : List V}, (∀ x ∈ xs, Scal x) → (∀ y ∈ ys, Scal y) → (∀ z ∈ zs, Scal z) → Rlt xs ys → Rlt ys zs → Rlt xs zs
  | [], [], _, _, _, _, h, _ => absurd h (by decide)
  | [], _ :: _, [], _, _, _, _, g => absurd g (by unfold Rlt orderV; decide)
  | [], _ :: _, _ :: _, _, _, _, _, _ => by unfold Rlt orderV; decide
  | _ :: _, [], _, _, _, _, h, _ => absurd h (by unfold Rlt orderV; decide)
  | _ :: _, _ :: _, [], _, _, _, _, g => absurd g (by unfold Rlt orderV; decide)
  | x :: xs, y :: ys, z :: zs, hx, hy, hz, h, g => by
    have sx := hx x List.mem_cons_self
    have sy := hy y List.mem_cons_self
    have sz := hz z List.mem_cons_self
    rw [rlt_cons sx sy] at h
    rw [rlt_cons sy sz] at g
    rw [rlt_cons sx sz]
    rcases h with h | ⟨e, h⟩ <;> rcases g with g | ⟨e2, g⟩
    · exact .inl (first_trans sx sy sz h g)
    · rw [← e2]; exact .inl h
    · rw [e]; exact .inl g
    · exact .inr ⟨e.trans e2, rlt_trans (fun v m => hx v (List.mem_cons_of_mem _ m)) (fun v m => hy v (List.mem_cons_of_mem _ m)) (fun v m => hz v (List.mem_cons_of_mem _ m)) h g⟩
theorem rlt_irr {xs : List V} (hx : ∀ x ∈ xs, Scal x) : ¬ Rlt xs xs := by
  induction xs with
  | nil => decide
  | cons x xs ih =>
    rw [rlt_cons (hx x List.mem_cons_self) (hx x List.mem_cons_self)]
    intro h
    rcases h with h | ⟨_, h⟩
    · rw [first_irr (hx x List.mem_cons_self)] at h
      exact Bool.false_ne_true h
    · exact ih (fun v m => hx v (List.mem_cons_of_mem _ m)) h
/-! lists of rows -/
def rrefs (rs : List (Addr × List V)) : List V := rs.map fun t => .ref t.1
def RowsOk (K : PySem.W.Frag) (H : Hp) (rs : List (Addr × List V)) : Prop := ∀ t ∈ rs, SqT K H t.1 t.2 ∧ (∀ x ∈ t.2, Scal x) ∧ t.2.length ≤ 10
theorem rrefs_get {rs : List (Addr × List V)} {i : Nat} {x : V} (h : (rrefs rs)[i]? = some x) : ∃ t, rs[i]? = some t ∧ x = .ref t.1 := by
  unfold rrefs at h
  rw [List.getElem?_map] at h
  cases e : rs[i]? with
  | none => rw [e] at h; cases h
  | some t => rw [e] at h; exact ⟨t, rfl, (Option.some.inj h).symm⟩
theorem rrefs_at {rs : List (Addr × List V)} {i : Nat} {t : Addr × List V} (h : rs[i]? = some t) : (rrefs rs)[i]? = some (.ref t.1) := by
  unfold rrefs
  rw [List.getElem?_map, h]
  rfl
theorem RowsOk.tk {K : PySem.W.Frag} {H H' : Hp} {rs : List (Addr × List V)} (t : Tk K H H') (h : RowsOk K H rs) : RowsOk K H' rs := fun u m => ⟨t _ _ (h u m).1, (h u m).2⟩
theorem RowsOk.snoc {K : PySem.W.Frag} {H : Hp} {rs : List (Addr × List V)} {q : Addr} {xs : List V} (h : RowsOk K H rs) (hq : SqT K H q xs) (sx : ∀ x ∈ xs, Scal x) (lx : xs.length ≤ 10) : RowsOk K H (rs ++ [(q, xs)]) := by
  intro u m
  rcases List.mem_append.mp m with m | m
  · exact h u m
  · rw [List.mem_singleton.mp m]
    exact ⟨hq, sx, lx⟩
theorem rrefs_snoc {rs : List (Addr × List V)} {t : Addr × List V} : rrefs (rs ++ [t]) = rrefs rs ++ [.ref t.1] := by
  unfold rrefs
  rw [List.map_append]
  rfl
theorem rrefs_len (rs : List (Addr × List V)) : (rrefs rs).length = rs.length := by unfold rrefs; rw [List.length_map]
theorem RowsOk.same {K : PySem.W.Frag} {H H' : Hp} {rs : List (Addr × List V)} (s : Same H H') (h : RowsOk K H rs) : RowsOk K H' rs := h.tk (Tk.same s)
/-- the rows stand in their order -/
def Srt (rs : List (Addr × List V)) : Prop := rs.Pairwise fun a b => Rlt a.2 b.2
/-- n is the first place whose row is not before row -/
def Place (rs : List (Addr × List V)) (row : List V) (n : Nat) : Prop := (∀ j t, j < n → rs[j]? = some t → Rlt t.2 row) ∧ ∀ j t, n ≤ j → rs[j]? = some t → ¬ Rlt t.2 row
def spPlace (K : PySem.W.Frag) : Sp := fun vs H Q _ => ∃ (l r : Addr) (rs : List (Addr × List V)) (row : List V), vs = [.ref l, .ref r] ∧ SqL K H l (rrefs rs) ∧ RowsOk K H rs ∧ SqT K H r row ∧ (∀ x ∈ row, Scal x) ∧ row.length ≤ 10 ∧ rs.length ≤ 1000 ∧
  ∀ (n : Nat) H', n ≤ rs.length → (Srt rs → Place rs row n) → Same H H' → Q (.int (n : Int)) H'
abbrev splace_of : Stmt := topS 8
abbrev Nplace_of : List Str := ["rows", "row", "wanted", "low", "high", "middle"]
theorem scplace_of : FnScope Nplace_of ["rows", "row"] (defScope splace_of) := ⟨rfl, rfl, rfl, by decide +kernel, rfl, by decide +kernel, by decide +kernel⟩
def muP : L2.St → Hp → Nat := fun σ _ => match σ with
  | _ :: _ :: _ :: some (.int lo) :: some (.int hi) :: _ => (hi - lo).toNat
  | _ => 0
theorem srt_lt {rs : List (Addr × List V)} (h : Srt rs) {i j : Nat} {a b : Addr × List V} (ha : rs[i]? = some a) (hb : rs[j]? = some b) (l : i < j) : Rlt a.2 b.2 := by
  obtain ⟨pa, ea⟩ := List.getElem?_eq_some_iff.mp ha
  obtain ⟨pb, eb⟩ := List.getElem?_eq_some_iff.mp hb
  rw [← ea, ← eb]
  exact List.pairwise_iff_getElem.mp h i j pa pb l
section
variable {P : Program} {w : World} {K : PySem.W.Frag} {mg : Str → Option Value} {base : Heap}
theorem ok_place {f : Addr} {fd : FuncData} (F : Fun K "place_of" "place_of" splace_of f fd) (T : Bl mg)
    (Drow_key : Kn P w K mg base 2 "row_key" ["row"] (spRKey K)) :
    FnOk P w K mg base CX0 3 f fd ["rows", "row"] (spPlace K) := by
  refine F.ok scplace_of (fun vs H Q E h => ?_) (fun cdv A outer s H vs Q E hr h => ?_)
  · obtain ⟨l, r, rs, row, rfl, _⟩ := h
    rfl
  · obtain ⟨l, r, rs, row, rfl, hl, hR, hrow, sr, lr, lrs, q⟩ := h
    refine ⟨_, (pss_cons (ps_set (i := 2) scplace_of.nd rfl (.inl rfl) (pe_kn Drow_key hr (pa_cons (pv 1) pa_nil)))
      (pss_cons (ps_set (i := 3) scplace_of.nd rfl (.inl rfl) pe_int)
      (pss_cons (ps_set (i := 4) scplace_of.nd rfl (.inl rfl) (pe_callB call_len_seq (by rfl) T.len PySem.boot_len (pa_cons (pv 0) pa_nil)))
      (pss_cons (ps_while PassesOwn.never (pt_cmpR op_lt (pv 3) (pv 4) (nomark _))
        (pss_cons (ps_set (i := 5) scplace_of.nd rfl (.inl rfl) (pe_op op_fdiv (pe_op op_add (pv 3) (pv 4)) pe_int))
        (pss_one (ps_if (pt_cmpR (op_ltK hr) (pe_kn Drow_key hr (pa_cons (pe_ix ix_list (pv 0) (pv 5) (fun _ _ => rfl)) pa_nil)) (pv 2) (nomark _))
          (pss_one (ps_set (i := 3) scplace_of.nd rfl (.inl rfl) (pe_op op_add (pv 5) pe_int)))
          (pss_one (ps_set (i := 4) scplace_of.nd rfl (.inl rfl) (pv 5)))))))
      (pss_one (ps_ret (pv 3))))))), ?_⟩
    refine ⟨_, rfl, r, row, rfl, hrow, sr, by omega, fun y H1 dy s1 => ?_⟩
    refine ⟨_, rfl, l, rrefs rs, rfl, .inl (s1.seq hl), ?_⟩
    refine while_by (fun σ H2 => ∃ (lo hi : Nat) (y5 : Option V), σ = [some (.ref l), some (.ref r), some y, some (.int (lo : Int)), some (.int (hi : Int)), y5] ∧ Same H1 H2 ∧ lo ≤ hi ∧ hi ≤ rs.length ∧
        (Srt rs → (∀ j t, j < lo → rs[j]? = some t → Rlt t.2 row) ∧ ∀ j t, hi ≤ j → rs[j]? = some t → ¬ Rlt t.2 row)) muP
      ⟨0, rs.length, none, by rw [rrefs_len]; rfl, Same.refl _, Nat.zero_le _, Nat.le_refl _, fun _ => ⟨fun j t h => absurd h (Nat.not_lt_zero _), fun j t h e => by
        have := (List.getElem?_eq_some_iff.mp e).1
        omega⟩⟩ ?_ ?_
    · rintro σ H2 ⟨lo, hi, y5, rfl, s2, h1, h2, inv⟩
      refine ⟨_, rfl, _, rfl, _, _, rfl, rfl, _, rfl, ite2 (fun e => ?_) (fun e => ?_)⟩
      · have e1 : (lo : Int) < (hi : Int) := of_decide_eq_true e
        have lm : (lo + hi) / 2 < rs.length := by omega
        have em := List.getElem?_eq_getElem lm
        generalize hm : (lo + hi) / 2 = m at lm em
        obtain ⟨ht, st, lt⟩ := hR rs[m] (List.getElem_mem lm)
        have emi : (((lo : Int) + (hi : Int)) / 2) = ((m : Nat) : Int) := by omega
        refine ⟨_, rfl, _, rfl, _, _, rfl, rfl, _, 2, rfl, rfl, ⟨by decide, by decide⟩, ?_⟩
        refine ⟨_, rfl, _, rfl, l, rrefs rs, _, _, rfl, rfl, (s1.trans s2).seq hl, at_of (j := m) (by omega) (rrefs_at em), rs[m].1, rs[m].2, rfl, Tk.same (s1.trans s2) _ _ ht, st, by omega, fun z H3 dz s3 => ?_⟩
        obtain ⟨ag, okd⟩ := Agr.row st sr
        refine ⟨_, rfl, 2, _, _, ⟨dz, Dp.tk (Tk.same (s2.trans s3)) _ _ (noL_rk row) dy, lay_rk st, lay_rk sr, deep_rk _, deep_rk _, okd, by decide⟩, _, rfl, ?_⟩
        rw [ag.lt]
        refine ite2 (fun e2 => ?_) (fun e2 => ?_)
        · have e3 : Rlt rs[m].2 row := of_decide_eq_true e2
          have e5 : ([some (.ref l), some (.ref r), some y, some (.int (((lo : Int) + (hi : Int)) / 2 + 1)), some (.int (hi : Int)), some (.int (((lo : Int) + (hi : Int)) / 2))] : L2.St) =
              [some (.ref l), some (.ref r), some y, some (.int ((m + 1 : Nat) : Int)), some (.int (hi : Int)), some (.int (((lo : Int) + (hi : Int)) / 2))] := by
            rw [emi]
            rfl
          refine ⟨_, rfl, _, _, rfl, rfl, ⟨m + 1, hi, some (.int (((lo : Int) + (hi : Int)) / 2)), e5, s2.trans s3, by omega, h2, fun srt => ⟨fun j t hj et => ?_, (inv srt).2⟩⟩, ?_⟩
          · by_cases ej : j = m
            · subst ej
              rw [em] at et
              rw [← Option.some.inj et]
              exact e3
            · exact rlt_trans (hR t (List.mem_of_getElem? et)).2.1 st sr (srt_lt srt et em (by omega)) e3
          · show ((hi : Int) - (((lo : Int) + (hi : Int)) / 2 + 1)).toNat < ((hi : Int) - (lo : Int)).toNat
            omega
        · have e3 : ¬ Rlt rs[m].2 row := fun z => e2 (decide_eq_true z)
          have e5 : ([some (.ref l), some (.ref r), some y, some (.int (lo : Int)), some (.int (((lo : Int) + (hi : Int)) / 2)), some (.int (((lo : Int) + (hi : Int)) / 2))] : L2.St) =
              [some (.ref l), some (.ref r), some y, some (.int (lo : Int)), some (.int (m : Int)), some (.int (((lo : Int) + (hi : Int)) / 2))] := by
            rw [emi]
          refine ⟨_, rfl, ⟨lo, m, some (.int (((lo : Int) + (hi : Int)) / 2)), e5, s2.trans s3, by omega, by omega, fun srt => ⟨(inv srt).1, fun j t hj et => ?_⟩⟩, ?_⟩
          · by_cases ej : j = m
            · subst ej
              rw [em] at et
              rw [← Option.some.inj et]
              exact e3
            · intro z
              exact e3 (rlt_trans st (hR t (List.mem_of_getElem? et)).2.1 sr (srt_lt srt em et (by omega)) z)
          · show ((((lo : Int) + (hi : Int)) / 2) - (lo : Int)).toNat < ((hi : Int) - (lo : Int)).toNat
            omega
      · have e1 : ¬ (lo : Int) < (hi : Int) := fun z => e (decide_eq_true z)
        have e2 : hi = lo := by omega
        subst e2
        exact ⟨_, rfl, q hi _ h2 inv (s1.trans s2)⟩
    · rintro σ H2 Q1 Q2 hq ⟨v, hv, u, hu, i, j, hi, hj, k, hk, z⟩
      exact ⟨v, hv, u, hu, i, j, hi, hj, k, hk, hq _ _ z⟩
end
end K1
namespace K1
open PySem PySem.Spec PyProof.Rows L2 Ow Tlz
/-! tables by names -/
section
variable {β : Type}
def valG (l : List (Str × β)) (k : Str) : Option β := (l.find? fun e => decide (e.1 = k)).map (·.2)
def putG (l : List (Str × β)) (k : Str) (b : β) : List (Str × β) := if (l.any fun e => decide (e.1 = k)) = true then l.map (fun e => if e.1 = k then (e.1, b) else e) else l ++ [(k, b)]
def kvG (vv : β → V) (l : List (Str × β)) : List (Key × V) := l.map fun e => ((Sum.inr e.1 : Key), vv e.2)
theorem inr_iff (a b : Str) : ((Sum.inr a : Key) = Sum.inr b) ↔ a = b := ⟨fun h => Sum.inr.inj h, fun h => by rw [h]⟩
theorem kvG_any (vv : β → V) (l : List (Str × β)) (k : Str) : ((kvG vv l).any fun e => decide (e.1 = (Sum.inr k : Key))) = l.any fun e => decide (e.1 = k) := by
  unfold kvG
  rw [List.any_map]
  congr 1
  funext e
  exact decide_eq_decide.mpr (inr_iff _ _)
theorem kvG_put (vv : β → V) (l : List (Str × β)) (k : Str) (b : β) : putK (kvG vv l) (Sum.inr k) (vv b) = kvG vv (putG l k b) := by
  unfold putK putG
  rw [kvG_any]
  split
  · unfold kvG
    rw [List.map_map, List.map_map]
    refine List.map_congr_left fun e _ => ?_
    show (if (Sum.inr e.1 : Key) = Sum.inr k then ((Sum.inr e.1 : Key), vv b) else (Sum.inr e.1, vv e.2)) = _
    by_cases h : e.1 = k
    · rw [if_pos ((inr_iff _ _).mpr h)]
      show _ = ((Sum.inr (if e.1 = k then (e.1, b) else e).1 : Key), vv (if e.1 = k then (e.1, b) else e).2)
      rw [if_pos h]
    · rw [if_neg (fun z => h ((inr_iff _ _).mp z))]
      show _ = ((Sum.inr (if e.1 = k then (e.1, b) else e).1 : Key), vv (if e.1 = k then (e.1, b) else e).2)
      rw [if_neg h]
  · unfold kvG
    rw [List.map_append]
    rfl
theorem kvG_val (vv : β → V) (k : Str) : ∀ l : List (Str × β), valV (kvG vv l) (Sum.inr k) = (valG l k).map vv
  | [] => rfl
  | e :: l => by
    have ih := kvG_val vv k l
    by_cases h : e.1 = k
    · have h1 : valV (kvG vv (e :: l)) (Sum.inr k) = some (vv e.2) := valV_pos (p := ((Sum.inr e.1 : Key), vv e.2)) ((inr_iff _ _).mpr h)
      rw [h1]
      unfold valG
      rw [List.find?_cons, decide_eq_true h]
      rfl
    · have h1 : valV (kvG vv (e :: l)) (Sum.inr k) = valV (kvG vv l) (Sum.inr k) := valV_neg (p := ((Sum.inr e.1 : Key), vv e.2)) (fun z => h ((inr_iff _ _).mp z))
      rw [h1, ih]
      unfold valG
      rw [List.find?_cons, decide_eq_false h]
theorem valG_mem {l : List (Str × β)} {k : Str} {b : β} (h : valG l k = some b) : (k, b) ∈ l := by
  unfold valG at h
  cases e : l.find? fun e => decide (e.1 = k) with
  | none => rw [e] at h; cases h
  | some x =>
    rw [e] at h
    have h1 := List.find?_some e
    have h2 := List.mem_of_find?_eq_some e
    have h3 : x.1 = k := of_decide_eq_true h1
    have h4 : x.2 = b := Option.some.inj h
    rw [← h3, ← h4]
    exact h2
theorem valG_none {l : List (Str × β)} {k : Str} (h : valG l k = none) : ∀ e ∈ l, e.1 ≠ k := by
  unfold valG at h
  intro e m he
  cases z : l.find? fun e => decide (e.1 = k) with
  | none =>
    have := List.find?_eq_none.mp z e m
    exact this (decide_eq_true he)
  | some x => rw [z] at h; cases h
theorem any_val (l : List (Str × β)) (k : Str) : (l.any fun e => decide (e.1 = k)) = (valG l k).isSome := by
  cases h : valG l k with
  | none =>
    rw [Option.isSome_none, List.any_eq_false]
    intro e m
    rw [decide_eq_false (valG_none h e m)]
    exact Bool.false_ne_true
  | some b =>
    rw [Option.isSome_some, List.any_eq_true]
    exact ⟨_, valG_mem h, decide_eq_true rfl⟩
theorem putG_new {l : List (Str × β)} {k : Str} (b : β) (h : valG l k = none) : putG l k b = l ++ [(k, b)] := by
  unfold putG
  rw [any_val, h]
  rfl
theorem putG_len (l : List (Str × β)) (k : Str) (b : β) : (putG l k b).length ≤ l.length + 1 := by
  unfold putG
  split
  · rw [List.length_map]; omega
  · rw [List.length_append]; exact Nat.le_refl _
theorem putG_mem {l : List (Str × β)} {k : Str} {b : β} {e : Str × β} (h : e ∈ putG l k b) : e = (k, b) ∨ (e ∈ l ∧ e.1 ≠ k) := by
  unfold putG at h
  split at h
  · obtain ⟨x, mx, ex⟩ := List.mem_map.mp h
    by_cases z : x.1 = k
    · rw [if_pos z] at ex
      rw [← ex, z]
      exact .inl rfl
    · rw [if_neg z] at ex
      rw [← ex]
      exact .inr ⟨mx, z⟩
  · rename_i a
    rcases List.mem_append.mp h with m | m
    · refine .inr ⟨m, fun z => a ?_⟩
      rw [List.any_eq_true]
      exact ⟨e, m, decide_eq_true z⟩
    · exact .inl (List.mem_singleton.mp m)
theorem putG_keys (l : List (Str × β)) (k : Str) (b : β) : (putG l k b).map (·.1) = if (valG l k).isSome = true then l.map (·.1) else l.map (·.1) ++ [k] := by
  unfold putG
  rw [any_val]
  split
  · rw [List.map_map]
    refine List.map_congr_left fun e _ => ?_
    show (if e.1 = k then (e.1, b) else e).1 = e.1
    split <;> rfl
  · rw [List.map_append]
    rfl
theorem putG_nodup {l : List (Str × β)} {k : Str} {b : β} (h : (l.map (·.1)).Nodup) : ((putG l k b).map (·.1)).Nodup := by
  rw [putG_keys]
  split
  · exact h
  · rename_i z
    rw [List.nodup_append]
    refine ⟨h, by simp, fun a ma c mc => ?_⟩
    rw [List.mem_singleton.mp mc]
    rintro rfl
    obtain ⟨e, me, ee⟩ := List.mem_map.mp ma
    cases w : valG l a with
    | none => exact valG_none w e me ee
    | some _ => rw [w] at z; exact z rfl
theorem valG_of {l : List (Str × β)} {k : Str} {b : β} (nd : (l.map (·.1)).Nodup) (h : (k, b) ∈ l) : valG l k = some b := by
  induction l with
  | nil => cases h
  | cons e l ih =>
    rw [List.map_cons, List.nodup_cons] at nd
    unfold valG
    rw [List.find?_cons]
    rcases List.mem_cons.mp h with z | z
    · rw [← z, decide_eq_true rfl]
      rfl
    · have ne : e.1 ≠ k := fun w => nd.1 (List.mem_map.mpr ⟨_, z, w.symm⟩)
      rw [decide_eq_false ne]
      exact ih nd.2 z
/-- what putG keeps of an addressed table when the address stays -/
theorem putG_kv {vv : β → V} {l : List (Str × β)} {k : Str} {a b : β} (nd : (l.map (·.1)).Nodup) (h : valG l k = some a) (e : vv b = vv a) : kvG vv (putG l k b) = kvG vv l := by
  unfold putG kvG
  rw [any_val, h, if_pos (show (some a).isSome = true from rfl), List.map_map]
  refine List.map_congr_left fun x mx => ?_
  show ((Sum.inr (if x.1 = k then (x.1, b) else x).1 : Key), vv (if x.1 = k then (x.1, b) else x).2) = _
  by_cases z : x.1 = k
  · have z2 : valG l k = some x.2 := valG_of nd (by rw [← z]; exact mx)
    rw [if_pos z, e]
    rw [h] at z2
    rw [Option.some.inj z2]
  · rw [if_neg z]
end
end K1
namespace K1
open PySem PySem.Spec PyProof.Rows L2 Ow Tlz
/-! a State at x -/
theorem k_fr : ¬ (("facts" : Str) = "relations") := by decide +kernel
theorem k_sr : ¬ (("structures" : Str) = "relations") := by decide +kernel
theorem k_sf : ¬ (("structures" : Str) = "facts") := by decide +kernel
theorem k_lr : ¬ (("layouts" : Str) = "relations") := by decide +kernel
theorem k_lf : ¬ (("layouts" : Str) = "facts") := by decide +kernel
theorem k_ls : ¬ (("layouts" : Str) = "structures") := by decide +kernel
/-- the attributes, in the order in which they are stored -/
def flds (dr df ds dl : V) : List (Str × V) := putF "layouts" dl (putF "structures" ds (putF "facts" df (putF "relations" dr [])))
theorem flds_r (dr df ds dl : V) : (flds dr df ds dl).lookup ("relations" : Str) = some dr := by
  unfold flds
  rw [lookup_putF, if_neg (fun z => k_lr z.symm), lookup_putF, if_neg (fun z => k_sr z.symm), lookup_putF, if_neg (fun z => k_fr z.symm), lookup_putF, if_pos rfl]
theorem flds_f (dr df ds dl : V) : (flds dr df ds dl).lookup ("facts" : Str) = some df := by
  unfold flds
  rw [lookup_putF, if_neg (fun z => k_lf z.symm), lookup_putF, if_neg (fun z => k_sf z.symm), lookup_putF, if_pos rfl]
theorem flds_s (dr df ds dl : V) : (flds dr df ds dl).lookup ("structures" : Str) = some ds := by
  unfold flds
  rw [lookup_putF, if_neg (fun z => k_ls z.symm), lookup_putF, if_pos rfl]
theorem flds_l (dr df ds dl : V) : (flds dr df ds dl).lookup ("layouts" : Str) = some dl := by
  unfold flds
  rw [lookup_putF, if_pos rfl]
structure Txt (K : PySem.W.Frag) (mg : Str → Option Value) (C : Addr) : Prop where
  cl : Cls K C
  nR : NoAttr K C "relations"
  nF : NoAttr K C "facts"
  nS : NoAttr K C "structures"
  nL : NoAttr K C "layouts"
  mgC : mg "State" = some (.ref C)
abbrev Tb := List (Str × Addr × List V)
abbrev Fb := List (Str × Addr × List (Addr × List V))
def kvR (R : Tb) : List (Key × V) := kvG (fun b => V.ref b.1) R
def kvF (F : Fb) : List (Key × V) := kvG (fun b => V.ref b.1) F
/-- Z: what the State alone has; b: the most rows of a name -/
structure StAt (K : PySem.W.Frag) (C : Addr) (Z : Addr → Prop) (H : Hp) (x dr df ds dl : Addr) (R : Tb) (F : Fb) (S : Tb) (L : List (Str × V)) (b : Nat) : Prop where
  ob : ∃ dx, H x = some (.ins C dx (flds (.ref dr) (.ref df) (.ref ds) (.ref dl)))
  r : H dr = some (.dK (kvR R))
  rt : ∀ e ∈ R, SqT K H e.2.1 e.2.2
  f : H df = some (.dK (kvF F))
  ft : ∀ e ∈ F, H e.2.1 = some (.lst (rrefs e.2.2)) ∧ RowsOk K H e.2.2 ∧ e.2.2.length ≤ b
  fz : ∀ e ∈ F, Z e.2.1
  fp : F.Pairwise fun a b => a.2.1 ≠ b.2.1
  fn : (F.map (·.1)).Nodup
  s : H ds = some (.dK (kvR S))
  st : ∀ e ∈ S, SqT K H e.2.1 e.2.2
  l : H dl = some (.dK (kvG id L))
  z : Z dr ∧ Z df ∧ Z ds ∧ Z dl ∧ ¬ Z x
  ne : dr ≠ df ∧ dr ≠ ds ∧ dr ≠ dl ∧ df ≠ ds ∧ df ≠ dl ∧ ds ≠ dl
  nw : ∀ a, H a = none → Z a
  ln : R.length ≤ b ∧ F.length ≤ b ∧ S.length ≤ b ∧ L.length ≤ b
/-- all that the State has not alone stays -/
def Kp (Z : Addr → Prop) (H H' : Hp) : Prop := ∀ a o, ¬ Z a → H a = some o → H' a = some o
theorem Kp.refl (Z : Addr → Prop) (H : Hp) : Kp Z H H := fun _ _ _ h => h
theorem Kp.trans {Z : Addr → Prop} {H H1 H2 : Hp} (a : Kp Z H H1) (b : Kp Z H1 H2) : Kp Z H H2 := fun c o z h => b c o z (a c o z h)
theorem Kp.same {Z : Addr → Prop} {H H' : Hp} (s : Same H H') : Kp Z H H' := fun a o _ h => s a o h
theorem Kp.put {Z : Addr → Prop} {H : Hp} {p : Addr} {o : HO} (z : Z p) : Kp Z H (upd H p o) := fun a u nz h => by
  rw [upd_ne (show a ≠ p from fun e => nz (by rw [e]; exact z))]
  exact h
theorem Tk.dK {K : PySem.W.Frag} {H : Hp} {p : Addr} {kvs : List (Key × V)} {o : HO} (e : H p = some (.dK kvs)) : Tk K H (upd H p o) := by
  refine ⟨fun a xs h => ?_, fun a xs ⟨o, h, d⟩ => ⟨o, by rw [upd_ne (fun z => by rw [z, e] at h; cases h)]; exact h, d⟩⟩
  rcases h with (h | ⟨u, h⟩) | h
  · exact .inl (.inl (by rw [upd_ne (fun z => by rw [z, e] at h; cases h)]; exact h))
  · exact .inl (.inr ⟨u, by rw [upd_ne (fun z => by rw [z, e] at h; cases h)]; exact h⟩)
  · exact .inr h
section
variable {K : PySem.W.Frag} {C x dr df ds dl : Addr} {Z : Addr → Prop} {H H' : Hp} {R S : Tb} {F : Fb} {L : List (Str × V)} {b : Nat}
theorem StAt.same (h : StAt K C Z H x dr df ds dl R F S L b) (s : Same H H') : StAt K C Z H' x dr df ds dl R F S L b := by
  obtain ⟨⟨dx, ob⟩, r, rt, f, ft, fz, fp, fn, s', st, l, z, ne, nw, ln⟩ := h
  exact ⟨⟨dx, s _ _ ob⟩, s _ _ r, fun e m => Tk.same s _ _ (rt e m), s _ _ f, fun e m => ⟨s _ _ (ft e m).1, (ft e m).2.1.same s, (ft e m).2.2⟩, fz, fp, fn, s _ _ s', fun e m => Tk.same s _ _ (st e m), s _ _ l, z, ne,
    fun a n => nw a (s.free n), ln⟩
theorem StAt.up {c : Nat} (h : StAt K C Z H x dr df ds dl R F S L b) (l : b ≤ c) : StAt K C Z H x dr df ds dl R F S L c := by
  obtain ⟨ob, r, rt, f, ft, fz, fp, fn, s', st, l', z, ne, nw, ln⟩ := h
  exact ⟨ob, r, rt, f, fun e m => ⟨(ft e m).1, (ft e m).2.1, by have := (ft e m).2.2; omega⟩, fz, fp, fn, s', st, l', z, ne, nw, by omega⟩
/-- the list of a name becomes another one -/
theorem StAt.rows {n : Str} {q : Addr} {rs rs' : List (Addr × List V)} (h : StAt K C Z H x dr df ds dl R F S L b) (hq : valG F n = some (q, rs)) (ro : RowsOk K H rs') (lr : rs'.length ≤ b) :
    StAt K C Z (upd H q (.lst (rrefs rs'))) x dr df ds dl R (putG F n (q, rs')) S L b ∧ Kp Z H (upd H q (.lst (rrefs rs'))) ∧ Tk K H (upd H q (.lst (rrefs rs'))) := by
  obtain ⟨⟨dx, ob⟩, r, rt, f, ft, fz, fp, fn, s', st, l, z, ne, nw, ln⟩ := h
  have mq := valG_mem hq
  have hq1 := (ft _ mq).1
  have zq : Z q := fz _ mq
  have hq2 : H q = some (.lst (rrefs rs)) := hq1
  have tk : Tk K H (upd H q (.lst (rrefs rs'))) := Tk.put hq2
  have no : ∀ (a : Addr) (kvs : List (Key × V)), H a = some (.dK kvs) → a ≠ q := fun a kvs e w => by rw [w, hq2] at e; cases e
  have oth : ∀ e ∈ F, e.1 ≠ n → e.2.1 ≠ q := fun e m en w => by
    have := List.pairwise_iff_getElem.mp fp
    obtain ⟨i, hi, ei⟩ := List.mem_iff_getElem.mp m
    obtain ⟨j, hj, ej⟩ := List.mem_iff_getElem.mp mq
    have hij : i ≠ j := fun z => by
      subst z
      rw [ei] at ej
      rw [ej] at en
      exact en rfl
    rcases Nat.lt_or_gt_of_ne hij with c | c
    · exact this i j hi hj c (by rw [ei, ej]; exact w)
    · exact this j i hj hi c (by rw [ei, ej]; exact w.symm)
  refine ⟨⟨⟨dx, by rw [upd_ne (show x ≠ q from fun w => z.2.2.2.2 (by rw [w]; exact zq))]; exact ob⟩, by rw [upd_ne (no _ _ r)]; exact r, fun e m => tk _ _ (rt e m), ?_, fun e m => ?_, fun e m => ?_, ?_, putG_nodup fn,
    by rw [upd_ne (no _ _ s')]; exact s', fun e m => tk _ _ (st e m), by rw [upd_ne (no _ _ l)]; exact l, z, ne, fun a n => nw a ?_, ?_⟩, Kp.put zq, tk⟩
  · rw [upd_ne (no _ _ f), f]
    unfold kvF
    rw [putG_kv (vv := fun b : Addr × List (Addr × List V) => V.ref b.1) (b := (q, rs')) fn hq rfl]
  · rcases putG_mem m with w | ⟨w, en⟩
    · rw [w]
      exact ⟨upd_same, ro.tk tk, lr⟩
    · refine ⟨?_, (ft e w).2.1.tk tk, (ft e w).2.2⟩
      rw [upd_ne (oth e w en)]
      exact (ft e w).1
  · rcases putG_mem m with w | ⟨w, _⟩
    · rw [w]
      exact zq
    · exact fz e w
  · unfold putG
    rw [any_val, hq, if_pos (show (some (q, rs)).isSome = true from rfl), List.pairwise_map]
    refine fp.imp_of_mem fun {a c} ma mc hac => ?_
    have fx : ∀ e ∈ F, (if e.1 = n then (e.1, q, rs') else e).2.1 = e.2.1 := fun e m => by
      by_cases en : e.1 = n
      · rw [if_pos en]
        have e2 := valG_of fn (k := n) (b := e.2) (by rw [← en]; exact m)
        rw [hq] at e2
        show q = e.2.1
        rw [← Option.some.inj e2]
      · rw [if_neg en]
    rw [fx a ma, fx c mc]
    exact hac
  · by_cases w : a = q
    · rw [w, upd_same] at n
      cases n
    · rw [upd_ne w] at n
      exact n
  · refine ⟨ln.1, ?_, ln.2.2⟩
    unfold putG
    rw [any_val, hq, if_pos (show (some (q, rs)).isSome = true from rfl), List.length_map]
    exact ln.2.1
/-- a new name with an empty list -/
theorem StAt.name {n : Str} {q : Addr} (h : StAt K C Z H x dr df ds dl R F S L b) (hn : valG F n = none) (hq : H q = some (.lst [])) (zq : Z q) (nq : ∀ e ∈ F, e.2.1 ≠ q) :
    StAt K C Z (upd H df (.dK (putK (kvF F) (Sum.inr n) (.ref q)))) x dr df ds dl R (F ++ [(n, q, [])]) S L (b + 1) := by
  obtain ⟨⟨dx, ob⟩, r, rt, f, ft, fz, fp, fn, s', st, l, z, ne, nw, ln⟩ := h
  have tk : Tk K H (upd H df (.dK (putK (kvF F) (Sum.inr n) (.ref q)))) := Tk.dK f
  have qd : q ≠ df := fun w => by rw [w, f] at hq; cases hq
  refine ⟨⟨dx, by rw [upd_ne (show x ≠ df from fun w => z.2.2.2.2 (by rw [w]; exact z.2.1))]; exact ob⟩, by rw [upd_ne ne.1]; exact r, fun e m => tk _ _ (rt e m), ?_, fun e m => ?_, fun e m => ?_, ?_, ?_,
    by rw [upd_ne ne.2.2.2.1.symm]; exact s', fun e m => tk _ _ (st e m), by rw [upd_ne ne.2.2.2.2.1.symm]; exact l, z, ne, fun a n => nw a ?_, ?_⟩
  · rw [upd_same]
    have := kvG_put (fun b : Addr × List (Addr × List V) => V.ref b.1) F n (q, [])
    rw [putG_new _ hn] at this
    exact congrArg (fun t => some (HO.dK t)) this
  · rcases List.mem_append.mp m with m | m
    · have n1 : e.2.1 ≠ df := fun w => by
        have := (ft e m).1
        rw [w, f] at this
        cases this
      refine ⟨by rw [upd_ne n1]; exact (ft e m).1, (ft e m).2.1.tk tk, ?_⟩
      have := (ft e m).2.2
      omega
    · rw [List.mem_singleton.mp m]
      exact ⟨by rw [upd_ne qd]; exact hq, (fun _ w => nomatch w), Nat.zero_le _⟩
  · rcases List.mem_append.mp m with m | m
    · exact fz e m
    · rw [List.mem_singleton.mp m]
      exact zq
  · rw [List.pairwise_append]
    refine ⟨fp, List.pairwise_singleton _ _, fun a ma c mc => ?_⟩
    rw [List.mem_singleton.mp mc]
    exact nq a ma
  · rw [List.map_append, List.nodup_append]
    refine ⟨fn, by simp, fun a ma c mc => ?_⟩
    rw [List.mem_singleton.mp mc]
    rintro rfl
    obtain ⟨e, me, ee⟩ := List.mem_map.mp ma
    exact valG_none hn e me ee
  · by_cases w : a = df
    · rw [w, upd_same] at n
      cases n
    · rw [upd_ne w] at n
      exact n
  · rw [List.length_append]
    show _ ∧ F.length + 1 ≤ _ ∧ _
    omega
end
/-- slices of rows are rows -/
theorem cut_rows (rs : List (Addr × List V)) (lo hi : Option Int) : ∃ ts : List (Addr × List V), cutV (rrefs rs) lo hi = rrefs ts ∧ (∀ t ∈ ts, t ∈ rs) ∧ ts = (rs.drop (HT.sIx rs.length 0 lo)).take (HT.sIx rs.length rs.length hi - HT.sIx rs.length 0 lo) := by
  refine ⟨(rs.drop (HT.sIx rs.length 0 lo)).take (HT.sIx rs.length rs.length hi - HT.sIx rs.length 0 lo), ?_, fun t m => List.mem_of_mem_drop (List.mem_of_mem_take m), rfl⟩
  unfold cutV rrefs
  rw [List.map_take, List.map_drop, List.length_map]
end K1
namespace K1
open PySem PySem.Spec PyProof.Rows L2 Ow Tlz
/-! rows as data -/
def scD : V → PyData
  | .int i => .int i
  | .str z => .str z
  | _ => .none
def rowD (xs : List V) : PyData := .tuple (xs.map scD)
def rwsD (rs : List (Addr × List V)) : PyData := .list (rs.map fun t => rowD t.2)
theorem sc_dp {K : PySem.W.Frag} {H : Hp} : ∀ {xs : List V}, (∀ x ∈ xs, Scal x) → DpAll K H xs (xs.map scD)
  | [], _ => .nil
  | x :: xs, h => by
    have h1 := sc_dp (K := K) (H := H) (xs := xs) fun z m => h z (List.mem_cons_of_mem _ m)
    rcases h x List.mem_cons_self with ⟨i, rfl, _⟩ | ⟨z, rfl, _⟩
    · exact .cons (.int i) h1
    · exact .cons (.str z) h1
theorem rws_dp {K : PySem.W.Frag} {H : Hp} : ∀ {rs : List (Addr × List V)}, RowsOk K H rs → DpAll K H (rrefs rs) (rs.map fun t => rowD t.2)
  | [], _ => .nil
  | t :: rs, h => .cons (.tup (h t List.mem_cons_self).1 (sc_dp (h t List.mem_cons_self).2.1)) (rws_dp (rs := rs) fun u m => h u (List.mem_cons_of_mem _ m))
theorem layAll : ∀ {xs : List PyData}, (∀ x ∈ xs, x.canLay0 = true) → PyData.canLayAll0 xs = true
  | [], _ => by simp [PyData.canLayAll0]
  | x :: xs, h => by
    rw [PyData.canLayAll0, h x List.mem_cons_self, layAll fun y m => h y (List.mem_cons_of_mem _ m)]
    rfl
theorem depthAll_le : ∀ {xs : List PyData} {n : Nat}, (∀ x ∈ xs, x.depth ≤ n) → PyData.depthAll xs ≤ n
  | [], n, _ => by simp [PyData.depthAll]
  | x :: xs, n, h => by
    rw [PyData.depthAll]
    exact Nat.max_le.mpr ⟨h x List.mem_cons_self, depthAll_le fun y m => h y (List.mem_cons_of_mem _ m)⟩
theorem sc_lay {v : V} (h : Scal v) : (scD v).canLay0 = true ∧ (scD v).depth = 0 := by
  rcases h with ⟨i, rfl, _⟩ | ⟨z, rfl, p, _⟩
  · simp [scD, PyData.canLay0, PyData.depth]
  · exact ⟨p.ok, by simp [scD, PyData.depth]⟩
theorem row_lay {xs : List V} (h : ∀ x ∈ xs, Scal x) : (rowD xs).canLay0 = true ∧ (rowD xs).depth ≤ 1 := by
  unfold rowD
  rw [PyData.canLay0, PyData.depth]
  refine ⟨layAll fun x mx => ?_, ?_⟩
  · obtain ⟨v, mv, rfl⟩ := List.mem_map.mp mx
    exact (sc_lay (h v mv)).1
  · have : PyData.depthAll (xs.map scD) ≤ 0 := depthAll_le fun x mx => by
      obtain ⟨v, mv, rfl⟩ := List.mem_map.mp mx
      rw [(sc_lay (h v mv)).2]
      exact Nat.le_refl _
    omega
theorem rws_shaped {rs : List (Addr × List V)} (h : ∀ t ∈ rs, ∀ x ∈ t.2, Scal x) : SeqAt.shaped (rwsD rs) = true := by
  unfold SeqAt.shaped rwsD
  rw [PyData.canLay0, PyData.depth]
  have l : PyData.canLayAll0 (rs.map fun t => rowD t.2) = true := layAll fun x mx => by
    obtain ⟨t, mt, rfl⟩ := List.mem_map.mp mx
    exact (row_lay (h t mt)).1
  have e : PyData.depthAll (rs.map fun t => rowD t.2) ≤ 1 := depthAll_le fun x mx => by
    obtain ⟨t, mt, rfl⟩ := List.mem_map.mp mx
    exact (row_lay (h t mt)).2
  rw [l, decide_eq_true (by omega)]
  rfl
theorem row_shaped {xs : List V} (h : ∀ x ∈ xs, Scal x) : SeqAt.shaped (rowD xs) = true := by
  have := row_lay h
  unfold SeqAt.shaped
  rw [this.1, decide_eq_true (by omega)]
  rfl
theorem eqv_sc {x y : V} (sx : Scal x) (sy : Scal y) : PyData.eqv (scD x) (scD y) = decide (x = y) := by
  rcases sx with ⟨i, rfl, _⟩ | ⟨x, rfl, _⟩ <;> rcases sy with ⟨j, rfl, _⟩ | ⟨y, rfl, _⟩
  · simp only [scD, eqv_int]
    by_cases h : i = j
    · subst h; simp
    · rw [decide_eq_false (fun z => h (V.int.inj z))]; simpa using h
  · rw [decide_eq_false (fun z => by cases z)]
    simp only [scD]
    rw [PyData.eqv]
    all_goals (intros; first | contradiction | (rename_i h; cases h))
  · rw [decide_eq_false (fun z => by cases z)]
    simp only [scD]
    rw [PyData.eqv]
    all_goals (intros; first | contradiction | (rename_i h; cases h))
  · simp only [scD, eqv_str]
    by_cases h : x = y
    · subst h; simp
    · rw [decide_eq_false (fun z => h (V.str.inj z))]; simpa using h
theorem eqv_scs : ∀ {xs ys : List V}, (∀ x ∈ xs, Scal x) → (∀ y ∈ ys, Scal y) → PyData.eqvAll (xs.map scD) (ys.map scD) = decide (xs = ys)
  | [], [], _, _ => by rw [List.map_nil, eqv_nil]; rfl
  | [], y :: ys, _, _ => by rw [List.map_nil, List.map_cons, eqv_nc, decide_eq_false (fun z => by cases z)]
  | x :: xs, [], _, _ => by rw [List.map_nil, List.map_cons, eqv_cn, decide_eq_false (fun z => by cases z)]
  | x :: xs, y :: ys, hx, hy => by
    rw [List.map_cons, List.map_cons, eqv_cons, eqv_sc (hx x List.mem_cons_self) (hy y List.mem_cons_self), eqv_scs (fun v m => hx v (List.mem_cons_of_mem _ m)) fun v m => hy v (List.mem_cons_of_mem _ m)]
    by_cases h : x = y
    · subst h
      by_cases g : xs = ys
      · subst g; simp
      · rw [decide_eq_false g, decide_eq_false (fun z => g (List.cons.inj z).2)]; simp
    · rw [decide_eq_false h, decide_eq_false (fun z => h (List.cons.inj z).1)]; rfl
theorem eqv_row {xs ys : List V} (hx : ∀ x ∈ xs, Scal x) (hy : ∀ y ∈ ys, Scal y) : PyData.eqv (rowD xs) (rowD ys) = decide (xs = ys) := by
  unfold rowD
  rw [eqv_tup]
  exact eqv_scs hx hy
theorem eqv_lst (xs ys : List PyData) : PyData.eqv (.list xs) (.list ys) = PyData.eqvAll xs ys := by rw [PyData.eqv]
/-- a fact is put into the table -/
def PutF (F : Fb) (n : Str) (r : Addr) (row : List V) (F' : Fb) : Prop := ∃ (q : Addr) (rs : List (Addr × List V)) (F1 : Fb) (k : Nat),
  ((F1 = F ∧ valG F n = some (q, rs)) ∨ (valG F n = none ∧ rs = [] ∧ F1 = F ++ [(n, q, [])])) ∧ k ≤ rs.length ∧ (Srt rs → Place rs row k) ∧
  ((F' = F1 ∧ ∃ t, rs[k]? = some t ∧ t.2 = row) ∨ (F' = putG F1 n (q, rs.take k ++ [(r, row)] ++ rs.drop k) ∧ ∀ t, rs[k]? = some t → t.2 ≠ row))
def spPutFact (K : PySem.W.Frag) (C : Addr) : Sp := fun vs H Q _ => ∃ (x r : Addr) (n : Str) (row : List V) (dr df ds dl : Addr) (Z : Addr → Prop) (R S : Tb) (F : Fb) (L : List (Str × V)) (b : Nat), vs = [.ref x, .str n, .ref r] ∧
  StAt K C Z H x dr df ds dl R F S L b ∧ b ≤ 900 ∧ SqT K H r row ∧ (∀ v ∈ row, Scal v) ∧ row.length ≤ 10 ∧
  ∀ F' H', PutF F n r row F' → StAt K C Z H' x dr df ds dl R F' S L (b + 1) → Kp Z H H' → Tk K H H' → Q .non H'
abbrev sput_fact : Stmt := topS 9
abbrev Nput_fact : List Str := ["state", "name", "row", "rows", "at"]
theorem scput_fact : FnScope Nput_fact ["state", "name", "row"] (defScope sput_fact) := ⟨rfl, rfl, rfl, by decide +kernel, rfl, by decide +kernel, by decide +kernel⟩
theorem kvF_val (F : Fb) (n : Str) : valV (kvF F) (Sum.inr n) = (valG F n).map fun b => V.ref b.1 := kvG_val _ _ _
section
variable {P : Program} {w : World} {K : PySem.W.Frag} {mg : Str → Option Value} {base : Heap} {C : Addr}
theorem ok_putfact {f : Addr} {fd : FuncData} (F0 : Fun K "put_fact" "put_fact" sput_fact f fd) (T : Bl mg) (X : Txt K mg C)
    (Dplace_of : Kn P w K mg base 3 "place_of" ["rows", "row"] (spPlace K)) :
    FnOk P w K mg base CX0 4 f fd ["state", "name", "row"] (spPutFact K C) := by
  refine F0.ok scput_fact (fun vs H Q E h => ?_) (fun cdv A outer s H vs Q E hr h => ?_)
  · obtain ⟨x, r, n, row, dr, df, ds, dl, Z, R, S, F, L, b, rfl, _⟩ := h
    rfl
  · obtain ⟨x, r, n, row, dr, df, ds, dl, Z, R, S, F, L, b, rfl, st, lb, hrow, srow, lrow, q⟩ := h
    refine ⟨_, (pss_mid (ps_set (i := 3) scput_fact.nd rfl (.inl rfl) (pe_dsetd (pe_fld (pv 0) rfl) (pv 1) (pe_lst pa_nil) ⟨rfl, rfl, rfl, rfl⟩))
      (pss_cons (ps_set (i := 4) scput_fact.nd rfl (.inl rfl) (pe_kn Dplace_of hr (pa_cons (pv 3) (pa_cons (pv 2) pa_nil))))
      (pss_one (ps_if (pt_cmpR (op_neD (hu64 hr)) (pe_slice sl_list (pv 3) (po_some (pv 4)) (po_some (pe_op op_add (pv 4) pe_int))) (pe_lst (pa_cons (pv 2) pa_nil)) (nomark _))
        (pss_one (ps_expr (pe_bm PySem.F.plainAttrs_list PySem.F.slot_list_insert PySem.F.type_list_insert mt_insert (pv 3) (pa_cons (pv 4) (pa_cons (pv 2) pa_nil))))) pss_nil)))), ?_⟩
    refine ⟨fun σ H1 => ∃ (l : Addr) (rs : List (Addr × List V)) (F1 : Fb), σ = [some (.ref x), some (.str n), some (.ref r), some (.ref l), none] ∧ StAt K C Z H1 x dr df ds dl R F1 S L (b + 1) ∧ valG F1 n = some (l, rs) ∧
        ((F1 = F ∧ valG F n = some (l, rs)) ∨ (valG F n = none ∧ rs = [] ∧ F1 = F ++ [(n, l, [])])) ∧ rs.length ≤ b ∧ Kp Z H H1 ∧ Tk K H H1, ?_, ?_⟩
    · obtain ⟨dx, ob⟩ := st.ob
      refine ⟨_, rfl, x, C, dx, _, _, rfl, ob, X.cl, X.nF, flds_f _ _ _ _, df, rfl, .inl ⟨_, .inl st.f⟩, _, rfl, sz 0, fun o no => ?_⟩
      have s1 := Same.new (o := .lst []) no
      have st1 := st.same s1
      have zo := st.nw o no
      refine ⟨kvF F, Sum.inr n, st1.f, rfl, ?_, fun v hv => ?_, fun hv => ?_⟩
      · unfold kvF kvG
        rw [List.length_map]
        exact small (m := 1000) (by have := st.ln; omega) (by decide)
      · rw [kvF_val] at hv
        cases e : valG F n with
        | none => rw [e] at hv; cases hv
        | some a =>
          rw [e] at hv
          have ev : V.ref a.1 = v := Option.some.inj hv
          subst ev
          have m := valG_mem e
          exact ⟨a.1, a.2, F, rfl, st1.up (by omega), e, .inl ⟨rfl, rfl⟩, (st.ft _ m).2.2, Kp.same s1, Tk.same s1⟩
      · rw [kvF_val] at hv
        have e : valG F n = none := by
          cases e : valG F n with
          | none => rfl
          | some a => rw [e] at hv; cases hv
        have nq : ∀ e ∈ F, e.2.1 ≠ o := fun e m w => by
          have := (st.ft e m).1
          rw [w, no] at this
          cases this
        refine ⟨o, [], F ++ [(n, o, [])], rfl, st1.name e upd_same zo nq, ?_, .inr ⟨e, rfl, rfl⟩, Nat.zero_le _, (Kp.same s1).trans (Kp.put st.z.2.1), (Tk.same s1).trans (Tk.dK st1.f)⟩
        refine valG_of ?_ (List.mem_append_right _ (List.mem_singleton.mpr rfl))
        exact (st1.name e upd_same zo nq).fn
    · rintro σ H1 ⟨l, rs, F1, rfl, st1, ev, how, lrs, kp1, tk1⟩
      have m1 := valG_mem ev
      obtain ⟨hl, ro, _⟩ := st1.ft _ m1
      have hl' : H1 l = some (.lst (rrefs rs)) := hl
      have ro' : RowsOk K H1 rs := ro
      have hrow1 := tk1 _ _ hrow
      refine ⟨_, rfl, _, rfl, l, r, rs, row, rfl, SqL.of hl', ro', hrow1, srow, lrow, by omega, fun k H2 lk pl s2 => ?_⟩
      have st2 := st1.same s2
      have hl2 := s2 _ _ hl'
      obtain ⟨ts, ec, mts, ets⟩ := cut_rows rs (some (k : Int)) (some ((k : Int) + 1))
      have i1 : HT.sIx rs.length 0 (some (k : Int)) = k := by rw [HT.sIx_nat]; omega
      have i2 : HT.sIx rs.length rs.length (some ((k : Int) + 1)) = min (k + 1) rs.length := by
        have := HT.sIx_nat rs.length rs.length (k + 1)
        rw [← this]
        rfl
      have one : ts = (rs[k]?).toList := by
        rw [ets, i1, i2]
        by_cases hk : k < rs.length
        · rw [List.getElem?_eq_getElem hk, List.drop_eq_getElem_cons hk]
          have : min (k + 1) rs.length - k = 1 := by omega
          rw [this]
          rfl
        · rw [List.getElem?_eq_none (by omega), List.drop_of_length_le (by omega), List.take_nil]
          rfl
      refine ⟨_, rfl, _, rfl, (k : Int), rfl, _, rfl, (k : Int), 1, rfl, rfl, (k : Int) + 1, rfl, l, rrefs rs, rfl, SqL.of hl2, fun p np => ?_⟩
      rw [ec]
      have s3 := Same.new (o := .lst (rrefs ts)) np
      have e3 := upd_same (H := H2) (a := p) (o := .lst (rrefs ts))
      generalize (upd H2 p (.lst (rrefs ts))) = H3 at *
      refine ⟨_, rfl, sz 1, fun u nu => ?_⟩
      have s4 := Same.new (o := .lst [V.ref r]) nu
      have e4 := upd_same (H := H3) (a := u) (o := .lst [V.ref r])
      generalize (upd H3 u (.lst [V.ref r])) = H4 at *
      have s24 := s3.trans s4
      have st4 := st2.same s24
      have hl4 := s24 _ _ hl2
      have ro4 := (ro'.same s2).same s24
      have hrow4 := Tk.same (s2.trans s24) _ _ hrow1
      have rts : RowsOk K H4 ts := fun t m => ro4 t (mts t m)
      have kp4 : Kp Z H H4 := kp1.trans (Kp.same (s2.trans s24))
      have tk4 : Tk K H H4 := tk1.trans (Tk.same (s2.trans s24))
      refine ⟨rwsD ts, .list [rowD row], .lst (SqL.of (s4 _ _ e3)) (rws_dp rts), .lst (SqL.of e4) (.cons (.tup hrow4 (sc_dp srow)) .nil), rws_shaped fun t m => (rts t m).2.1, ?_, _, rfl, ?_⟩
      · exact rws_shaped (rs := [(r, row)]) fun t m => by
          rw [List.mem_singleton.mp m]
          exact srow
      have eq1 : PyData.eqv (rwsD ts) (.list [rowD row]) = decide (∃ t, rs[k]? = some t ∧ t.2 = row) := by
        unfold rwsD
        rw [one, eqv_lst]
        cases e : rs[k]? with
        | none =>
          rw [decide_eq_false (fun ⟨t, h, _⟩ => by cases h)]
          show PyData.eqvAll [] _ = _
          rw [eqv_nc]
        | some t =>
          have mt := List.mem_of_getElem? e
          show PyData.eqvAll [rowD t.2] [rowD row] = _
          rw [eqv_cons, eqv_nil, Bool.and_true, eqv_row (ro' t mt).2.1 srow]
          refine decide_eq_decide.mpr ⟨fun h => ⟨t, rfl, h⟩, fun ⟨u, hu, h⟩ => ?_⟩
          rw [Option.some.inj hu]
          exact h
      rw [eq1]
      refine ite2 (fun e => ?_) (fun e => ?_)
      · have no1 : ∀ t, rs[k]? = some t → t.2 ≠ row := fun t ht hr => by
          rw [decide_eq_true ⟨t, ht, hr⟩] at e
          cases e
        have hr3 := st4.rows (rs' := rs.take k ++ [(r, row)] ++ rs.drop k) ev (fun t m => by
          rcases List.mem_append.mp m with m | m
          · rcases List.mem_append.mp m with m | m
            · exact ro4 t (List.mem_of_mem_take m)
            · rw [List.mem_singleton.mp m]
              exact ⟨hrow4, srow, lrow⟩
          · exact ro4 t (List.mem_of_mem_drop m)) (by
            rw [List.length_append, List.length_append, List.length_take, List.length_drop]
            show min k rs.length + 1 + (rs.length - k) ≤ b + 1
            omega)
        have er : (rrefs rs).take (k : Int).toNat ++ [V.ref r] ++ (rrefs rs).drop (k : Int).toNat = rrefs (rs.take k ++ [(r, row)] ++ rs.drop k) := by
          unfold rrefs
          rw [List.map_append, List.map_append, List.map_take, List.map_drop]
          rfl
        refine ⟨_, rfl, .inl ⟨rfl, _, .inl (.inl hl4)⟩, _, rfl, _, rfl, l, rrefs rs, (k : Int), .ref r, rfl, rfl, hl4, ?_, by omega, by omega, ?_⟩
        · rw [rrefs_len]
          exact small (m := 1000) (by omega) (by decide)
        · rw [er]
          exact q _ _ ⟨l, rs, F1, k, how, lk, pl, .inr ⟨rfl, no1⟩⟩ hr3.1 (kp4.trans hr3.2.1) (tk4.trans hr3.2.2)
      · have yes : ∃ t, rs[k]? = some t ∧ t.2 = row := by
          by_cases z : ∃ t, rs[k]? = some t ∧ t.2 = row
          · exact z
          · rw [decide_eq_false z] at e
            exact absurd rfl e
        exact q _ _ ⟨l, rs, F1, k, how, lk, pl, .inl ⟨rfl, yes⟩⟩ st4 kp4 tk4
end
end K1
namespace K1
open PySem PySem.Spec PyProof.Rows L2 Ow Tlz
/-! items -/
inductive It where
  | rel (n : Str) (c : List V)
  | fact (n : Str) (r : Addr) (row : List V)
  | str (n : Str) (c : List V)
  | lay (n : Str) (v : V)
def ItAt (K : PySem.W.Frag) (H : Hp) (a : Addr) : It → Prop
  | .rel n c => SqT K H a (.str "relation" :: .str n :: c)
  | .fact n r row => SqT K H a [.str "fact", .str n, .ref r] ∧ SqT K H r row ∧ (∀ v ∈ row, Scal v) ∧ row.length ≤ 10
  | .str n c => SqT K H a (.str "structure" :: .str n :: c)
  | .lay n v => SqT K H a [.str "layout", .str n, v]
theorem ItAt.tk {K : PySem.W.Frag} {H H' : Hp} {a : Addr} {i : It} (t : Tk K H H') (h : ItAt K H a i) : ItAt K H' a i := by
  cases i with
  | rel n c => exact t _ _ h
  | fact n r row => exact ⟨t _ _ h.1, t _ _ h.2.1, h.2.2⟩
  | str n c => exact t _ _ h
  | lay n v => exact t _ _ h
/-- an item is put into the tables -/
def PutI (R : Tb) (F : Fb) (S : Tb) (L : List (Str × V)) (i : It) (R' : Tb) (F' : Fb) (S' : Tb) (L' : List (Str × V)) : Prop := match i with
  | .rel n c => (∃ q, R' = putG R n (q, c)) ∧ (((valG F n).isSome = true ∧ F' = F) ∨ ∃ q, valG F n = none ∧ F' = F ++ [(n, q, [])]) ∧ S' = S ∧ L' = L
  | .fact n r row => PutF F n r row F' ∧ R' = R ∧ S' = S ∧ L' = L
  | .str n c => (∃ q, S' = putG S n (q, c)) ∧ R' = R ∧ F' = F ∧ L' = L
  | .lay n v => L' = putG L n v ∧ R' = R ∧ F' = F ∧ S' = S
def spPutItem (K : PySem.W.Frag) (C : Addr) : Sp := fun vs H Q _ => ∃ (x a : Addr) (i : It) (dr df ds dl : Addr) (Z : Addr → Prop) (R S : Tb) (F : Fb) (L : List (Str × V)) (b : Nat), vs = [.ref x, .ref a] ∧
  StAt K C Z H x dr df ds dl R F S L b ∧ b ≤ 900 ∧ ItAt K H a i ∧
  ∀ R' F' S' L' H', PutI R F S L i R' F' S' L' → StAt K C Z H' x dr df ds dl R' F' S' L' (b + 1) → Kp Z H H' → Tk K H H' → Q .non H'
abbrev sput_item : Stmt := topS 10
abbrev Nput_item : List Str := ["state", "item", "word", "name"]
theorem scput_item : FnScope Nput_item ["state", "item"] (defScope sput_item) := ⟨rfl, rfl, rfl, by decide +kernel, rfl, by decide +kernel, by decide +kernel⟩
section
variable {K : PySem.W.Frag} {C x dr df ds dl : Addr} {Z : Addr → Prop} {H H' : Hp} {R S : Tb} {F : Fb} {L : List (Str × V)} {b : Nat}
theorem none_upd {d : Addr} {o : HO} (nw : ∀ a, H a = none → Z a) : ∀ a, (upd H d o) a = none → Z a := fun a n => by
  by_cases w : a = d
  · rw [w, upd_same] at n
    cases n
  · rw [upd_ne w] at n
    exact nw a n
theorem StAt.rel {n : Str} {q : Addr} {c : List V} (h : StAt K C Z H x dr df ds dl R F S L b) (hq : SqT K H q c) :
    StAt K C Z (upd H dr (.dK (putK (kvR R) (Sum.inr n) (.ref q)))) x dr df ds dl (putG R n (q, c)) F S L (b + 1) := by
  obtain ⟨⟨dx, ob⟩, r, rt, f, ft, fz, fp, fn, s', st, l, z, ne, nw, ln⟩ := h
  have tk : Tk K H (upd H dr (.dK (putK (kvR R) (Sum.inr n) (.ref q)))) := Tk.dK r
  refine ⟨⟨dx, by rw [upd_ne (show x ≠ dr from fun w => z.2.2.2.2 (by rw [w]; exact z.1))]; exact ob⟩, ?_, fun e m => ?_, by rw [upd_ne ne.1.symm]; exact f, fun e m => ?_, fz, fp, fn, by rw [upd_ne ne.2.1.symm]; exact s', fun e m => tk _ _ (st e m),
    by rw [upd_ne ne.2.2.1.symm]; exact l, z, ne, none_upd nw, ?_⟩
  · rw [upd_same]
    have := kvG_put (fun b : Addr × List V => V.ref b.1) R n (q, c)
    exact congrArg (fun t => some (HO.dK t)) this
  · rcases putG_mem m with w | ⟨w, _⟩
    · rw [w]; exact tk _ _ hq
    · exact tk _ _ (rt e w)
  · have n1 : e.2.1 ≠ dr := fun w => by
      have := (ft e m).1
      rw [w, r] at this
      cases this
    exact ⟨by rw [upd_ne n1]; exact (ft e m).1, (ft e m).2.1.tk tk, by have := (ft e m).2.2; omega⟩
  · have := putG_len R n (q, c)
    omega
theorem StAt.stru {n : Str} {q : Addr} {c : List V} (h : StAt K C Z H x dr df ds dl R F S L b) (hq : SqT K H q c) :
    StAt K C Z (upd H ds (.dK (putK (kvR S) (Sum.inr n) (.ref q)))) x dr df ds dl R F (putG S n (q, c)) L (b + 1) := by
  obtain ⟨⟨dx, ob⟩, r, rt, f, ft, fz, fp, fn, s', st, l, z, ne, nw, ln⟩ := h
  have tk : Tk K H (upd H ds (.dK (putK (kvR S) (Sum.inr n) (.ref q)))) := Tk.dK s'
  refine ⟨⟨dx, by rw [upd_ne (show x ≠ ds from fun w => z.2.2.2.2 (by rw [w]; exact z.2.2.1))]; exact ob⟩, by rw [upd_ne ne.2.1]; exact r, fun e m => tk _ _ (rt e m), by rw [upd_ne ne.2.2.2.1]; exact f, fun e m => ?_, fz, fp, fn, ?_, fun e m => ?_,
    by rw [upd_ne ne.2.2.2.2.2.symm]; exact l, z, ne, none_upd nw, ?_⟩
  · have n1 : e.2.1 ≠ ds := fun w => by
      have := (ft e m).1
      rw [w, s'] at this
      cases this
    exact ⟨by rw [upd_ne n1]; exact (ft e m).1, (ft e m).2.1.tk tk, by have := (ft e m).2.2; omega⟩
  · rw [upd_same]
    have := kvG_put (fun b : Addr × List V => V.ref b.1) S n (q, c)
    exact congrArg (fun t => some (HO.dK t)) this
  · rcases putG_mem m with w | ⟨w, _⟩
    · rw [w]; exact tk _ _ hq
    · exact tk _ _ (st e w)
  · have := putG_len S n (q, c)
    omega
theorem StAt.lay {n : Str} {v : V} (h : StAt K C Z H x dr df ds dl R F S L b) :
    StAt K C Z (upd H dl (.dK (putK (kvG id L) (Sum.inr n) v))) x dr df ds dl R F S (putG L n v) (b + 1) := by
  obtain ⟨⟨dx, ob⟩, r, rt, f, ft, fz, fp, fn, s', st, l, z, ne, nw, ln⟩ := h
  have tk : Tk K H (upd H dl (.dK (putK (kvG id L) (Sum.inr n) v))) := Tk.dK l
  refine ⟨⟨dx, by rw [upd_ne (show x ≠ dl from fun w => z.2.2.2.2 (by rw [w]; exact z.2.2.2.1))]; exact ob⟩, by rw [upd_ne ne.2.2.1]; exact r, fun e m => tk _ _ (rt e m), by rw [upd_ne ne.2.2.2.2.1]; exact f, fun e m => ?_, fz, fp, fn,
    by rw [upd_ne ne.2.2.2.2.2]; exact s', fun e m => tk _ _ (st e m), ?_, z, ne, none_upd nw, ?_⟩
  · have n1 : e.2.1 ≠ dl := fun w => by
      have := (ft e m).1
      rw [w, l] at this
      cases this
    exact ⟨by rw [upd_ne n1]; exact (ft e m).1, (ft e m).2.1.tk tk, by have := (ft e m).2.2; omega⟩
  · rw [upd_same]
    exact congrArg (fun t => some (HO.dK t)) (kvG_put id L n v)
  · have := putG_len L n v
    omega
end
theorem kvG_len {β : Type} (vv : β → V) (l : List (Str × β)) : (kvG vv l).length = l.length := by unfold kvG; rw [List.length_map]
theorem cut2 (u v : V) (c : List V) : cutV (u :: v :: c) (some 2) none = c ∧ ¬ (HT.sIx (u :: v :: c).length 0 (some 2) = 0 ∧ HT.sIx (u :: v :: c).length (u :: v :: c).length none = (u :: v :: c).length) := by
  have i1 : HT.sIx (u :: v :: c).length 0 (some 2) = 2 := by
    have := HT.sIx_nat (u :: v :: c).length 0 2
    rw [show ((2 : Nat) : Int) = 2 from rfl] at this
    rw [this, List.length_cons, List.length_cons]
    omega
  refine ⟨?_, fun z => by rw [i1] at z; omega⟩
  unfold cutV
  rw [i1, HT.sIx_none]
  show c.take ((c.length + 1 + 1) - 2) = c
  exact List.take_of_length_le (by omega)
section
variable {P : Program} {w : World} {K : PySem.W.Frag} {mg : Str → Option Value} {base : Heap} {C : Addr}
theorem ok_putitem {f : Addr} {fd : FuncData} (F0 : Fun K "put_item" "put_item" sput_item f fd) (T : Bl mg) (X : Txt K mg C)
    (Dput_fact : Kn P w K mg base 4 "put_fact" ["state", "name", "row"] (spPutFact K C)) :
    FnOk P w K mg base CX0 5 f fd ["state", "item"] (spPutItem K C) := by
  refine F0.ok scput_item (fun vs H Q E h => ?_) (fun cdv A outer s H vs Q E hr h => ?_)
  · obtain ⟨x, a, i, dr, df, ds, dl, Z, R, S, F, L, b, rfl, _⟩ := h
    rfl
  · obtain ⟨x, a, i, dr, df, ds, dl, Z, R, S, F, L, b, rfl, st, lb, hi, q⟩ := h
    have hu := hu_of hr
    refine ⟨_, (pss_cons (ps_set (i := 2) scput_item.nd rfl (.inl rfl) (pe_ix ix_tup (pv 1) pe_int (fun _ _ => rfl)))
      (pss_cons (ps_set (i := 3) scput_item.nd rfl (.inl rfl) (pe_ix ix_tup (pv 1) pe_int (fun _ _ => rfl)))
      (pss_one (ps_if (pt_cmpR op_eq (pv 2) pe_str (nomark _)) (pss_cons (ps_dput hu (pe_fld (pv 0) rfl) (pv 3) (pe_slice sl_tupA (pv 1) (po_some pe_int) po_none) rfl)
      (pss_one (ps_expr (pe_dsetd (pe_fld (pv 0) rfl) (pv 3) (pe_lst pa_nil) ⟨rfl, rfl, rfl, rfl⟩)))) (pss_one (ps_if (pt_cmpR op_eq (pv 2) pe_str (nomark _)) (pss_one (ps_expr (pe_kn Dput_fact hr (pa_cons (pv 0) (pa_cons (pv 3) (pa_cons (pe_ix ix_tup (pv 1) pe_int (fun _ _ => rfl)) pa_nil)))))) (pss_one (ps_if (pt_cmpR op_eq (pv 2) pe_str (nomark _)) (pss_one (ps_dput hu (pe_fld (pv 0) rfl) (pv 3) (pe_slice sl_tupA (pv 1) (po_some pe_int) po_none) rfl)) (pss_one (ps_dput hu (pe_fld (pv 0) rfl) (pv 3) (pe_ix ix_tup (pv 1) pe_int (fun _ _ => rfl)) rfl)))))))))), ?_⟩
    have big : ∀ {β : Type} (vv : β → V) (l : List (Str × β)), l.length ≤ b → (kvG vv l).length < sizeLine := fun vv l hl => by
      rw [kvG_len]
      exact small (m := 1000) (by omega) (by decide)
    have n1 : ∀ {u v : Str}, u ≠ v → ¬ decide (V.str u = V.str v) = true := fun h e => h (V.str.inj (of_decide_eq_true e))
    cases i with
    | rel n c =>
      have ht : SqT K H a (.str "relation" :: .str n :: c) := hi
      obtain ⟨dx, ob⟩ := st.ob
      refine ⟨_, rfl, a, _, 0, _, rfl, rfl, ht, at_of (j := 0) rfl rfl, _, rfl, a, _, 1, _, rfl, rfl, ht, at_of (j := 1) rfl rfl, ?_⟩
      refine ⟨_, rfl, rfl, _, rfl, ite2 (fun _ => ?_) (fun e => absurd (decide_eq_true rfl) e)⟩
      refine ⟨_, rfl, 2, rfl, a, _, rfl, ht, fun w => absurd w (cut2 _ _ c).2, fun _ p np => ?_⟩
      rw [(cut2 _ _ c).1]
      have s1 := Same.new (o := .tup c) np
      have e1 := upd_same (H := H) (a := p) (o := .tup c)
      generalize (upd H p (.tup c)) = H1 at *
      have st1 := st.same s1
      have st2 := st1.rel (n := n) (SqT.of e1)
      have k1 : Kp Z H1 (upd H1 dr (.dK (putK (kvR R) (Sum.inr n) (.ref p)))) := Kp.put st.z.1
      have t1 : Tk K H1 (upd H1 dr (.dK (putK (kvR R) (Sum.inr n) (.ref p)))) := Tk.dK st1.r
      have dp := DPut.k (k := Sum.inr n) (v := .ref p) st1.r (big _ R st.ln.1)
      refine ⟨_, rfl, x, C, dx, _, _, rfl, s1 _ _ ob, X.cl, X.nR, flds_r _ _ _ _, _, rfl, dr, _, rfl, dp, ?_⟩
      have k2 : Kp Z H _ := (Kp.same s1).trans k1
      have t2 : Tk K H _ := (Tk.same s1).trans t1
      generalize (upd H1 dr (.dK (putK (kvR R) (Sum.inr n) (.ref p)))) = H2 at *
      obtain ⟨dx2, ob2⟩ := st2.ob
      refine ⟨_, rfl, x, C, dx2, _, _, rfl, ob2, X.cl, X.nF, flds_f _ _ _ _, df, rfl, .inl ⟨_, .inl st2.f⟩, _, rfl, sz 0, fun o no => ?_⟩
      have s3 := Same.new (o := .lst []) no
      have st3 := st2.same s3
      have zo := st2.nw o no
      have rr : PutI R F S L (.rel n c) (putG R n (p, c)) F S L ∨ valG F n = none := by
        cases e : valG F n with
        | none => exact .inr rfl
        | some v => exact .inl ⟨⟨p, rfl⟩, .inl ⟨by rw [e]; rfl, rfl⟩, rfl, rfl⟩
      refine ⟨kvF F, Sum.inr n, st3.f, rfl, big _ F st.ln.2.1, fun v hv => ?_, fun hv => ?_⟩
      · rcases rr with rr | rr
        · exact q _ _ _ _ _ rr st3 (k2.trans (Kp.same s3)) (t2.trans (Tk.same s3))
        · rw [kvF_val, rr] at hv
          cases hv
      · rw [kvF_val] at hv
        have e : valG F n = none := by
          cases e : valG F n with
          | none => rfl
          | some a => rw [e] at hv; cases hv
        have nq : ∀ e ∈ F, e.2.1 ≠ o := fun e m w => by
          have := (st2.ft e m).1
          rw [w, no] at this
          cases this
        have st4 := st3.name e upd_same zo nq
        obtain ⟨ob, r, rt, f, ft, fz, fp, fn, s', st', l', z, ne, nw, ln⟩ := st4
        have l2 : (putG R n (p, c)).length ≤ b + 1 := by have := putG_len R n (p, c); have := st.ln; omega
        have l3 : (F ++ [(n, o, ([] : List (Addr × List V)))]).length ≤ b + 1 := by rw [List.length_append]; have := st.ln; show F.length + 1 ≤ _; omega
        have l4 := st.ln
        refine q _ _ _ _ _ ⟨⟨p, rfl⟩, .inr ⟨o, e, rfl⟩, rfl, rfl⟩ ⟨ob, r, rt, f, fun u m => ⟨(ft u m).1, (ft u m).2.1, ?_⟩, fz, fp, fn, s', st', l', z, ne, nw, l2, l3, by omega, by omega⟩
          ((k2.trans (Kp.same s3)).trans (Kp.put st.z.2.1)) ((t2.trans (Tk.same s3)).trans (Tk.dK st3.f))
        rcases List.mem_append.mp m with m | m
        · have := (st.ft u m).2.2
          omega
        · rw [List.mem_singleton.mp m]
          exact Nat.zero_le _
    | fact n r row =>
      obtain ⟨ht, hrow, srow, lrow⟩ := hi
      refine ⟨_, rfl, a, _, 0, _, rfl, rfl, ht, at_of (j := 0) rfl rfl, _, rfl, a, _, 1, _, rfl, rfl, ht, at_of (j := 1) rfl rfl, ?_⟩
      refine ⟨_, rfl, rfl, _, rfl, ite2 (fun e => absurd e (n1 (by decide +kernel))) (fun _ => ?_)⟩
      refine ⟨_, rfl, rfl, _, rfl, ite2 (fun _ => ?_) (fun e => absurd (decide_eq_true rfl) e)⟩
      refine ⟨_, rfl, _, rfl, _, rfl, a, _, 2, _, rfl, rfl, ht, at_of (j := 2) rfl rfl, x, r, n, row, dr, df, ds, dl, Z, R, S, F, L, b, rfl, st, lb, hrow, srow, lrow, fun F' H' pf st' kp tk => ?_⟩
      exact q _ _ _ _ _ ⟨pf, rfl, rfl, rfl⟩ st' kp tk
    | str n c =>
      have ht : SqT K H a (.str "structure" :: .str n :: c) := hi
      obtain ⟨dx, ob⟩ := st.ob
      refine ⟨_, rfl, a, _, 0, _, rfl, rfl, ht, at_of (j := 0) rfl rfl, _, rfl, a, _, 1, _, rfl, rfl, ht, at_of (j := 1) rfl rfl, ?_⟩
      refine ⟨_, rfl, rfl, _, rfl, ite2 (fun e => absurd e (n1 (by decide +kernel))) (fun _ => ?_)⟩
      refine ⟨_, rfl, rfl, _, rfl, ite2 (fun e => absurd e (n1 (by decide +kernel))) (fun _ => ?_)⟩
      refine ⟨_, rfl, rfl, _, rfl, ite2 (fun _ => ?_) (fun e => absurd (decide_eq_true rfl) e)⟩
      refine ⟨_, rfl, 2, rfl, a, _, rfl, ht, fun w => absurd w (cut2 _ _ c).2, fun _ p np => ?_⟩
      rw [(cut2 _ _ c).1]
      have s1 := Same.new (o := .tup c) np
      have e1 := upd_same (H := H) (a := p) (o := .tup c)
      generalize (upd H p (.tup c)) = H1 at *
      have st1 := st.same s1
      have st2 := st1.stru (n := n) (SqT.of e1)
      have dp := DPut.k (k := Sum.inr n) (v := .ref p) st1.s (big _ S st.ln.2.2.1)
      refine ⟨_, rfl, x, C, dx, _, _, rfl, s1 _ _ ob, X.cl, X.nS, flds_s _ _ _ _, _, rfl, ds, _, rfl, dp, ?_⟩
      exact q _ _ _ _ _ ⟨⟨p, rfl⟩, rfl, rfl, rfl⟩ st2 ((Kp.same s1).trans (Kp.put st.z.2.2.1)) ((Tk.same s1).trans (Tk.dK st1.s))
    | lay n v =>
      have ht : SqT K H a [.str "layout", .str n, v] := hi
      obtain ⟨dx, ob⟩ := st.ob
      refine ⟨_, rfl, a, _, 0, _, rfl, rfl, ht, at_of (j := 0) rfl rfl, _, rfl, a, _, 1, _, rfl, rfl, ht, at_of (j := 1) rfl rfl, ?_⟩
      refine ⟨_, rfl, rfl, _, rfl, ite2 (fun e => absurd e (n1 (by decide +kernel))) (fun _ => ?_)⟩
      refine ⟨_, rfl, rfl, _, rfl, ite2 (fun e => absurd e (n1 (by decide +kernel))) (fun _ => ?_)⟩
      refine ⟨_, rfl, rfl, _, rfl, ite2 (fun e => absurd e (n1 (by decide +kernel))) (fun _ => ?_)⟩
      have dp := DPut.k (k := Sum.inr n) (v := v) st.l (big _ L st.ln.2.2.2)
      refine ⟨_, rfl, a, _, 2, _, rfl, rfl, ht, at_of (j := 2) rfl rfl, _, rfl, x, C, dx, _, _, rfl, ob, X.cl, X.nL, flds_l _ _ _ _, _, rfl, dl, _, rfl, dp, ?_⟩
      exact q _ _ _ _ _ ⟨rfl, rfl, rfl, rfl⟩ st.lay (Kp.put st.z.2.2.2.1) (Tk.dK st.l)
end
end K1
namespace K1
open PySem PySem.Spec PyProof.Rows L2 Ow Tlz
theorem SqL.gw {K : PySem.W.Frag} {H H' : Hp} {x a C dx : Addr} {fs : List (Str × V)} {xs : List V} (e : H x = some (.ins C dx fs)) (g : Gw x H H') (h : SqL K H a xs) : SqL K H' a xs := by
  rcases h with (h | ⟨o, h⟩) | h
  · exact .inl (.inl (g _ _ (fun z => by rw [z, e] at h; cases h) h))
  · exact .inl (.inr ⟨o, g _ _ (fun z => by rw [z, e] at h; cases h) h⟩)
  · exact .inr h
theorem Tk.gwi {K : PySem.W.Frag} {H H' : Hp} {x C dx : Addr} {fs : List (Str × V)} (e : H x = some (.ins C dx fs)) (g : Gw x H H') : Tk K H H' := by
  refine ⟨fun a xs h => ?_, fun a xs ⟨o, h, d⟩ => ⟨o, g _ _ (fun z => by rw [z, e] at h; cases h) h, d⟩⟩
  rcases h with (h | ⟨o, h⟩) | h
  · exact .inl (.inl (g _ _ (fun z => by rw [z, e] at h; cases h) h))
  · exact .inl (.inr ⟨o, g _ _ (fun z => by rw [z, e] at h; cases h) h⟩)
  · exact .inr h
/-- the tables behind some items, put one after another -/
inductive Puts : List It → Tb → Fb → Tb → List (Str × V) → Prop
  | nil : Puts [] [] [] [] []
  | snoc {is : List It} {i : It} {R S R' S' : Tb} {F F' : Fb} {L L' : List (Str × V)} : Puts is R F S L → PutI R F S L i R' F' S' L' → Puts (is ++ [i]) R' F' S' L'
theorem putF_len (f : Str) (v : V) : ∀ fs : List (Str × V), (putF f v fs).length ≤ fs.length + 1
  | [] => Nat.le_refl _
  | (g, x) :: r => by
    rw [putF]
    split
    · exact Nat.le_succ _
    · exact Nat.succ_le_succ (putF_len f v r)
def spInit (K : PySem.W.Frag) (C : Addr) : Sp := fun vs H Q _ => ∃ (x a dx : Addr) (its : List (Addr × It)), vs = [.ref x, .ref a] ∧ H x = some (.ins C dx []) ∧ SqL K H a (its.map fun t => .ref t.1) ∧ (∀ t ∈ its, ItAt K H t.1 t.2) ∧ its.length ≤ 300 ∧
  ∀ (dr df ds dl : Addr) (R S : Tb) (F : Fb) (L : List (Str × V)) H', StAt K C (fun b => H b = none) H' x dr df ds dl R F S L 300 → Puts (its.map (·.2)) R F S L → Gw x H H' → Q .non H'
def spInit0 (K : PySem.W.Frag) (C : Addr) : Sp := fun vs H Q _ => ∃ (x a dx : Addr), vs = [.ref x, .ref a] ∧ H x = some (.ins C dx []) ∧ SqT K H a [] ∧
  ∀ (dr df ds dl : Addr) H', StAt K C (fun b => H b = none) H' x dr df ds dl [] [] [] [] 300 → Gw x H H' → Q .non H'
abbrev sState : Stmt := topS 11
abbrev sInit : Stmt := inClass sState 0
abbrev NInit : List Str := ["self", "items", "item"]
theorem scInit : FnScope NInit ["self", "items"] (defScope sInit) := ⟨rfl, rfl, rfl, by decide +kernel, rfl, by decide +kernel, by decide +kernel⟩
/-- the four fields of a new State -/
structure New (C : Addr) (H H' : Hp) (x d1 d2 d3 d4 : Addr) : Prop where
  ob : ∃ dx, H' x = some (.ins C dx (flds (.ref d1) (.ref d2) (.ref d3) (.ref d4)))
  e1 : H' d1 = some (.dK [])
  e2 : H' d2 = some (.dK [])
  e3 : H' d3 = some (.dK [])
  e4 : H' d4 = some (.dK [])
  n1 : H d1 = none
  n2 : H d2 = none
  n3 : H d3 = none
  n4 : H d4 = none
  ne : d1 ≠ d2 ∧ d1 ≠ d3 ∧ d1 ≠ d4 ∧ d2 ≠ d3 ∧ d2 ≠ d4 ∧ d3 ≠ d4
  gw : Gw x H H'
theorem New.st {K : PySem.W.Frag} {C : Addr} {H H' : Hp} {x dx d1 d2 d3 d4 : Addr} (n : New C H H' x d1 d2 d3 d4) (hx : H x = some (.ins C dx [])) : StAt K C (fun b => H b = none) H' x d1 d2 d3 d4 [] [] [] [] 0 :=
  ⟨n.ob, n.e1, (fun _ m => nomatch m), n.e2, (fun _ m => nomatch m), (fun _ m => nomatch m), .nil, .nil, n.e3, (fun _ m => nomatch m), n.e4, ⟨n.n1, n.n2, n.n3, n.n4, by rw [hx]; exact fun z => nomatch z⟩, n.ne,
    fun a h => by
      by_cases w : a = x
      · obtain ⟨dx, ob⟩ := n.ob
        rw [w, ob] at h
        cases h
      · exact n.gw.free h w, ⟨Nat.le_refl _, Nat.le_refl _, Nat.le_refl _, Nat.le_refl _⟩⟩
theorem fund_ok {P : Program} {w : World} {K : PySem.W.Frag} {mg : Str → Option Value} {base : Heap} {x qual : Str} {st : Stmt} {dvs : List V} {kws : List (Str × V)} {f : Addr} {fd : FuncData} {N ps : List Str} {k : Nat} {sp : Sp}
    (F : FunD K x qual (defArgs st) (defBody st) (defScope st) dvs kws f fd) (S : FnScope N ps (defScope st)) (len : ∀ vs H Q E, sp vs H Q E → vs.length = ps.length)
    (hbody : ∀ (cdv : Value) (A : Around) (outer : List Env) (s : Shared) (H : Hp) (vs : List V) (Q : VK) (E : XK), Room k (A.deeper (envOfC qual (defScope st) s.heap.objs.size f cdv)) → sp vs H Q E →
      ∃ t, PSs (cxOf CX0 P w K mg base N qual (defScope st) f cdv A outer s H E).nox (defBody st) t ∧ t { nx := fun _ H' => Q .non H', rt := Q } (start N vs) H) : FnOk P w K mg base CX0 (k + 1) f fd ps sp := by
  refine F.ok S len fun cdv A outer s H vs Q E hr hsp => ?_
  obtain ⟨t, h, q⟩ := hbody cdv A outer s H vs Q E hr hsp
  exact ⟨t, h.nox, q⟩
section
variable {P : Program} {w : World} {K : PySem.W.Frag} {mg : Str → Option Value} {base : Heap} {C : Addr}
theorem ok_init {f : Addr} {fd : FuncData} {dvs : List V} {kws : List (Str × V)} (F0 : FunD K "__init__" "State.__init__" (defArgs sInit) (defBody sInit) (defScope sInit) dvs kws f fd) (T : Txt K mg C)
    (Dput_item : Kn P w K mg base 5 "put_item" ["state", "item"] (spPutItem K C)) :
    FnOk P w K mg base CX0 6 f fd ["self", "items"] (spInit K C) := by
  refine fund_ok F0 scInit (fun vs H Q E h => ?_) (fun cdv A outer s H vs Q E hr h => ?_)
  · obtain ⟨x, a, dx, its, rfl, _⟩ := h
    rfl
  · obtain ⟨x, a, dx, its, rfl, hx, ha, hi, li, q⟩ := h
    refine ⟨_, (pss_cons (ps_fld (pv 0) pe_dnewK rfl) (pss_cons (ps_fld (pv 0) pe_dnewK rfl) (pss_cons (ps_fld (pv 0) pe_dnewK rfl) (pss_cons (ps_fld (pv 0) pe_dnewK rfl)
      (pss_one (ps_for PassesOwn.never rfl (pi_list (pv 1)) (pg_name (i := 2) scInit.nd rfl (.inl rfl)) (pss_one (ps_expr (pe_kn Dput_item hr (pa_cons (pv 0) (pa_cons (pv 2) pa_nil))))))))))), ?_⟩
    refine fun d1 h1 => ?_
    have x1 : x ≠ d1 := ne_of_none hx h1
    refine ⟨_, rfl, x, C, dx, [], rfl, (by rw [upd_ne x1]; exact hx), T.cl, T.nR, (by show 0 < 1000; decide), ?_⟩
    refine fun d2 h2 => ?_
    have x2 : x ≠ d2 := ne_of_none upd_same h2
    refine ⟨_, rfl, x, C, dx, _, rfl, (by rw [upd_ne x2]; exact upd_same), T.cl, T.nF, (by show 1 < 1000; decide), ?_⟩
    refine fun d3 h3 => ?_
    have x3 : x ≠ d3 := ne_of_none upd_same h3
    refine ⟨_, rfl, x, C, dx, _, rfl, (by rw [upd_ne x3]; exact upd_same), T.cl, T.nS, (by
      have : (putF "facts" (V.ref d2) (putF "relations" (V.ref d1) [])).length ≤ 2 := by
        have := putF_len "facts" (V.ref d2) (putF "relations" (V.ref d1) [])
        exact Nat.le_trans this (Nat.succ_le_succ (putF_len "relations" (V.ref d1) []))
      exact Nat.lt_of_le_of_lt this (by decide)), ?_⟩
    refine fun d4 h4 => ?_
    have x4 : x ≠ d4 := ne_of_none upd_same h4
    refine ⟨_, rfl, x, C, dx, _, rfl, (by rw [upd_ne x4]; exact upd_same), T.cl, T.nL, (by
      have a1 := putF_len "structures" (V.ref d3) (putF "facts" (V.ref d2) (putF "relations" (V.ref d1) []))
      have a2 := putF_len "facts" (V.ref d2) (putF "relations" (V.ref d1) [])
      have a3 := putF_len "relations" (V.ref d1) []
      have a4 : ([] : List (Str × V)).length = 0 := rfl
      omega), ?_⟩
    have nw : New C H (upd (upd (upd (upd (upd (upd (upd (upd H d1 (.dK [])) x (.ins C dx (putF "relations" (.ref d1) []))) d2 (.dK [])) x (.ins C dx (putF "facts" (.ref d2) (putF "relations" (.ref d1) [])))) d3 (.dK [])) x
        (.ins C dx (putF "structures" (.ref d3) (putF "facts" (.ref d2) (putF "relations" (.ref d1) []))))) d4 (.dK [])) x (.ins C dx (putF "layouts" (.ref d4) (putF "structures" (.ref d3) (putF "facts" (.ref d2) (putF "relations" (.ref d1) [])))))) x d1 d2 d3 d4 := by
      have f2 : (upd H d1 (.dK [])) d2 = none := by rw [← upd_ne (H := upd H d1 (.dK [])) (a := x) (o := .ins C dx (putF "relations" (.ref d1) [])) x2.symm]; exact h2
      have n12 : d1 ≠ d2 := ne_of_none upd_same f2
      have f2' : H d2 = none := by rw [← upd_ne (H := H) (a := d1) (o := .dK []) n12.symm]; exact f2
      have f3a := h3
      rw [upd_ne x3.symm] at f3a
      have n23 : d2 ≠ d3 := ne_of_none upd_same f3a
      have f3b : (upd H d1 (.dK [])) d3 = none := by
        rw [upd_ne n23.symm, upd_ne x3.symm] at f3a
        exact f3a
      have n13 : d1 ≠ d3 := ne_of_none upd_same f3b
      have f3' : H d3 = none := by rw [upd_ne n13.symm] at f3b; exact f3b
      rw [upd_ne x4.symm] at h4
      have n34 : d3 ≠ d4 := ne_of_none upd_same h4
      rw [upd_ne n34.symm, upd_ne x4.symm] at h4
      have n24 : d2 ≠ d4 := ne_of_none upd_same h4
      rw [upd_ne n24.symm, upd_ne x4.symm] at h4
      have n14 : d1 ≠ d4 := ne_of_none upd_same h4
      rw [upd_ne n14.symm] at h4
      refine ⟨⟨dx, upd_same⟩, ?_, ?_, ?_, ?_, h1, f2', f3', h4, ⟨n12, n13, n14, n23, n24, n34⟩, ?_⟩
      · rw [upd_ne x1.symm, upd_ne n14, upd_ne x1.symm, upd_ne n13, upd_ne x1.symm, upd_ne n12, upd_ne x1.symm, upd_same]
      · rw [upd_ne x2.symm, upd_ne n24, upd_ne x2.symm, upd_ne n23, upd_ne x2.symm, upd_same]
      · rw [upd_ne x3.symm, upd_ne n34, upd_ne x3.symm, upd_same]
      · rw [upd_ne x4.symm, upd_same]
      · intro b o hb e
        rw [upd_ne hb, upd_ne (ne_of_none e h4), upd_ne hb, upd_ne (ne_of_none e f3'), upd_ne hb, upd_ne (ne_of_none e f2'), upd_ne hb, upd_ne (ne_of_none e h1)]
        exact e
    generalize (upd (upd (upd (upd (upd (upd (upd (upd H d1 (.dK [])) x (.ins C dx (putF "relations" (.ref d1) []))) d2 (.dK [])) x (.ins C dx (putF "facts" (.ref d2) (putF "relations" (.ref d1) [])))) d3 (.dK [])) x
        (.ins C dx (putF "structures" (.ref d3) (putF "facts" (.ref d2) (putF "relations" (.ref d1) []))))) d4 (.dK [])) x (.ins C dx (putF "layouts" (.ref d4) (putF "structures" (.ref d3) (putF "facts" (.ref d2) (putF "relations" (.ref d1) [])))))) = H1 at nw
    have st0 := nw.st (K := K) hx
    have sl1 := SqL.gw hx nw.gw ha
    refine ⟨_, rfl, a, rfl, ⟨_, sl1⟩, for_list (K := K) (a := a) (xs := its.map fun t => .ref t.1) (fun i σ H4 => ∃ (y2 : Option V) (R S : Tb) (F : Fb) (L : List (Str × V)), σ = [some (.ref x), some (.ref a), y2] ∧
        StAt K C (fun b => H b = none) H4 x d1 d2 d3 d4 R F S L i ∧ Puts ((its.take i).map (·.2)) R F S L ∧ Gw x H H4)
      ⟨none, [], [], [], [], rfl, st0, .nil, nw.gw⟩ (fun i σ H4 _ hP => ?_) (fun i y σ H4 hy hP => ?_) (fun σ H4 hP => ?_)⟩
    · obtain ⟨_, _, _, _, _, _, _, _, g⟩ := hP
      exact SqL.gw hx g ha
    · obtain ⟨y2, R, S, F, L, rfl, st, pu, g⟩ := hP
      rw [List.getElem?_map] at hy
      cases e : its[i]? with
      | none => rw [e] at hy; cases hy
      | some t =>
        rw [e] at hy
        have ey : V.ref t.1 = y := Option.some.inj hy
        subst ey
        have il : i < its.length := (List.getElem?_eq_some_iff.mp e).1
        refine ⟨_, rfl, _, rfl, x, t.1, t.2, d1, d2, d3, d4, _, R, S, F, L, i, rfl, st, by omega, (hi t (List.mem_of_getElem? e)).tk (Tk.gwi hx g), fun R' F' S' L' H' pi st' kp tk => ?_⟩
        refine ⟨_, R', S', F', L', rfl, st', ?_, fun b o nb hb => kp b o (fun (z : H b = none) => by rw [hb] at z; cases z) (g b o nb hb)⟩
        have e2 : its.take (i + 1) = its.take i ++ [t] := by rw [List.take_add_one, e]; rfl
        rw [e2, List.map_append]
        exact .snoc pu pi
    · obtain ⟨y2, R, S, F, L, rfl, st, pu, g⟩ := hP
      rw [List.length_map] at st pu
      rw [List.take_length] at pu
      exact q _ _ _ _ _ _ _ _ _ (st.up (by omega)) pu g
theorem ok_init0 {f : Addr} {fd : FuncData} {dvs : List V} {kws : List (Str × V)} (F0 : FunD K "__init__" "State.__init__" (defArgs sInit) (defBody sInit) (defScope sInit) dvs kws f fd) (T : Txt K mg C)
    (Dput_item : Kn P w K mg base 5 "put_item" ["state", "item"] (spPutItem K C)) :
    FnOk P w K mg base CX0 6 f fd ["self", "items"] (spInit0 K C) := by
  refine fund_ok F0 scInit (fun vs H Q E h => ?_) (fun cdv A outer s H vs Q E hr h => ?_)
  · obtain ⟨x, a, dx, rfl, _⟩ := h
    rfl
  · obtain ⟨x, a, dx, rfl, hx, ha, q⟩ := h
    refine ⟨_, (pss_cons (ps_fld (pv 0) pe_dnewK rfl) (pss_cons (ps_fld (pv 0) pe_dnewK rfl) (pss_cons (ps_fld (pv 0) pe_dnewK rfl) (pss_cons (ps_fld (pv 0) pe_dnewK rfl)
      (pss_one (ps_for PassesOwn.never rfl (pi_tup (pv 1)) (pg_name (i := 2) scInit.nd rfl (.inl rfl)) (pss_one (ps_expr (pe_kn Dput_item hr (pa_cons (pv 0) (pa_cons (pv 2) pa_nil))))))))))), ?_⟩
    refine fun d1 h1 => ?_
    have x1 : x ≠ d1 := ne_of_none hx h1
    refine ⟨_, rfl, x, C, dx, [], rfl, (by rw [upd_ne x1]; exact hx), T.cl, T.nR, (by show 0 < 1000; decide), ?_⟩
    refine fun d2 h2 => ?_
    have x2 : x ≠ d2 := ne_of_none upd_same h2
    refine ⟨_, rfl, x, C, dx, _, rfl, (by rw [upd_ne x2]; exact upd_same), T.cl, T.nF, (by show 1 < 1000; decide), ?_⟩
    refine fun d3 h3 => ?_
    have x3 : x ≠ d3 := ne_of_none upd_same h3
    refine ⟨_, rfl, x, C, dx, _, rfl, (by rw [upd_ne x3]; exact upd_same), T.cl, T.nS, (by
      have : (putF "facts" (V.ref d2) (putF "relations" (V.ref d1) [])).length ≤ 2 := by
        have := putF_len "facts" (V.ref d2) (putF "relations" (V.ref d1) [])
        exact Nat.le_trans this (Nat.succ_le_succ (putF_len "relations" (V.ref d1) []))
      exact Nat.lt_of_le_of_lt this (by decide)), ?_⟩
    refine fun d4 h4 => ?_
    have x4 : x ≠ d4 := ne_of_none upd_same h4
    refine ⟨_, rfl, x, C, dx, _, rfl, (by rw [upd_ne x4]; exact upd_same), T.cl, T.nL, (by
      have a1 := putF_len "structures" (V.ref d3) (putF "facts" (V.ref d2) (putF "relations" (V.ref d1) []))
      have a2 := putF_len "facts" (V.ref d2) (putF "relations" (V.ref d1) [])
      have a3 := putF_len "relations" (V.ref d1) []
      have a4 : ([] : List (Str × V)).length = 0 := rfl
      omega), ?_⟩
    have nw : New C H (upd (upd (upd (upd (upd (upd (upd (upd H d1 (.dK [])) x (.ins C dx (putF "relations" (.ref d1) []))) d2 (.dK [])) x (.ins C dx (putF "facts" (.ref d2) (putF "relations" (.ref d1) [])))) d3 (.dK [])) x
        (.ins C dx (putF "structures" (.ref d3) (putF "facts" (.ref d2) (putF "relations" (.ref d1) []))))) d4 (.dK [])) x (.ins C dx (putF "layouts" (.ref d4) (putF "structures" (.ref d3) (putF "facts" (.ref d2) (putF "relations" (.ref d1) [])))))) x d1 d2 d3 d4 := by
      have f2 : (upd H d1 (.dK [])) d2 = none := by rw [← upd_ne (H := upd H d1 (.dK [])) (a := x) (o := .ins C dx (putF "relations" (.ref d1) [])) x2.symm]; exact h2
      have n12 : d1 ≠ d2 := ne_of_none upd_same f2
      have f2' : H d2 = none := by rw [← upd_ne (H := H) (a := d1) (o := .dK []) n12.symm]; exact f2
      have f3a := h3
      rw [upd_ne x3.symm] at f3a
      have n23 : d2 ≠ d3 := ne_of_none upd_same f3a
      have f3b : (upd H d1 (.dK [])) d3 = none := by
        rw [upd_ne n23.symm, upd_ne x3.symm] at f3a
        exact f3a
      have n13 : d1 ≠ d3 := ne_of_none upd_same f3b
      have f3' : H d3 = none := by rw [upd_ne n13.symm] at f3b; exact f3b
      rw [upd_ne x4.symm] at h4
      have n34 : d3 ≠ d4 := ne_of_none upd_same h4
      rw [upd_ne n34.symm, upd_ne x4.symm] at h4
      have n24 : d2 ≠ d4 := ne_of_none upd_same h4
      rw [upd_ne n24.symm, upd_ne x4.symm] at h4
      have n14 : d1 ≠ d4 := ne_of_none upd_same h4
      rw [upd_ne n14.symm] at h4
      refine ⟨⟨dx, upd_same⟩, ?_, ?_, ?_, ?_, h1, f2', f3', h4, ⟨n12, n13, n14, n23, n24, n34⟩, ?_⟩
      · rw [upd_ne x1.symm, upd_ne n14, upd_ne x1.symm, upd_ne n13, upd_ne x1.symm, upd_ne n12, upd_ne x1.symm, upd_same]
      · rw [upd_ne x2.symm, upd_ne n24, upd_ne x2.symm, upd_ne n23, upd_ne x2.symm, upd_same]
      · rw [upd_ne x3.symm, upd_ne n34, upd_ne x3.symm, upd_same]
      · rw [upd_ne x4.symm, upd_same]
      · intro b o hb e
        rw [upd_ne hb, upd_ne (ne_of_none e h4), upd_ne hb, upd_ne (ne_of_none e f3'), upd_ne hb, upd_ne (ne_of_none e f2'), upd_ne hb, upd_ne (ne_of_none e h1)]
        exact e
    generalize (upd (upd (upd (upd (upd (upd (upd (upd H d1 (.dK [])) x (.ins C dx (putF "relations" (.ref d1) []))) d2 (.dK [])) x (.ins C dx (putF "facts" (.ref d2) (putF "relations" (.ref d1) [])))) d3 (.dK [])) x
        (.ins C dx (putF "structures" (.ref d3) (putF "facts" (.ref d2) (putF "relations" (.ref d1) []))))) d4 (.dK [])) x (.ins C dx (putF "layouts" (.ref d4) (putF "structures" (.ref d3) (putF "facts" (.ref d2) (putF "relations" (.ref d1) [])))))) = H1 at nw
    have st0 := nw.st (K := K) hx
    have sl1 := Tk.gwi hx nw.gw _ _ ha
    refine ⟨_, rfl, a, rfl, ⟨_, sl1⟩, for_tup (K := K) (a := a) (xs := []) (fun i σ H4 => H4 = H1) rfl (fun i σ H4 _ hP => ?_) (fun i y σ H4 hy hP => ?_) (fun σ H4 hP => ?_)⟩
    · rw [hP]; exact sl1
    · cases hy
    · rw [hP]
      exact q _ _ _ _ _ (st0.up (by decide)) nw.gw
end
end K1
namespace K1
open PySem PySem.Spec PyProof.Rows L2 Ow
abbrev swrite_number : Stmt := topS 18
abbrev Nwrite_number : List Str := ["number", "data"]
theorem scwrite_number : FnScope Nwrite_number ["number"] (defScope swrite_number) := ⟨rfl, rfl, rfl, by decide +kernel, rfl, by decide +kernel, by decide +kernel⟩
abbrev N_law_number : List Str := ["number", "data"]
/-- a def that hands back a new list of ints -/
def MkL (H : Hp) (Q : VK) (xs : List Int) : Prop := ∀ H' p, Same H H' → H p = none → H' p = some (.lst (xs.map V.int)) → Q (.ref p) H'
def spNumber : Sp := fun vs H Q _ => ∃ n : Nat, vs = [.int (n : Int)] ∧ n < 2 ^ 140 ∧ MkL H Q (numB n)
def mu1 : L2.St → Hp → Nat := fun σ _ => match σ with
  | some (.int n) :: _ => n.toNat
  | _ => 0
section
variable {P : Program} {w : World} {K : PySem.W.Frag} {mg : Str → Option Value} {base : Heap}
theorem ok_number {f : Addr} {fd : FuncData} (F : Fun K "write_number" "write_number" swrite_number f fd) (T : Bl mg) :
    FnOk P w K mg base CX0 1 f fd ["number"] spNumber := by
  refine F.ok scwrite_number (fun vs H Q E h => ?_) (fun cdv A outer s H vs Q E hr h => ?_)
  · obtain ⟨n, rfl, _⟩ := h
    rfl
  · obtain ⟨N, rfl, hN, q⟩ := h
    refine ⟨_, (pss_cons (ps_set (i := 1) scwrite_number.nd rfl (.inl rfl) (pe_lst pa_nil))
      (pss_cons (ps_while PassesOwn.never (pt_cmpR op_gt (pv 0) pe_int (nomark _)) (pss_cons (ps_expr (pe_bm PySem.F.plainAttrs_list PySem.F.slot_list_append PySem.F.type_list_append mt_append (pv 1) (pa_cons (pe_op op_add pe_int (pe_op op_and (pv 0) pe_int)) pa_nil)))
        (pss_one (ps_set (i := 0) scwrite_number.nd rfl (.inl rfl) (pe_op op_shr (pv 0) pe_int)))))
      (pss_cons (ps_expr (pe_bm PySem.F.plainAttrs_list PySem.F.slot_list_append PySem.F.type_list_append mt_append (pv 1) (pa_cons (pv 0) pa_nil)))
      (pss_one (ps_ret (pv 1)))))), ?_⟩
    have lN := numB_20 hN
    refine ⟨Nat.zero_le _, fun o no => ?_⟩
    refine while_by (fun σ H2 => ∃ (n : Nat) (acc : List Int), σ = [some (.int (n : Int)), some (.ref o)] ∧ Same H H2 ∧ H2 o = some (.lst (acc.map V.int)) ∧ acc ++ numB n = numB N) mu1
      ⟨N, [], rfl, Same.new no, upd_same, rfl⟩ ?_ ?_
    · rintro σ H2 ⟨n, acc, rfl, sm, eo, ea⟩
      have la : acc.length ≤ 21 := by
        have := congrArg List.length ea
        rw [List.length_append] at this
        omega
      refine ⟨_, rfl, _, _, rfl, rfl, _, rfl, ite2 (fun e => ?_) (fun e => ?_)⟩
      · have e1 : (127 : Int) < (n : Int) := of_decide_eq_true e
        refine ⟨_, rfl, .inl ⟨rfl, _, .inl (.inl eo)⟩, _, rfl, (n : Int), 127, rfl, rfl, 128, _, rfl, rfl, o, acc.map V.int, _, rfl, rfl, eo, ?_, ?_⟩
        · rw [List.length_map]
          exact small la (by decide)
        · refine ⟨_, rfl, (n : Int), 7, rfl, rfl, (by show (0 : Int) ≤ 7; decide), ⟨n / 128, acc ++ [128 + (n : Int) % 128], ?_, Same.over sm no, ?_, ?_⟩, ?_⟩
          · rfl
          · rw [upd_same, List.map_append, bitAnd_m7]
            rfl
          · rw [numB_big (by omega)] at ea
            rw [List.append_assoc]
            exact ea
          · show n / 128 < n
            omega
      · have e1 : ¬ (127 : Int) < (n : Int) := fun z => e (decide_eq_true z)
        rw [numB_small (by omega)] at ea
        refine ⟨_, rfl, .inl ⟨rfl, _, .inl (.inl eo)⟩, _, rfl, o, acc.map V.int, _, rfl, rfl, eo, ?_, ?_⟩
        · rw [List.length_map]
          exact small la (by decide)
        · refine ⟨_, rfl, q _ _ (Same.over sm no) no ?_⟩
          rw [upd_same, ← ea, List.map_append]
          rfl
    · rintro σ H2 Q1 Q2 hq ⟨v, hv, i, j, hi, hj, k, hk, z⟩
      exact ⟨v, hv, i, j, hi, hj, k, hk, hq _ _ z⟩
end
end K1
namespace K1
open PySem PySem.Spec PyProof.Rows L2 Ow
abbrev swrite_integer : Stmt := topS 19
abbrev Nwrite_integer : List Str := ["number", "sign"]
theorem scwrite_integer : FnScope Nwrite_integer ["number"] (defScope swrite_integer) := ⟨rfl, rfl, rfl, by decide +kernel, rfl, by decide +kernel, by decide +kernel⟩
abbrev swrite_string : Stmt := topS 20
abbrev Nwrite_string : List Str := ["text", "char"]
theorem scwrite_string : FnScope Nwrite_string ["text"] (defScope swrite_string) := ⟨rfl, rfl, rfl, by decide +kernel, rfl, by decide +kernel, by decide +kernel⟩
abbrev swrite_value : Stmt := topS 21
abbrev Nwrite_value : List Str := ["value"]
theorem scwrite_value : FnScope Nwrite_value ["value"] (defScope swrite_value) := ⟨rfl, rfl, rfl, by decide +kernel, rfl, by decide +kernel, by decide +kernel⟩
abbrev swrite_row : Stmt := topS 22
abbrev Nwrite_row : List Str := ["row", "data", "value"]
theorem scwrite_row : FnScope Nwrite_row ["row"] (defScope swrite_row) := ⟨rfl, rfl, rfl, by decide +kernel, rfl, by decide +kernel, by decide +kernel⟩
def spInteger : Sp := fun vs H Q _ => ∃ i : Int, vs = [.int i] ∧ i.natAbs < 2 ^ 140 ∧ MkL H Q (intB i)
def spString : Sp := fun vs H Q _ => ∃ z : Str, vs = [.str z] ∧ Pr z ∧ z.length ≤ 200 ∧ MkL H Q (strB z)
def spVB : Sp := fun vs H Q _ => ∃ x : V, vs = [x] ∧ Scal x ∧ MkL H Q (valB x)
def spRB (K : PySem.W.Frag) : Sp := fun vs H Q _ => ∃ (a : Addr) (xs : List V), vs = [.ref a] ∧ SqT K H a xs ∧ (∀ x ∈ xs, Scal x) ∧ xs.length ≤ 10 ∧ MkL H Q (rowB xs)
theorem abs_eq (i : Int) : (if i < 0 then -i else i) = ((i.natAbs : Nat) : Int) := by split <;> omega
theorem take_snoc {α : Type} {xs : List α} {i : Nat} {x : α} (h : xs[i]? = some x) : xs.take (i + 1) = xs.take i ++ [x] := by
  rw [List.take_add_one, h]
  rfl
theorem cp_take {z : Str} {i c : Nat} (h : z.cps[i]? = some c) : (cpB z).take (i + 1) = (cpB z).take i ++ [(c : Int)] := by
  refine take_snoc ?_
  unfold cpB
  rw [List.getElem?_map]
  have : z.cps.toList[i]? = some c := by rw [Array.getElem?_toList]; exact h
  rw [this]
  rfl
section
variable {P : Program} {w : World} {K : PySem.W.Frag} {mg : Str → Option Value} {base : Heap}
theorem ok_integer {f : Addr} {fd : FuncData} (F : Fun K "write_integer" "write_integer" swrite_integer f fd) (T : Bl mg)
    (Dwrite_number : Kn P w K mg base 1 "write_number" ["number"] spNumber) :
    FnOk P w K mg base CX0 2 f fd ["number"] spInteger := by
  refine F.ok scwrite_integer (fun vs H Q E h => ?_) (fun cdv A outer s H vs Q E hr h => ?_)
  · obtain ⟨i, rfl, _⟩ := h
    rfl
  · obtain ⟨i, rfl, hi, q⟩ := h
    refine ⟨_, (pss_cons (ps_set (i := 1) scwrite_integer.nd rfl (.inl rfl) (pe_ifExp (pt_cmpR op_lt (pv 0) pe_int (nomark _)) pe_int pe_int))
      (pss_one (ps_ret (pe_op op_cat (pe_lst (pa_cons (pv 1) pa_nil)) (pe_kn Dwrite_number hr (pa_cons (pe_callB call_abs (by rfl) T.abs (by decide +kernel) (pa_cons (pv 0) pa_nil)) pa_nil)))))), ?_⟩
    have ln := numB_20 hi
    have fin : ∀ (t : Addr) (nt : H t = none) (s : Int) (hs : s = if i < 0 then 1 else 0) (H1 : Hp) (p : Addr), Same (upd H t (.lst [.int s])) H1 → (upd H t (.lst [.int s])) p = none → H1 p = some (.lst ((numB i.natAbs).map V.int)) →
        rCat (.ref t) (.ref p) H1 Q := fun t nt s hs H1 p sm np hp => by
      refine ⟨t, p, [.int s], (numB i.natAbs).map V.int, rfl, rfl, sm _ _ upd_same, hp, ?_, fun u nu => ?_⟩
      · rw [List.length_map]
        exact sz _ (by show 1 + (numB i.natAbs).length ≤ 1000; omega)
      · refine q _ _ (((Same.new nt).trans sm).trans (Same.new nu)) (((Same.new nt).trans sm).free nu) ?_
        rw [upd_same, hs]
        rfl
    refine ⟨_, rfl, _, _, rfl, rfl, _, rfl, ite2 (fun e => ?_) (fun e => ?_)⟩
    · have e1 : i < 0 := of_decide_eq_true e
      refine ⟨_, rfl, sz 1, fun t nt => ⟨_, rfl, i, rfl, i.natAbs, by rw [abs_eq]; rfl, hi, fun H1 p sm np hp => fin t nt 1 (by rw [if_pos e1]) H1 p sm np hp⟩⟩
    · have e1 : ¬ i < 0 := fun z => e (decide_eq_true z)
      refine ⟨_, rfl, sz 1, fun t nt => ⟨_, rfl, i, rfl, i.natAbs, by rw [abs_eq]; rfl, hi, fun H1 p sm np hp => fin t nt 0 (by rw [if_neg e1]) H1 p sm np hp⟩⟩
theorem ok_string {f : Addr} {fd : FuncData} (F : Fun K "write_string" "write_string" swrite_string f fd) (T : Bl mg)
    (Dwrite_number : Kn P w K mg base 1 "write_number" ["number"] spNumber) :
    FnOk P w K mg base CX0 2 f fd ["text"] spString := by
  refine F.ok scwrite_string (fun vs H Q E h => ?_) (fun cdv A outer s H vs Q E hr h => ?_)
  · obtain ⟨z, rfl, _⟩ := h
    rfl
  · obtain ⟨z, rfl, pz, lz, q⟩ := h
    refine ⟨_, (pss_one (ps_ret (pe_op op_cat (pe_kn Dwrite_number hr (pa_cons (pe_callB call_len_str (by rfl) T.len PySem.boot_len (pa_cons (pv 0) pa_nil)) pa_nil)) (pe_lc (own := [("char", 1)]) (g := gName 1) rfl scwrite_string.nd (pi_str (pv 0)) (blkOk_by (own := [("char", 1)]) (N := Nwrite_string) (sc := defScope swrite_string) (by decide +kernel)) (fun _ _ _ _ _ => pg_name (i := 1) scwrite_string.nd rfl (Or.inl rfl)) (fun _ _ _ _ _ => pts_nil) (fun _ _ _ _ _ => (pe_callB call_ord (by rfl) T.ord (by decide +kernel) (pa_cons (pv 1) pa_nil))))))), ?_⟩
    refine ⟨_, rfl, z, rfl, Nat.le_trans lz (by decide), z.length, rfl, Nat.lt_of_le_of_lt lz (by decide), fun H1 p sm np hp => ?_⟩
    refine ⟨_, rfl, z, rfl, fun D nD => lc_str (x := z) (fun i H4 => H4 D = some (.lst (((cpB z).take i).map V.int)) ∧ Same H1 H4) ⟨upd_same, Same.new nD⟩ (fun i c H4 hc hP => ?_) (fun H4 hP => ?_)⟩
    · obtain ⟨eD, s4⟩ := hP
      refine ⟨rfl, ?_⟩
      refine ⟨_, rfl, _, rfl, rfl, _, eD, ?_, ?_, Same.over s4 nD⟩
      · rw [List.length_map, List.length_take, cpB_len]
        exact small (m := 200) (by omega) (by decide)
      · rw [upd_same, cp_take hc, List.map_append]
        rfl
    · obtain ⟨eD, s4⟩ := hP
      have e : (cpB z).take z.cps.size = cpB z := List.take_of_length_le (by rw [cpB_len]; exact Nat.le_refl _)
      rw [e] at eD
      have ln := strB_len lz
      refine ⟨p, D, _, _, rfl, rfl, s4 _ _ hp, eD, ?_, fun u nu => q _ _ ((sm.trans s4).trans (Same.new nu)) ((sm.trans s4).free nu) ?_⟩
      · rw [← List.length_append, ← List.map_append, List.length_map]
        exact sz _ (Nat.le_trans ln (by decide))
      · rw [upd_same, ← List.map_append]
        rfl
theorem ok_wvalue {f : Addr} {fd : FuncData} (F : Fun K "write_value" "write_value" swrite_value f fd) (T : Bl mg)
    (Dwrite_string : Kn P w K mg base 2 "write_string" ["text"] spString)
    (Dwrite_integer : Kn P w K mg base 2 "write_integer" ["number"] spInteger) :
    FnOk P w K mg base CX0 3 f fd ["value"] spVB := by
  refine F.ok scwrite_value (fun vs H Q E h => ?_) (fun cdv A outer s H vs Q E hr h => ?_)
  · obtain ⟨i, rfl, _⟩ := h
    rfl
  · obtain ⟨x, rfl, sx, q⟩ := h
    refine ⟨_, (pss_cons (ps_if (pt_val (pe_callB call_isi (by rfl) T.isinstance (by decide +kernel) (pa_cons (pv 0) (pa_cons (pe_ty "str" (by rfl) T.str (by decide +kernel)) pa_nil)))) (pss_one (ps_ret (pe_op op_cat (pe_lst (pa_cons pe_int pa_nil)) (pe_kn Dwrite_string hr (pa_cons (pv 0) pa_nil))))) pss_nil)
      (pss_one (ps_ret (pe_op op_cat (pe_lst (pa_cons pe_int pa_nil)) (pe_kn Dwrite_integer hr (pa_cons (pv 0) pa_nil)))))), ?_⟩
    have fin : ∀ (t : Addr) (nt : H t = none) (s : Int) (bs : List Int) (hs : valB x = s :: bs) (H1 : Hp) (p : Addr), Same (upd H t (.lst [.int s])) H1 → (upd H t (.lst [.int s])) p = none → H1 p = some (.lst (bs.map V.int)) →
        rCat (.ref t) (.ref p) H1 Q := fun t nt s bs hs H1 p sm np hp => by
      have l := valB_len sx
      rw [hs, List.length_cons] at l
      refine ⟨t, p, [.int s], bs.map V.int, rfl, rfl, sm _ _ upd_same, hp, ?_, fun u nu => ?_⟩
      · rw [List.length_map]
        exact sz _ (by show 1 + bs.length ≤ 1000; omega)
      · refine q _ _ (((Same.new nt).trans sm).trans (Same.new nu)) (((Same.new nt).trans sm).free nu) ?_
        rw [upd_same, hs]
        rfl
    rcases sx with ⟨i, rfl, hi⟩ | ⟨z, rfl, pz, lz⟩
    · refine ⟨_, rfl, _, _, .type "int", .type "str", false, rfl, .ty _, .base (.int i), kit_ty (by decide +kernel), ?_⟩
      refine ⟨_, rfl, iteF ?_⟩
      exact ⟨sz 1, fun t nt => ⟨_, rfl, i, rfl, hi, fun H1 p sm np hp => fin t nt 0 _ rfl H1 p sm np hp⟩⟩
    · refine ⟨_, rfl, _, _, .type "str", .type "str", true, rfl, .ty _, .base (.str z), kit_ty (by decide +kernel), ?_⟩
      refine ⟨_, rfl, iteT ?_⟩
      exact ⟨sz 1, fun t nt => ⟨_, rfl, z, rfl, pz, lz, fun H1 p sm np hp => fin t nt 1 _ rfl H1 p sm np hp⟩⟩
theorem rowB_eq (xs : List V) : rowB xs = numB xs.length ++ (xs.map valB).flatten := by
  unfold rowB listB
  rw [List.length_map]
theorem row_pre {xs : List V} {i : Nat} {x : V} (h : xs[i]? = some x) :
    numB xs.length ++ ((xs.take (i + 1)).map valB).flatten = (numB xs.length ++ ((xs.take i).map valB).flatten) ++ valB x := by
  rw [take_snoc h, List.map_append, List.flatten_append, List.append_assoc]
  simp
theorem row_pre_len {xs : List V} (h : ∀ x ∈ xs, Scal x) (l : xs.length ≤ 10) (i : Nat) : (numB xs.length ++ ((xs.take i).map valB).flatten).length ≤ 2300 := by
  have h1 := flat_len (xs := (xs.take i).map valB) (b := 222) fun y m => by
    obtain ⟨x, mx, rfl⟩ := List.mem_map.mp m
    exact valB_len (h x (List.mem_of_mem_take mx))
  rw [List.length_map, List.length_take] at h1
  have h2 := numB_20 (n := xs.length) (Nat.lt_of_le_of_lt l (by decide))
  rw [List.length_append]
  have h3 : min i xs.length * 222 ≤ 10 * 222 := Nat.mul_le_mul_right _ (by omega)
  omega
theorem ok_wrow {f : Addr} {fd : FuncData} (F : Fun K "write_row" "write_row" swrite_row f fd) (T : Bl mg)
    (Dwrite_number : Kn P w K mg base 1 "write_number" ["number"] spNumber)
    (Dwrite_value : Kn P w K mg base 3 "write_value" ["value"] spVB) :
    FnOk P w K mg base CX0 4 f fd ["row"] (spRB K) := by
  refine F.ok scwrite_row (fun vs H Q E h => ?_) (fun cdv A outer s H vs Q E hr h => ?_)
  · obtain ⟨a, xs, rfl, _⟩ := h
    rfl
  · obtain ⟨a, xs, rfl, hx, sx, lx, q⟩ := h
    refine ⟨_, (pss_cons (ps_set (i := 1) scwrite_row.nd rfl (.inl rfl) (pe_kn Dwrite_number hr (pa_cons (pe_callB call_len_seq (by rfl) T.len PySem.boot_len (pa_cons (pv 0) pa_nil)) pa_nil)))
      (pss_cons (ps_for PassesOwn.never rfl (pi_tup (pv 0)) (pg_name (i := 2) scwrite_row.nd rfl (.inl rfl)) (pss_one (ps_expr (pe_bm PySem.F.plainAttrs_list PySem.F.slot_list_extend PySem.F.type_list_extend mt_extend (pv 1) (pa_cons (pe_kn Dwrite_value hr (pa_cons (pv 2) pa_nil)) pa_nil)))))
      (pss_one (ps_ret (pv 1))))), ?_⟩
    refine ⟨_, rfl, a, xs, rfl, .inr hx, xs.length, rfl, Nat.lt_of_le_of_lt lx (by decide), fun H1 o sm no ho => ?_⟩
    refine ⟨_, rfl, a, rfl, ⟨_, Tk.same sm _ _ hx⟩, for_tup (K := K) (a := a) (xs := xs) (fun i σ H4 => ∃ y2 : Option V, σ = [some (.ref a), some (.ref o), y2] ∧ Same H H4 ∧ H4 o = some (.lst ((numB xs.length ++ ((xs.take i).map valB).flatten).map V.int)))
      ⟨none, rfl, sm, by rw [ho]; simp⟩ (fun i σ H4 hi hP => ?_) (fun i x σ H4 hi hP => ?_) (fun σ H4 hP => ?_)⟩
    · obtain ⟨y2, _, s4, _⟩ := hP
      exact Tk.same s4 _ _ hx
    · obtain ⟨y2, rfl, s4, eo⟩ := hP
      refine ⟨_, rfl, .inl ⟨rfl, _, .inl (.inl eo)⟩, _, rfl, x, rfl, sx x (List.mem_of_getElem? hi), fun H5 p s5 np hp => ?_⟩
      refine ⟨o, p, _, _, rfl, rfl, s5 _ _ eo, hp, ?_, _, rfl, Same.over (s4.trans s5) no, ?_⟩
      · rw [← List.length_append, ← List.map_append, List.length_map, ← row_pre hi]
        exact Nat.le_trans (row_pre_len sx lx _) (by decide)
      · rw [upd_same, row_pre hi, ← List.map_append]
    · obtain ⟨y2, rfl, s4, eo⟩ := hP
      rw [List.take_length, ← rowB_eq] at eo
      exact ⟨_, rfl, q _ _ s4 no eo⟩
end
end K1
namespace K1
open PySem PySem.Spec PyProof.Rows L2 Ow
abbrev N_law_listed : List Str := ["parts", "data", "part"]
abbrev N_law_string : List Str := ["text", "chars", "codes", "char"]
abbrev N_law_value_bytes : List Str := ["value"]
abbrev N_law_row_bytes : List Str := ["row", "value"]
/-- the lists of ints at the addresses -/
def Parts (H : Hp) (qs : List (Addr × List Int)) : Prop := ∀ t ∈ qs, H t.1 = some (.lst (t.2.map V.int))
def refs (qs : List (Addr × List Int)) : List V := qs.map fun t => .ref t.1
theorem Parts.same {H H' : Hp} {qs : List (Addr × List Int)} (s : Same H H') (h : Parts H qs) : Parts H' qs := fun t m => s _ _ (h t m)
theorem refs_get {qs : List (Addr × List Int)} {i : Nat} {x : V} (h : (refs qs)[i]? = some x) : ∃ t, qs[i]? = some t ∧ x = .ref t.1 := by
  unfold refs at h
  rw [List.getElem?_map] at h
  cases e : qs[i]? with
  | none => rw [e] at h; cases h
  | some t => rw [e] at h; exact ⟨t, rfl, (Option.some.inj h).symm⟩
theorem refs_snoc {qs : List (Addr × List Int)} {t : Addr × List Int} : refs (qs ++ [t]) = refs qs ++ [.ref t.1] := by
  unfold refs
  rw [List.map_append]
  rfl
def spListed : Sp := fun vs H Q _ => ∃ (a : Addr) (qs : List (Addr × List Int)), vs = [.ref a] ∧ H a = some (.lst (refs qs)) ∧ Parts H qs ∧ qs.length ≤ 300 ∧ (∀ t ∈ qs, t.2.length ≤ 300) ∧
  MkL H Q (listB (qs.map (·.2)))
abbrev CH : Str := PySem.Str.ofString " !\"#$&'()*+,-./0123456789:;<=>?@ABCDEFGHIJKLMNOPQRSTUVWXYZ[\\]^_`abcdefghijklmnopqrstuvwxyz{|}~"
def chIx (c : Nat) : Nat := if c < 37 then c - 32 else c - 33
theorem ch_at0 : ∀ c, c < 127 → 32 ≤ c → c ≠ 37 → (Builtin.Str.occurrences CH ⟨#[c]⟩ 0 CH.length 1).head? = some (chIx c) := by decide +kernel
theorem ch_at {c : Nat} (h : c < 127) (h1 : 32 ≤ c) (h2 : c ≠ 37) : ∃ rest, Builtin.Str.occurrences CH ⟨#[c]⟩ 0 CH.length 1 = chIx c :: rest := by
  have := ch_at0 c h h1 h2
  cases e : Builtin.Str.occurrences CH ⟨#[c]⟩ 0 CH.length 1 with
  | nil => rw [e] at this; cases this
  | cons x r =>
    rw [e] at this
    exact ⟨r, by rw [Option.some.inj this]⟩
theorem ch_val {c : Nat} (h1 : 32 ≤ c) (h2 : c ≠ 37) : (32 : Int) + ((chIx c : Nat) : Int) + (if decide ((4 : Int) < ((chIx c : Nat) : Int)) = true then 1 else 0) = (c : Int) := by
  unfold chIx
  by_cases h : c < 37
  · rw [if_pos h, if_neg (by simp; omega)]
    omega
  · rw [if_neg h, if_pos (by simp; omega)]
    omega
theorem flat1 (xs : List Int) : (xs.map fun x => [x]).flatten = xs := by
  induction xs with
  | nil => rfl
  | cons x xs ih => rw [List.map_cons, List.flatten_cons, ih]; rfl
theorem listed_str (z : Str) : listB ((cpB z).map fun x => [x]) = strB z := by
  unfold listB strB
  rw [flat1, List.length_map, cpB_len]
theorem listed_pre {qs : List (Addr × List Int)} {i : Nat} {t : Addr × List Int} (h : qs[i]? = some t) :
    numB qs.length ++ ((qs.take (i + 1)).map (·.2)).flatten = (numB qs.length ++ ((qs.take i).map (·.2)).flatten) ++ t.2 := by
  rw [take_snoc h, List.map_append, List.flatten_append, List.append_assoc]
  simp
theorem listed_pre_len {qs : List (Addr × List Int)} (h : ∀ t ∈ qs, t.2.length ≤ 300) (l : qs.length ≤ 300) (i : Nat) : (numB qs.length ++ ((qs.take i).map (·.2)).flatten).length ≤ 90021 := by
  have h1 := flat_len (xs := (qs.take i).map (·.2)) (b := 300) fun y m => by
    obtain ⟨x, mx, rfl⟩ := List.mem_map.mp m
    exact h x (List.mem_of_mem_take mx)
  rw [List.length_map, List.length_take] at h1
  have h2 := numB_20 (n := qs.length) (Nat.lt_of_le_of_lt l (by decide))
  rw [List.length_append]
  have h3 : min i qs.length * 300 ≤ 300 * 300 := Nat.mul_le_mul_right _ (by omega)
  omega
section
variable {P : Program} {w : World} {K : PySem.W.Frag} {mg : Str → Option Value} {base : Heap}
end
end K1
namespace K1
open PySem PySem.Spec PyProof.Rows L2 Ow
abbrev sbucket_of_values : Stmt := topS 29
abbrev Nbucket_of_values : List Str := ["values", "buckets", "number", "byte"]
theorem scbucket_of_values : FnScope Nbucket_of_values ["values", "buckets"] (defScope sbucket_of_values) := ⟨rfl, rfl, rfl, by decide +kernel, rfl, by decide +kernel, by decide +kernel⟩
abbrev N_law_bucket : List Str := ["values", "buckets", "number", "byte"]
def spBuck (K : PySem.W.Frag) : Sp := fun vs H Q _ => ∃ (a : Addr) (xs : List V) (b : Int), vs = [.ref a, .int b] ∧ SqT K H a xs ∧ (∀ x ∈ xs, Scal x) ∧ xs.length ≤ 10 ∧ 0 < b ∧
  ∀ H', Same H H' → Q (.int (buk (rowB xs) % b)) H'
theorem take_fold {α β : Type} {xs : List β} {i : Nat} {x : β} (h : xs[i]? = some x) (f : α → β → α) (a : α) : (xs.take (i + 1)).foldl f a = f ((xs.take i).foldl f a) x := by
  rw [take_snoc h, List.foldl_append]
  rfl
theorem ints_get {ns : List Int} {i : Nat} {x : V} (h : (ns.map V.int)[i]? = some x) : ∃ n, ns[i]? = some n ∧ x = .int n := by
  rw [List.getElem?_map] at h
  cases e : ns[i]? with
  | none => rw [e] at h; cases h
  | some t => rw [e] at h; exact ⟨t, rfl, (Option.some.inj h).symm⟩
section
variable {P : Program} {w : World} {K : PySem.W.Frag} {mg : Str → Option Value} {base : Heap}
theorem ok_buck {f : Addr} {fd : FuncData} (F : Fun K "bucket_of_values" "bucket_of_values" sbucket_of_values f fd) (T : Bl mg)
    (Dwrite_row : Kn P w K mg base 4 "write_row" ["row"] (spRB K)) :
    FnOk P w K mg base CX0 5 f fd ["values", "buckets"] (spBuck K) := by
  refine F.ok scbucket_of_values (fun vs H Q E h => ?_) (fun cdv A outer s H vs Q E hr h => ?_)
  · obtain ⟨a, xs, b, rfl, _⟩ := h
    rfl
  · obtain ⟨a, xs, b, rfl, hx, sx, lx, b0, q⟩ := h
    refine ⟨_, (pss_cons (ps_set (i := 2) scbucket_of_values.nd rfl (.inl rfl) pe_int)
      (pss_cons (ps_for PassesOwn.never rfl (pi_list (pe_kn Dwrite_row hr (pa_cons (pv 0) pa_nil))) (pg_name (i := 3) scbucket_of_values.nd rfl (.inl rfl)) (pss_one (ps_set (i := 2) scbucket_of_values.nd rfl (.inl rfl) (pe_op op_mod (pe_op op_add (pe_op op_add (pe_op op_mul pe_int (pv 2)) (pv 3)) pe_int) (pv 1)))))
      (pss_one (ps_ret (pv 2))))), ?_⟩
    refine ⟨_, rfl, a, xs, rfl, hx, sx, lx, fun H1 o sm no ho => ?_⟩
    refine ⟨o, rfl, ⟨_, SqL.of ho⟩, for_list (K := K) (a := o) (xs := (rowB xs).map V.int) (fun i σ H4 => ∃ y3 : Option V, σ = [some (.ref a), some (.int b), some (.int (((rowB xs).take i).foldl (fun g c => (31 * g + c + 1) % b) 0)), y3] ∧ Same H1 H4)
      ⟨none, rfl, Same.refl _⟩ (fun i σ H4 hi hP => ?_) (fun i x σ H4 hi hP => ?_) (fun σ H4 hP => ?_)⟩
    · obtain ⟨y3, _, s4⟩ := hP
      exact SqL.of (s4 _ _ ho)
    · obtain ⟨y3, rfl, s4⟩ := hP
      obtain ⟨c, ec, rfl⟩ := ints_get hi
      refine ⟨_, rfl, 31, _, rfl, rfl, .inl ⟨by decide, by decide⟩, _, rfl, _, _, rfl, rfl, _, _, rfl, rfl, _, rfl, _, _, rfl, rfl, b0, ?_⟩
      exact ⟨_, by rw [take_fold ec]; rfl, s4⟩
    · obtain ⟨y3, rfl, s4⟩ := hP
      rw [List.length_map, List.take_length]
      have e := buk_mod b (rowB xs) 0 0 (by rw [Int.zero_emod])
      refine ⟨_, rfl, ?_⟩
      rw [e]
      exact q _ (sm.trans s4)
end
end K1
namespace K1
open PySem PySem.Spec PyProof.Rows L2 Ow
abbrev N_law_pack : List Str := ["rows", "sectors", "current", "count", "row", "code", "k"]
def codes (rs : List (Addr × List V)) : List (List Int) := rs.map fun t => rowB t.2
def PkRes (H : Hp) (x : V) (H' : Hp) : Option (List (List Int)) → Prop
  | none => x = .non
  | some ss => ∃ (p : Addr) (ts : List (Addr × List Int)), x = .ref p ∧ H p = none ∧ H' p = some (.lst (refs ts)) ∧ ts.map (·.2) = ss ∧ Parts H' ts ∧ (∀ t ∈ ts, H t.1 = none ∧ t.1 ≠ p) ∧
      ss.length ≤ 100 ∧ ∀ s ∈ ss, s.length ≤ 100
def spPack (K : PySem.W.Frag) : Sp := fun vs H Q _ => ∃ (a : Addr) (rs : List (Addr × List V)), vs = [.ref a] ∧ SqL K H a (rrefs rs) ∧ RowsOk K H rs ∧ rs.length ≤ 99 ∧
  ∀ x H', Same H H' → PkRes H x H' (packO (codes rs)) → Q x H'
theorem codes_get {rs : List (Addr × List V)} {i : Nat} {t : Addr × List V} (h : rs[i]? = some t) : (codes rs)[i]? = some (rowB t.2) := by
  unfold codes
  rw [List.getElem?_map, h]
  rfl
theorem packO_none {cs : List (List Int)} {c : List Int} (m : c ∈ cs) (h : 63 < c.length) : packO cs = none := by
  unfold packO
  rw [if_neg]
  intro z
  have := List.all_eq_true.mp z c m
  have := of_decide_eq_true this
  omega
theorem packO_some {cs : List (List Int)} (h : ∀ c ∈ cs, c.length ≤ 63) : packO cs = some ((pkAll (pkF cs)).map padS) := by
  unfold packO
  rw [if_pos]
  exact List.all_eq_true.mpr fun c m => decide_eq_true (h c m)
theorem pkF_snoc {cs : List (List Int)} {i : Nat} {c : List Int} (h : cs[i]? = some c) : pkF (cs.take (i + 1)) = pkS (pkF (cs.take i)) c := by
  unfold pkF
  rw [take_fold h]
theorem pkF_ok' {cs : List (List Int)} (h : ∀ c ∈ cs, c.length ≤ 63) : PkOk cs.length (pkF cs) := by
  have := pkF_ok cs 0 pk0 pk0_ok h
  rwa [Nat.zero_add] at this
theorem padS_len {s : List Int} (h : s.length ≤ 64) : (padS s).length = 64 := by
  unfold padS
  rw [List.length_append, List.length_replicate]
  omega
theorem pkAll_len {n : Nat} {p : Pk} (h : PkOk n p) : (pkAll p).length ≤ n ∧ ∀ s ∈ pkAll p, s.length ≤ 64 := by
  have h3 := h.l
  unfold pkAll
  by_cases e : p.cnt > 0
  · rw [if_pos e] at h3 ⊢
    refine ⟨by rw [List.length_append]; exact h3, fun s m => ?_⟩
    rcases List.mem_append.mp m with m | m
    · exact (h.s s m).1
    · rw [List.mem_singleton.mp m, List.length_cons]
      have := h.c
      omega
  · rw [if_neg e] at h3 ⊢
    exact ⟨h3, fun s m => (h.s s m).1⟩
theorem zeros_snoc (n : Nat) : (List.replicate n (0 : Int)).map V.int ++ [V.int 0] = (List.replicate (n + 1) (0 : Int)).map V.int := by
  rw [List.replicate_succ']
  rw [List.map_append]
  rfl
theorem Parts.snoc {H : Hp} {qs : List (Addr × List Int)} {o t : Addr} {c : List Int} (h : Parts H qs) (n : ∀ u ∈ qs, u.1 ≠ o) (to : t ≠ o) (ht : H t = some (.lst (c.map V.int))) (u : HO) : Parts (upd H o u) (qs ++ [(t, c)]) := by
  intro v mv
  rcases List.mem_append.mp mv with m | m
  · rw [upd_ne (n v m)]
    exact h v m
  · rw [List.mem_singleton.mp m, upd_ne to]
    exact ht
theorem all_take {cs : List (List Int)} {i : Nat} {c : List Int} (h : cs[i]? = some c) (a : ∀ x ∈ cs.take i, x.length ≤ 63) (hc : c.length ≤ 63) : ∀ x ∈ cs.take (i + 1), x.length ≤ 63 := by
  rw [take_snoc h]
  intro x m
  rcases List.mem_append.mp m with m | m
  · exact a x m
  · rw [List.mem_singleton.mp m]
    exact hc
section
variable {P : Program} {w : World} {K : PySem.W.Frag} {mg : Str → Option Value} {base : Heap}
end
end K1
namespace K1
open PySem PySem.Spec PyProof.Rows L2 Ow
abbrev spack : Stmt := topS 27
abbrev Npack : List Str := ["rows", "used", "row", "code", "sector"]
theorem scpack : FnScope Npack ["rows"] (defScope spack) := ⟨rfl, rfl, rfl, by decide +kernel, rfl, by decide +kernel, by decide +kernel⟩
structure Sb (mg : Str → Option Value) : Prop where
  ex : ∃ t, mg "SECTOR_BYTES" = some (.int 64 t)
theorem pe_gi {X : Cx} {x : Str} {n : Int} {t : Tok} {pos : Pos} (hg : Gl X x) (hm : X.mg x = some (.int n t)) (hn : x ≠ "__name__" := by decide) (hd : (x == ("__debug__" : Str)) = false := by decide) : PE X (.Name x pos) (tC (.int n)) := pe_glob (v := .int n) hg hm ⟨_, rfl⟩ (hd := hd)
def rLenK (K : PySem.W.Frag) : List V → Hp → VK → Prop := fun xs H Q => ∃ p ys, xs = [V.ref p] ∧ (SqL K H p ys ∨ SqT K H p ys) ∧ Q (.int (ys.length : Nat)) H
theorem call_len_K {X : Cx} {K : PySem.W.Frag} (e : X.K = K) : CallR X (.builtin "len") (rLenK K) := by
  subst e
  exact call_len_seq
theorem ix0 {n : Nat} (h : 0 < n) : ixN n 0 = some 0 := by
  unfold ixN
  simp
  omega
theorem pk_nil {n : Nat} {pk : Pk} {code : List Int} (ok : PkOk n pk) (hc : code.length ≤ 63) (h : pkAll pk = []) : pkAll (pkS pk code) = [1 :: code] := by
  have z : ¬ pk.cnt > 0 := fun z => by
    unfold pkAll at h
    rw [if_pos z] at h
    exact absurd h (by simp)
  have nn := ok.nn
  have z0 : pk.cnt = 0 := by omega
  obtain ⟨e1, e2⟩ := ok.z z0
  unfold pkS
  rw [if_neg (by rw [e2]; simp; omega), e1, e2, z0]
  rfl
theorem pk_last {n : Nat} {pk : Pk} {xs : List (List Int)} {l : List Int} (ok : PkOk n pk) (h : xs ++ [l] = pkAll pk) : xs = pk.S ∧ l = pk.cnt :: pk.cur ∧ pk.cnt > 0 := by
  have nn := ok.nn
  by_cases e : pk.cnt > 0
  · unfold pkAll at h
    rw [if_pos e] at h
    have := List.append_inj' h rfl
    exact ⟨this.1, (List.cons.inj this.2).1, e⟩
  · unfold pkAll at h
    rw [if_neg e] at h
    have z0 : pk.cnt = 0 := by omega
    rw [(ok.z z0).1] at h
    exact absurd h (by simp)
theorem rep_zero (n : Nat) : (List.replicate n [V.int 0]).flatten = (List.replicate n (0 : Int)).map V.int := by
  induction n with
  | zero => rfl
  | succ n ih => rw [List.replicate_succ, List.flatten_cons, ih, List.replicate_succ, List.map_cons]; rfl
theorem map_take_snoc {α β : Type} {xs : List α} {f : α → β} {i : Nat} {x : α} (h : xs[i]? = some x) : (xs.take (i + 1)).map f = (xs.take i).map f ++ [f x] := by
  rw [take_snoc h, List.map_append]
  rfl
section
variable {P : Program} {w : World} {K : PySem.W.Frag} {mg : Str → Option Value} {base : Heap}
theorem ok_pack {f : Addr} {fd : FuncData} (F : Fun K "pack" "pack" spack f fd) (T : Bl mg) (B : Sb mg)
    (Dwrite_row : Kn P w K mg base 4 "write_row" ["row"] (spRB K)) :
    FnOk P w K mg base CX0 5 f fd ["rows"] (spPack K) := by
  obtain ⟨tk, TB⟩ := B.ex
  refine F.ok scpack (fun vs H Q E h => ?_) (fun cdv A outer s H vs Q E hr h => ?_)
  · obtain ⟨a, rs, rfl, _⟩ := h
    rfl
  · obtain ⟨a, rs, rfl, ha, hR, lr, q⟩ := h
    refine ⟨_, (pss_cons (ps_set (i := 1) scpack.nd rfl (.inl rfl) (pe_lst pa_nil))
      (pss_cons (ps_for PassesOwn.never rfl (pi_list (pv 0)) (pg_name (i := 2) scpack.nd rfl (.inl rfl)) (pss_cons (ps_set (i := 3) scpack.nd rfl (.inl rfl) (pe_kn Dwrite_row hr (pa_cons (pv 2) pa_nil)))
      (pss_cons (ps_if (pt_cmpR op_gt (pe_callB call_len_seq (by rfl) T.len PySem.boot_len (pa_cons (pv 3) pa_nil)) (pe_op op_sub (pe_gi (by rfl) TB) pe_int) (nomark _)) (pss_one (ps_ret pe_non)) pss_nil)
      (pss_mid (ps_if (PW.pt (pw_or (pt_not (pt_truth (pv 1) (by intro _; rfl))) (pw_or1 (pt_cmpR op_gt (pe_op op_add (pe_callB call_len_seq (by rfl) T.len PySem.boot_len (pa_cons (pe_ix ix_list (pv 1) (pe_un un_neg pe_int) (fun _ _ => rfl)) pa_nil)) (pe_callB call_len_seq (by rfl) T.len PySem.boot_len (pa_cons (pv 3) pa_nil))) (pe_gi (by rfl) TB) (nomark _))))) (pss_one (ps_expr (pe_bm PySem.F.plainAttrs_list PySem.F.slot_list_append PySem.F.type_list_append mt_append (pv 1) (pa_cons (pe_lst (pa_cons pe_int pa_nil)) pa_nil)))) pss_nil)
      (pss_cons (ps_set (i := 4) scpack.nd rfl (.inl rfl) (pe_ix ix_list (pv 1) (pe_un un_neg pe_int) (fun _ _ => rfl)))
      (pss_cons (ps_augS (pv 4) pe_int pget_list pe_int ip_add set_list)
      (pss_one (ps_expr (pe_bm PySem.F.plainAttrs_list PySem.F.slot_list_extend PySem.F.type_list_extend mt_extend (pv 4) (pa_cons (pv 3) pa_nil))))))))))
      (pss_one (ps_ret (pe_lc (own := [("sector", 4)]) (g := gName 4) rfl scpack.nd (pi_list (pv 1)) (blkOk_by (own := [("sector", 4)]) (N := Npack) (sc := defScope spack) (by decide +kernel)) (fun _ _ _ _ _ => pg_name (i := 4) scpack.nd rfl (Or.inl rfl)) (fun _ _ _ _ _ => pts_nil) (fun _ _ _ _ _ => (pe_op op_cat (pv 4) (pe_op op_rep (pe_lst (pa_cons pe_int pa_nil)) (pe_op op_sub (pe_gi (by rfl) TB) (pe_callB (call_len_K (K := K) rfl) (by rfl) T.len PySem.boot_len (pa_cons (pv 4) pa_nil))))))))))), ?_⟩
    refine ⟨sz 0, fun o no => ?_⟩
    have lc : (codes rs).length = rs.length := by unfold codes; rw [List.length_map]
    have lrr : (rrefs rs).length = rs.length := by unfold rrefs; rw [List.length_map]
    refine ⟨_, rfl, a, rfl, ⟨_, (Same.new no).seq ha⟩, for_list (K := K) (a := a) (xs := rrefs rs) (fun i σ H4 => ∃ (y2 y3 y4 : Option V) (ts : List (Addr × List Int)),
        σ = [some (.ref a), some (.ref o), y2, y3, y4] ∧ Same H H4 ∧ H4 o = some (.lst (refs ts)) ∧ ts.map (·.2) = pkAll (pkF ((codes rs).take i)) ∧
        Parts H4 ts ∧ (∀ t ∈ ts, H t.1 = none ∧ t.1 ≠ o) ∧ ts.Pairwise (fun x y => x.1 ≠ y.1) ∧ (∀ x ∈ (codes rs).take i, x.length ≤ 63))
      ⟨none, none, none, [], rfl, Same.new no, upd_same, rfl, (fun _ m => nomatch m), (fun _ m => nomatch m), .nil, (fun _ m => nomatch m)⟩ (fun i σ H4 hi hP => ?_) (fun i x σ H4 hi hP => ?_) (fun σ H4 hP => ?_)⟩
    · obtain ⟨y2, y3, y4, ts, _, s4, _⟩ := hP
      exact s4.seq ha
    · obtain ⟨y2, y3, y4, ts, rfl, s4, eo, mt, pt, nt, pw, al⟩ := hP
      obtain ⟨t, et, rfl⟩ := rrefs_get hi
      have mem := List.mem_of_getElem? et
      obtain ⟨ht, st, lt⟩ := hR t mem
      have gc := codes_get et
      have il : i < rs.length := (List.getElem?_eq_some_iff.mp et).1
      refine ⟨_, rfl, t.1, t.2, rfl, Tk.same s4 _ _ ht, st, lt, fun H5 p s5 np hp => ?_⟩
      have lrow := rowB_len st lt
      refine ⟨_, rfl, p, _, rfl, .inl (SqL.of hp), _, _, rfl, rfl, _, _, rfl, rfl, _, rfl, ?_⟩
      rw [List.length_map]
      refine ite2 (fun e => ?_) (fun e => ?_)
      · have e1 : (64 : Int) - 1 < ((rowB t.2).length : Int) := of_decide_eq_true e
        refine q _ _ (s4.trans s5) ?_
        rw [packO_none (List.mem_of_getElem? gc) (by omega)]
        rfl
      have e1 : (rowB t.2).length ≤ 63 := by
        have : ¬ (64 : Int) - 1 < ((rowB t.2).length : Int) := fun z => e (decide_eq_true z)
        omega
      have al2 := all_take gc al e1
      have ok := pkF_ok' al
      have eS := pkF_snoc gc
      have pc := ok.c
      have lall := pkAll_len ok
      rw [List.length_take] at lall
      have eo5 := s5 _ _ eo
      have pt5 := pt.same s5
      have s6 := s4.trans s5
      have npH : H p = none := s4.free np
      have po : p ≠ o := fun z => by rw [z, eo] at np; cases np
      have ltt : ts.length ≤ 99 := by
        have := congrArg List.length mt
        rw [List.length_map] at this
        omega
      generalize hpk : pkF ((codes rs).take i) = pk at *
      refine ⟨fun σ H6 => ∃ (y4 : Option V) (ts : List (Addr × List Int)) (u : Addr) (b : Int) (bs : List Int), σ = [some (.ref a), some (.ref o), some (.ref t.1), some (.ref p), y4] ∧
          Same H H6 ∧ H6 o = some (.lst (refs (ts ++ [(u, b :: bs)]))) ∧ ts.map (·.2) ++ [(b + 1) :: (bs ++ rowB t.2)] = pkAll (pkS pk (rowB t.2)) ∧ Parts H6 (ts ++ [(u, b :: bs)]) ∧
          (∀ t ∈ ts ++ [(u, b :: bs)], H t.1 = none ∧ t.1 ≠ o) ∧ (ts ++ [(u, b :: bs)]).Pairwise (fun x y => x.1 ≠ y.1) ∧ H6 p = some (.lst ((rowB t.2).map V.int)) ∧ p ≠ u ∧ bs.length ≤ 63, ?_, ?_⟩
      · have fresh : ∀ u, H5 u = none → pkAll (pkS pk (rowB t.2)) = ts.map (·.2) ++ [1 :: rowB t.2] →
            ∃ (y4 : Option V) (ts' : List (Addr × List Int)) (u' : Addr) (b : Int) (bs : List Int), [some (V.ref a), some (.ref o), some (.ref t.1), some (.ref p), y4] = [some (.ref a), some (.ref o), some (.ref t.1), some (.ref p), y4] ∧
          Same H (upd (upd H5 u (.lst [.int 0])) o (.lst (refs ts ++ [.ref u]))) ∧ (upd (upd H5 u (.lst [.int 0])) o (.lst (refs ts ++ [.ref u]))) o = some (.lst (refs (ts' ++ [(u', b :: bs)]))) ∧
          ts'.map (·.2) ++ [(b + 1) :: (bs ++ rowB t.2)] = pkAll (pkS pk (rowB t.2)) ∧ Parts (upd (upd H5 u (.lst [.int 0])) o (.lst (refs ts ++ [.ref u]))) (ts' ++ [(u', b :: bs)]) ∧
          (∀ t ∈ ts' ++ [(u', b :: bs)], H t.1 = none ∧ t.1 ≠ o) ∧ (ts' ++ [(u', b :: bs)]).Pairwise (fun x y => x.1 ≠ y.1) ∧ (upd (upd H5 u (.lst [.int 0])) o (.lst (refs ts ++ [.ref u]))) p = some (.lst ((rowB t.2).map V.int)) ∧ p ≠ u' ∧ bs.length ≤ 63 := fun u nu epk => by
          have uo : u ≠ o := fun z => by rw [z, eo5] at nu; cases nu
          have pu : p ≠ u := ne_of_none hp nu
          refine ⟨y4, ts, u, 0, [], rfl, Same.over (s6.trans (Same.new nu)) no, by rw [upd_same, refs_snoc], ?_, ?_, ?_, ?_, ?_, pu, Nat.zero_le _⟩
          · rw [epk]
            rfl
          · exact Parts.snoc (pt5.same (Same.new nu)) (fun v m => (nt v m).2) uo upd_same _
          · intro v mv
            rcases List.mem_append.mp mv with m | m
            · exact nt v m
            · rw [List.mem_singleton.mp m]
              exact ⟨s6.free nu, uo⟩
          · rw [List.pairwise_append]
            refine ⟨pw, List.pairwise_singleton _ _, fun v mv x mx => ?_⟩
            rw [List.mem_singleton.mp mx]
            exact ne_of_none (pt5 v mv) nu
          · rw [upd_ne po, upd_ne pu]
            exact hp
        rcases List.eq_nil_or_concat ts with ets | ⟨t0, last, ets⟩
        · have ealn : pkAll pk = [] := by rw [← mt, ets]; rfl
          refine ⟨_, rfl, false, .inl ⟨_, SqL.of eo5, by rw [ets]; rfl⟩, ?_⟩
          refine iteT ?_
          refine ⟨_, rfl, .inl ⟨rfl, _, .inl (.inl eo5)⟩, sz 1, fun u nu => ⟨o, refs ts, _, rfl, rfl, (Same.new nu) _ _ eo5, by rw [ets]; decide, ?_⟩⟩
          obtain ⟨z4, ts', u', b, bs, _, r⟩ := fresh u nu (by rw [pk_nil ok e1 ealn, ets]; rfl)
          exact ⟨_, ts', u', b, bs, rfl, r⟩
        · have mt' := mt
          rw [ets, List.concat_eq_append, List.map_append] at mt'
          obtain ⟨m1, m2, m3⟩ := pk_last ok mt'
          have m4 : last.2 = pk.cnt :: pk.cur := m2
          have hl5 : H5 last.1 = some (.lst ((pk.cnt :: pk.cur).map V.int)) := by
            rw [← m4]
            exact pt5 last (by rw [ets, List.concat_eq_append]; exact List.mem_append_right _ (List.mem_singleton.mpr rfl))
          have er : refs ts = refs t0 ++ [.ref last.1] := by rw [ets, List.concat_eq_append, refs_snoc]
          have el : ts = t0 ++ [(last.1, pk.cnt :: pk.cur)] := by rw [ets, List.concat_eq_append, ← m4]
          refine ⟨_, rfl, true, .inl ⟨_, SqL.of eo5, by rw [er]; simp⟩, ?_⟩
          refine iteF ?_
          refine ⟨_, rfl, 1, rfl, o, refs ts, -1, .ref last.1, rfl, rfl, SqL.of eo5, by rw [er]; exact atI_last _ _, last.1, _, rfl, .inl (SqL.of hl5), _, rfl, p, _, rfl, .inl (SqL.of hp), _, _, rfl, rfl, _, _, rfl, rfl, _, rfl, ?_⟩
          rw [List.length_map, List.length_map, List.length_cons]
          refine ite2 (fun e2 => ?_) (fun e2 => ?_)
          · have e3 : (64 : Int) < ((pk.cur.length + 1 : Nat) : Int) + ((rowB t.2).length : Int) := of_decide_eq_true e2
            refine ⟨_, rfl, .inl ⟨rfl, _, .inl (.inl eo5)⟩, sz 1, fun u nu => ⟨o, refs ts, _, rfl, rfl, (Same.new nu) _ _ eo5, ?_, ?_⟩⟩
            · unfold refs
              rw [List.length_map]
              exact small ltt (by decide)
            · have eS' : pkS pk (rowB t.2) = ⟨pk.S ++ [pk.cnt :: pk.cur], rowB t.2, 1⟩ := by
                unfold pkS
                rw [if_pos (by omega)]
              obtain ⟨z4, ts', u', b, bs, _, r⟩ := fresh u nu (by rw [eS', mt]; unfold pkAll; rw [if_pos m3]; rfl)
              exact ⟨_, ts', u', b, bs, rfl, r⟩
          · have e3 : ¬ (64 : Int) < ((pk.cur.length + 1 : Nat) : Int) + ((rowB t.2).length : Int) := fun z => e2 (decide_eq_true z)
            have eS' : pkS pk (rowB t.2) = ⟨pk.S, pk.cur ++ rowB t.2, pk.cnt + 1⟩ := by
              unfold pkS
              rw [if_neg (by omega)]
            have pl : p ≠ last.1 := fun z => by
              have := pt last (by rw [ets, List.concat_eq_append]; exact List.mem_append_right _ (List.mem_singleton.mpr rfl))
              rw [← z, np] at this
              cases this
            refine ⟨_, t0, last.1, pk.cnt, pk.cur, rfl, s6, by rw [eo5, el], ?_, by rw [← el]; exact pt5, by rw [← el]; exact nt, by rw [← el]; exact pw, hp, pl, pc⟩
            rw [eS', m1]
            unfold pkAll
            rw [if_pos (show pk.cnt + 1 > 0 by omega)]
      · rintro σ H6 ⟨y4, ts, u, b, bs, rfl, s6, eo6, epk, pt6, nt6, pw6, hp6, pu, lbs⟩
        have hu := pt6 _ (List.mem_append_right _ (List.mem_singleton.mpr rfl))
        have uo := (nt6 _ (List.mem_append_right _ (List.mem_singleton.mpr rfl))).2
        have uH := (nt6 _ (List.mem_append_right _ (List.mem_singleton.mpr rfl))).1
        have hu' : H6 u = some (.lst ((b :: bs).map V.int)) := hu
        rw [List.pairwise_append] at pw6
        have uts : ∀ v ∈ ts, v.1 ≠ u := fun v mv => pw6.2.2 v mv _ (List.mem_singleton.mpr rfl)
        refine ⟨_, rfl, 1, rfl, o, _, -1, .ref u, rfl, rfl, SqL.of eo6, by rw [refs_snoc]; exact atI_last _ _, ?_⟩
        refine ⟨_, rfl, u, (b :: bs).map V.int, 0, .int b, rfl, rfl, SqL.of hu', at_of (j := 0) rfl rfl, b, 1, rfl, rfl, u, (b :: bs).map V.int, 0, 0, rfl, rfl, hu', ix0 (by simp), ?_⟩
        have e7 : (upd H6 u (.lst (((b :: bs).map V.int).set 0 (.int (b + 1))))) u = some (.lst (((b + 1) :: bs).map V.int)) := upd_same
        have p7 : (upd H6 u (.lst (((b :: bs).map V.int).set 0 (.int (b + 1))))) p = some (.lst ((rowB t.2).map V.int)) := by rw [upd_ne pu]; exact hp6
        refine ⟨_, rfl, .inl ⟨rfl, _, .inl (.inl e7)⟩, _, rfl, u, p, _, _, rfl, rfl, e7, p7, ?_, ?_⟩
        · rw [List.length_map, List.length_map]
          exact sz _ (by show bs.length + 1 + _ ≤ 1000; omega)
        · have look : ∀ v : Addr, v ≠ u → (upd (upd H6 u (.lst (((b :: bs).map V.int).set 0 (.int (b + 1))))) u (.lst (((b + 1) :: bs).map V.int ++ (rowB t.2).map V.int))) v = H6 v := fun v nv => by
            rw [upd_ne nv, upd_ne nv]
          refine ⟨some (.ref t.1), some (.ref p), some (.ref u), ts ++ [(u, (b + 1) :: (bs ++ rowB t.2))], rfl, ?_, ?_, ?_, ?_, ?_, ?_, al2⟩
          · intro v x hv
            rw [look v (fun z => by rw [z, uH] at hv; cases hv)]
            exact s6 _ _ hv
          · rw [look o (Ne.symm uo), eo6, refs_snoc, refs_snoc]
          · rw [List.map_append, eS]
            exact epk
          · intro v mv
            rcases List.mem_append.mp mv with m | m
            · rw [look v.1 (uts v m)]
              exact pt6 v (List.mem_append_left _ m)
            · rw [List.mem_singleton.mp m, upd_same, ← List.map_append]
              rfl
          · intro v mv
            rcases List.mem_append.mp mv with m | m
            · exact nt6 v (List.mem_append_left _ m)
            · rw [List.mem_singleton.mp m]
              exact ⟨uH, uo⟩
          · rw [List.pairwise_append]
            refine ⟨pw6.1, List.pairwise_singleton _ _, fun v mv x mx => ?_⟩
            rw [List.mem_singleton.mp mx]
            exact uts v mv
    · obtain ⟨y2, y3, y4, ts, rfl, s4, eo, mt, pt, nt, pw, al⟩ := hP
      have e2 : (codes rs).take (rrefs rs).length = codes rs := by rw [lrr, ← lc, List.take_length]
      rw [e2] at mt al
      have ok := pkF_ok' al
      have lall := pkAll_len ok
      rw [lc] at lall
      have fin := packO_some al
      have lpad : ((pkAll (pkF (codes rs))).map padS).length ≤ 100 ∧ ∀ s ∈ (pkAll (pkF (codes rs))).map padS, s.length ≤ 100 := by
        refine ⟨by rw [List.length_map]; omega, fun s m => ?_⟩
        obtain ⟨x, mx, rfl⟩ := List.mem_map.mp m
        rw [padS_len (lall.2 x mx)]
        decide
      generalize hpk : pkAll (pkF (codes rs)) = ss at *
      have lts : ts.length = ss.length := by rw [← mt, List.length_map]
      refine ⟨_, rfl, o, rfl, ⟨_, SqL.of eo⟩, fun D nD => lc_list (K := K) (a := o) (xs := refs ts) (fun i H8 => ∃ zs : List (Addr × List Int), Same H4 H8 ∧ H8 D = some (.lst (refs zs)) ∧ Parts H8 zs ∧
          (∀ t ∈ zs, H t.1 = none ∧ t.1 ≠ D) ∧ zs.map (·.2) = (ss.take i).map padS ∧ zs.length = i)
        ⟨[], Same.new nD, upd_same, (fun _ m => nomatch m), (fun _ m => nomatch m), rfl, rfl⟩ (fun i H8 hi hP => ?_) (fun i x H8 hi hP => ?_) (fun H8 hP => ?_)⟩
      · obtain ⟨zs, s8, _⟩ := hP
        exact SqL.of (s8 _ _ eo)
      · obtain ⟨zs, s8, eD, pz, nz, mz, lz⟩ := hP
        obtain ⟨t, et, rfl⟩ := refs_get hi
        have mem := List.mem_of_getElem? et
        have es : ss[i]? = some t.2 := by
          rw [← mt, List.getElem?_map, et]
          rfl
        have il : i < ts.length := (List.getElem?_eq_some_iff.mp et).1
        have l64 := lall.2 t.2 (List.mem_of_getElem? es)
        have ht8 := s8 _ _ (pt t mem)
        refine ⟨rfl, ?_⟩
        refine ⟨_, rfl, sz 1, fun u1 nu1 => ⟨_, rfl, t.1, _, rfl, .inl (SqL.of ((Same.new nu1) _ _ ht8)), _, _, rfl, rfl, u1, _, [V.int 0], rfl, rfl, upd_same, ?_, ?_, ?_, fun u2 nu2 => ?_⟩⟩
        · rw [List.length_map]
          omega
        · rw [List.length_map]
          omega
        · rw [List.length_map]
          exact sz _ (by show 1 * _ ≤ 1000; omega)
        have n64 : (64 - ((t.2.map V.int).length : Int)).toNat = 64 - t.2.length := by rw [List.length_map]; omega
        have e3 := upd_same (H := upd H8 u1 (.lst [V.int 0])) (a := u2) (o := .lst (List.replicate (64 - ((t.2.map V.int).length : Int)).toNat [V.int 0]).flatten)
        have s3 := (Same.new (o := .lst [V.int 0]) nu1).trans (Same.new (o := .lst (List.replicate (64 - ((t.2.map V.int).length : Int)).toNat [V.int 0]).flatten) nu2)
        generalize (upd (upd H8 u1 (.lst [V.int 0])) u2 (.lst (List.replicate (64 - ((t.2.map V.int).length : Int)).toNat [V.int 0]).flatten)) = H9 at *
        rw [rep_zero, n64] at e3
        refine ⟨t.1, u2, _, _, rfl, rfl, s3 _ _ ht8, e3, ?_, fun u3 nu3 => ?_⟩
        · rw [List.length_map, List.length_map, List.length_replicate]
          exact sz _ (by omega)
        have s10 := s3.trans (Same.new (o := .lst (t.2.map V.int ++ (List.replicate (64 - t.2.length) (0 : Int)).map V.int)) nu3)
        have eD9 := s10 _ _ eD
        have no3 : u3 ≠ D := fun z => by
          have := s3.free nu3
          rw [z, eD] at this
          cases this
        refine ⟨refs zs, eD9, ?_, zs ++ [(u3, padS t.2)], Same.over (s8.trans s10) nD, by rw [upd_same, refs_snoc], ?_, ?_, ?_, ?_⟩
        · unfold refs
          rw [List.length_map]
          exact small (m := 1000) (by omega) (by decide)
        · refine Parts.snoc (pz.same s10) (fun v m => (nz v m).2) no3 ?_ _
          rw [upd_same, ← List.map_append]
          rfl
        · intro v mv
          rcases List.mem_append.mp mv with m | m
          · exact nz v m
          · rw [List.mem_singleton.mp m]
            exact ⟨(s4.trans s8).free (s3.free nu3), no3⟩
        · rw [List.map_append, mz, map_take_snoc es]
          rfl
        · rw [List.length_append, lz]
          rfl
      · obtain ⟨zs, s8, eD, pz, nz, mz, lz⟩ := hP
        have e3 : ss.take (refs ts).length = ss := by
          unfold refs
          rw [List.length_map, lts, List.take_length]
        rw [e3] at mz
        refine q _ _ (s4.trans s8) ?_
        rw [fin]
        exact ⟨D, zs, rfl, s4.free nD, eD, mz, pz, nz, lpad.1, lpad.2⟩
end
end K1
namespace K1
open PySem PySem.Spec PyProof.Rows L2 Ow Tlz
/-! the order of rows and keys -/
theorem order_zero : ∀ {xs ys : List V}, (∀ x ∈ xs, Scal x) → (∀ y ∈ ys, Scal y) → (orderV xs ys = 0 ↔ xs = ys)
  | [], [], _, _ => by simp [orderV]
  | [], y :: ys, _, _ => by simp [orderV]
  | x :: xs, [], _, _ => by simp [orderV]
  | x :: xs, y :: ys, hx, hy => by
    have sx := hx x List.mem_cons_self
    have sy := hy y List.mem_cons_self
    have ih := order_zero (xs := xs) (ys := ys) (fun v m => hx v (List.mem_cons_of_mem _ m)) fun v m => hy v (List.mem_cons_of_mem _ m)
    rw [order_cons]
    rcases first_tot sx sy with h | h | h
    · rw [if_pos h]
      refine ⟨fun z => absurd z (by decide), fun z => ?_⟩
      have e := (List.cons.inj z).1
      subst e
      rw [first_irr sx] at h
      exact absurd h Bool.false_ne_true
    · subst h
      rw [first_irr sx, if_neg Bool.false_ne_true, if_neg Bool.false_ne_true, ih]
      exact ⟨fun z => by rw [z], fun z => (List.cons.inj z).2⟩
    · have h2 := first_asym sy sx h
      rw [h2, if_neg Bool.false_ne_true, if_pos h]
      refine ⟨fun z => absurd z (by decide), fun z => ?_⟩
      have e := (List.cons.inj z).1
      subst e
      rw [first_irr sx] at h
      exact absurd h Bool.false_ne_true
theorem rlt_tot : ∀ {xs ys : List V}, (∀ x ∈ xs, Scal x) → (∀ y ∈ ys, Scal y) → Rlt xs ys ∨ xs = ys ∨ Rlt ys xs
  | [], [], _, _ => .inr (.inl rfl)
  | [], y :: ys, _, _ => .inl (by unfold Rlt orderV; decide)
  | x :: xs, [], _, _ => .inr (.inr (by unfold Rlt orderV; decide))
  | x :: xs, y :: ys, hx, hy => by
    have sx := hx x List.mem_cons_self
    have sy := hy y List.mem_cons_self
    rw [rlt_cons sx sy, rlt_cons sy sx]
    rcases first_tot sx sy with h | h | h
    · exact .inl (.inl h)
    · subst h
      rcases rlt_tot (xs := xs) (ys := ys) (fun v m => hx v (List.mem_cons_of_mem _ m)) fun v m => hy v (List.mem_cons_of_mem _ m) with h | h | h
      · exact .inl (.inr ⟨rfl, h⟩)
      · exact .inr (.inl (by rw [h]))
      · exact .inr (.inr (.inr ⟨rfl, h⟩))
    · exact .inr (.inr (.inl h))
theorem rlt_asym {xs ys : List V} (hx : ∀ x ∈ xs, Scal x) (hy : ∀ y ∈ ys, Scal y) (h : Rlt xs ys) (g : Rlt ys xs) : False := rlt_irr hx (rlt_trans hx hy hx h g)
abbrev Kt := Int × Str × List V × List V
def tOrd (a b : Kt) : Int := keyOrd a.1 a.2.1 a.2.2.1 b.1 b.2.1 b.2.2.1
def tLt (a b : Kt) : Prop := tOrd a b < 0
instance (a b : Kt) : Decidable (tLt a b) := inferInstanceAs (Decidable (_ < _))
def tEq (a b : Kt) : Prop := a.1 = b.1 ∧ a.2.1 = b.2.1 ∧ a.2.2.1 = b.2.2.1
def tSc (a : Kt) : Prop := ∀ x ∈ a.2.2.1, Scal x
theorem key_e (s s' : Int) (n n' : Str) (xs ys : List V) : keyOrd s n xs s' n' ys = if s = s' then (if n = n' then orderV xs ys else if n.cps.toList < n'.cps.toList then -1 else 1) else if s < s' then -1 else 1 := by
  have e2 : PyData.eqv (kd2 s n) (kd2 s' n') = ((s == s') && (n == n')) := by
    unfold kd2
    rw [eqv_tup, eqv_cons, eqv_cons, eqv_nil, eqv_int, eqv_str, Bool.and_true]
  have l2 : ltD 1 (kd2 s n) (kd2 s' n') = if (s == s') = true then (if (n == n') = true then false else decide (n.cps.toList < n'.cps.toList)) else decide (s < s') := by
    simp only [kd2, ltD, ltL, eqv_int, eqv_str]
  unfold keyOrd
  rw [e2, l2]
  by_cases h : s = s'
  · by_cases g : n = n'
    · simp [h, g]
    · simp [h, g]
  · simp [h]
theorem tLt_iff (a b : Kt) : tLt a b ↔ a.1 < b.1 ∨ (a.1 = b.1 ∧ (a.2.1.cps.toList < b.2.1.cps.toList ∨ (a.2.1 = b.2.1 ∧ Rlt a.2.2.1 b.2.2.1))) := by
  unfold tLt tOrd
  rw [key_e]
  by_cases h : a.1 = b.1
  · rw [if_pos h]
    by_cases g : a.2.1 = b.2.1
    · rw [if_pos g]
      refine ⟨fun z => .inr ⟨h, .inr ⟨g, z⟩⟩, fun z => ?_⟩
      rcases z with z | ⟨_, z | ⟨_, z⟩⟩
      · omega
      · rw [g] at z; exact absurd z (List.lt_irrefl _)
      · exact z
    · rw [if_neg g]
      by_cases c : a.2.1.cps.toList < b.2.1.cps.toList
      · rw [if_pos c]
        exact ⟨fun _ => .inr ⟨h, .inl c⟩, fun _ => by decide⟩
      · rw [if_neg c]
        refine ⟨fun z => absurd z (by decide), fun z => ?_⟩
        rcases z with z | ⟨_, z | ⟨z, _⟩⟩
        · omega
        · exact absurd z c
        · exact absurd z g
  · rw [if_neg h]
    by_cases c : a.1 < b.1
    · rw [if_pos c]
      exact ⟨fun _ => .inl c, fun _ => by decide⟩
    · rw [if_neg c]
      exact ⟨fun z => absurd z (by decide), fun z => z.elim (fun w => absurd w c) fun w => absurd w.1 h⟩
theorem tOrd_zero {a b : Kt} (sa : tSc a) (sb : tSc b) : tOrd a b = 0 ↔ tEq a b := by
  unfold tOrd tEq
  rw [key_e]
  by_cases h : a.1 = b.1
  · rw [if_pos h]
    by_cases g : a.2.1 = b.2.1
    · rw [if_pos g, order_zero sa sb]
      exact ⟨fun z => ⟨h, g, z⟩, fun z => z.2.2⟩
    · rw [if_neg g]
      refine ⟨fun z => ?_, fun z => absurd z.2.1 g⟩
      split at z <;> cases z
  · rw [if_neg h]
    refine ⟨fun z => ?_, fun z => absurd z.1 h⟩
    split at z <;> cases z
theorem tLt_tot {a b : Kt} (sa : tSc a) (sb : tSc b) : tLt a b ∨ tEq a b ∨ tLt b a := by
  rw [tLt_iff, tLt_iff]
  unfold tEq
  rcases Int.lt_trichotomy a.1 b.1 with h | h | h
  · exact .inl (.inl h)
  · rcases str_tot a.2.1 b.2.1 with g | g | g
    · exact .inl (.inr ⟨h, .inl g⟩)
    · rcases rlt_tot sa sb with c | c | c
      · exact .inl (.inr ⟨h, .inr ⟨g, c⟩⟩)
      · exact .inr (.inl ⟨h, g, c⟩)
      · exact .inr (.inr (.inr ⟨h.symm, .inr ⟨g.symm, c⟩⟩))
    · exact .inr (.inr (.inr ⟨h.symm, .inl g⟩))
  · exact .inr (.inr (.inl h))
theorem tLt_trans {a b c : Kt} (sa : tSc a) (sb : tSc b) (sc : tSc c) (h : tLt a b) (g : tLt b c) : tLt a c := by
  rw [tLt_iff] at *
  rcases h with h | ⟨h, h2⟩ <;> rcases g with g | ⟨g, g2⟩
  · exact .inl (by omega)
  · exact .inl (by omega)
  · exact .inl (by omega)
  · refine .inr ⟨by omega, ?_⟩
    rcases h2 with h2 | ⟨h2, h3⟩ <;> rcases g2 with g2 | ⟨g2, g3⟩
    · exact .inl (List.lt_trans h2 g2)
    · exact .inl (by rw [← g2]; exact h2)
    · exact .inl (by rw [h2]; exact g2)
    · exact .inr ⟨h2.trans g2, rlt_trans sa sb sc h3 g3⟩
theorem tLt_irr {a : Kt} (sa : tSc a) (h : tLt a a) : False := by
  rw [tLt_iff] at h
  rcases h with h | ⟨_, h | ⟨_, h⟩⟩
  · omega
  · exact List.lt_irrefl _ h
  · exact rlt_irr sa h
theorem tLt_asym {a b : Kt} (sa : tSc a) (sb : tSc b) (h : tLt a b) (g : tLt b a) : False := tLt_irr sa (tLt_trans sa sb sa h g)
theorem tEq_lt {a b : Kt} (sb : tSc b) (h : tEq a b) (g : tLt a b) : False := by
  rw [tLt_iff, h.1, h.2.1, h.2.2] at g
  rcases g with g | ⟨_, g | ⟨_, g⟩⟩
  · omega
  · exact List.lt_irrefl _ g
  · exact rlt_irr sb g
/-- two lists in strict order with the same members are one -/
theorem srt_uniq {α : Type} {lt : α → α → Prop} : ∀ {xs ys : List α}, xs.Pairwise lt → ys.Pairwise lt → (∀ x ∈ xs, ∀ y ∈ xs, lt x y → lt y x → False) → (∀ x, x ∈ xs ↔ x ∈ ys) → xs = ys
  | [], [], _, _, _, _ => rfl
  | [], y :: ys, _, _, _, h => absurd ((h y).mpr List.mem_cons_self) (by simp)
  | x :: xs, [], _, _, _, h => absurd ((h x).mp List.mem_cons_self) (by simp)
  | x :: xs, y :: ys, px, py, as, h => by
    rw [List.pairwise_cons] at px py
    have e : x = y := by
      rcases List.mem_cons.mp ((h x).mp List.mem_cons_self) with e | mx
      · exact e
      · rcases List.mem_cons.mp ((h y).mpr List.mem_cons_self) with e | my
        · exact e.symm
        · exact (as x List.mem_cons_self y (List.mem_cons_of_mem _ my) (px.1 y my) (py.1 x mx)).elim
    subst e
    have nx : x ∉ xs := fun m => as x List.mem_cons_self x List.mem_cons_self (px.1 x m) (px.1 x m)
    have ny : x ∉ ys := fun m => as x List.mem_cons_self x List.mem_cons_self (py.1 x m) (py.1 x m)
    rw [srt_uniq px.2 py.2 (fun a ma b mb => as a (List.mem_cons_of_mem _ ma) b (List.mem_cons_of_mem _ mb)) fun z => ?_]
    have hz := h z
    rw [List.mem_cons, List.mem_cons] at hz
    refine ⟨fun m => ?_, fun m => ?_⟩
    · rcases hz.mp (.inr m) with e | w
      · subst e; exact absurd m nx
      · exact w
    · rcases hz.mpr (.inr m) with e | w
      · subst e; exact absurd m ny
      · exact w
/-! items and their keys -/
def ier : It → Kt
  | .rel n c => (0, n, [], c)
  | .fact n _ row => (1, n, row, [])
  | .str n c => (2, n, [], c)
  | .lay n v => (3, n, [], [v])
abbrev Its := List (Addr × It)
def te (t : Addr × It) : Kt := ier t.2
def ScI (os : Its) : Prop := ∀ t ∈ os, tSc (te t)
def KSrt (os : Its) : Prop := os.Pairwise fun a b => tLt (te a) (te b)
/-- an item is placed among items in their order -/
def plc (os : Its) (t : Addr × It) : Its :=
  (os.filter fun u => decide (tOrd (te u) (te t) ≠ 0)).take (os.countP fun u => decide (tOrd (te u) (te t) < 0)) ++ [t] ++ (os.filter fun u => decide (tOrd (te u) (te t) ≠ 0)).drop (os.countP fun u => decide (tOrd (te u) (te t) < 0))
theorem plc_mem {os : Its} {t u : Addr × It} (so : ScI os) (st : tSc (te t)) : u ∈ plc os t ↔ u = t ∨ (u ∈ os ∧ ¬ tEq (te u) (te t)) := by
  unfold plc
  rw [List.append_assoc, List.mem_append, List.mem_append, List.mem_singleton]
  have h : u ∈ (os.filter fun u => decide (tOrd (te u) (te t) ≠ 0)) ↔ u ∈ os ∧ ¬ tEq (te u) (te t) := by
    rw [List.mem_filter, decide_eq_true_iff]
    refine ⟨fun z => ⟨z.1, fun w => z.2 ((tOrd_zero (so u z.1) st).mpr w)⟩, fun z => ⟨z.1, fun w => z.2 ((tOrd_zero (so u z.1) st).mp w)⟩⟩
  have g := (List.take_append_drop (os.countP fun u => decide (tOrd (te u) (te t) < 0)) (os.filter fun u => decide (tOrd (te u) (te t) ≠ 0)))
  rw [← h]
  generalize (os.filter fun u => decide (tOrd (te u) (te t) ≠ 0)) = fs at *
  have g2 : u ∈ fs ↔ u ∈ fs.take (os.countP fun u => decide (tOrd (te u) (te t) < 0)) ∨ u ∈ fs.drop (os.countP fun u => decide (tOrd (te u) (te t) < 0)) := by
    rw [← List.mem_append, g]
  rw [g2]
  refine ⟨fun z => ?_, fun z => ?_⟩
  · rcases z with z | z | z
    · exact .inr (.inl z)
    · exact .inl z
    · exact .inr (.inr z)
  · rcases z with z | z | z
    · exact .inr (.inl z)
    · exact .inl z
    · exact .inr (.inr z)
theorem plc_cut : ∀ {os : Its} {t : Addr × It}, KSrt os → ScI os → tSc (te t) →
    (∀ u ∈ (os.filter fun u => decide (tOrd (te u) (te t) ≠ 0)).take (os.countP fun u => decide (tOrd (te u) (te t) < 0)), tLt (te u) (te t)) ∧
    ∀ u ∈ (os.filter fun u => decide (tOrd (te u) (te t) ≠ 0)).drop (os.countP fun u => decide (tOrd (te u) (te t) < 0)), tLt (te t) (te u)
  | [], t, _, _, _ => by simp
  | y :: ys, t, ks, so, st => by
    have ks' := List.pairwise_cons.mp ks
    have so' : ScI ys := fun u m => so u (List.mem_cons_of_mem _ m)
    have sy := so y List.mem_cons_self
    by_cases h : tLt (te y) (te t)
    · have h0 : tOrd (te y) (te t) ≠ 0 := fun z => tEq_lt st ((tOrd_zero sy st).mp z) h
      have ih := plc_cut (os := ys) (t := t) ks'.2 so' st
      rw [List.filter_cons, if_pos (decide_eq_true h0), List.countP_cons, if_pos (decide_eq_true (show tOrd (te y) (te t) < 0 from h)), List.take_succ_cons, List.drop_succ_cons]
      refine ⟨fun u m => ?_, ih.2⟩
      rcases List.mem_cons.mp m with e | m
      · rw [e]; exact h
      · exact ih.1 u m
    · have c0 : (y :: ys).countP (fun u => decide (tOrd (te u) (te t) < 0)) = 0 := by
        rw [List.countP_eq_zero]
        intro u m z
        have z' : tLt (te u) (te t) := of_decide_eq_true z
        rcases List.mem_cons.mp m with e | m
        · rw [e] at z'; exact h z'
        · exact h (tLt_trans sy (so' u m) st (ks'.1 u m) z')
      rw [c0, List.take_zero, List.drop_zero]
      refine ⟨(fun _ m => by cases m), fun u m => ?_⟩
      rw [List.mem_filter, decide_eq_true_iff] at m
      have su := so u m.1
      rcases tLt_tot su st with c | c | c
      · rcases List.mem_cons.mp m.1 with e | m1
        · rw [e] at c; exact absurd c h
        · exact absurd (tLt_trans sy su st (ks'.1 u m1) c) h
      · exact absurd ((tOrd_zero su st).mpr c) m.2
      · exact c
theorem plc_srt {os : Its} {t : Addr × It} (ks : KSrt os) (so : ScI os) (st : tSc (te t)) : KSrt (plc os t) := by
  have h := plc_cut ks so st
  have pf : KSrt (os.filter fun u => decide (tOrd (te u) (te t) ≠ 0)) := List.Pairwise.filter _ ks
  have sf : ScI (os.filter fun u => decide (tOrd (te u) (te t) ≠ 0)) := fun u m => so u (List.mem_filter.mp m).1
  unfold plc
  generalize (os.filter fun u => decide (tOrd (te u) (te t) ≠ 0)) = fs at *
  generalize (os.countP fun u => decide (tOrd (te u) (te t) < 0)) = k at *
  unfold KSrt
  rw [List.append_assoc, List.pairwise_append]
  refine ⟨List.Pairwise.sublist (List.take_sublist _ _) pf, ?_, fun a ma b mb => ?_⟩
  · rw [List.singleton_append, List.pairwise_cons]
    exact ⟨h.2, List.Pairwise.sublist (List.drop_sublist _ _) pf⟩
  · rw [List.singleton_append] at mb
    rcases List.mem_cons.mp mb with e | mb
    · rw [e]; exact h.1 a ma
    · exact tLt_trans (sf a (List.mem_of_mem_take ma)) st (sf b (List.mem_of_mem_drop mb)) (h.1 a ma) (h.2 b mb)
def plcAll (its : Its) : Its := its.foldl plc []
theorem plcAll_snoc (its : Its) (t : Addr × It) : plcAll (its ++ [t]) = plc (plcAll its) t := by
  unfold plcAll
  rw [List.foldl_append]
  rfl
theorem plc_len (os : Its) (t : Addr × It) : (plc os t).length ≤ os.length + 1 := by
  unfold plc
  rw [List.append_assoc, List.length_append, List.length_append, List.length_take, List.length_drop]
  have := List.length_filter_le (fun u => decide (tOrd (te u) (te t) ≠ 0)) os
  show _ + (1 + _) ≤ _
  omega
theorem snoc_ind {α : Type} {P : List α → Prop} (h0 : P []) (hs : ∀ xs x, P xs → P (xs ++ [x])) (xs : List α) : P xs := by
  have h1 : ∀ ys : List α, P ys.reverse := fun ys => by
    induction ys with
    | nil => exact h0
    | cons y ys ih =>
      rw [List.reverse_cons]
      exact hs _ _ ih
  have h2 := h1 xs.reverse
  rw [List.reverse_reverse] at h2
  exact h2
theorem plcAll_ok : ∀ (its : Its), ScI its → KSrt (plcAll its) ∧ ScI (plcAll its) ∧ (plcAll its).length ≤ its.length ∧ ∀ u ∈ plcAll its, u ∈ its := by
  intro its
  refine snoc_ind (P := fun its => ScI its → KSrt (plcAll its) ∧ ScI (plcAll its) ∧ (plcAll its).length ≤ its.length ∧ ∀ u ∈ plcAll its, u ∈ its) (fun _ => ⟨.nil, (fun _ m => by cases m), Nat.le_refl _, fun _ m => by cases m⟩) (fun its t ih => ?_) its
  · intro so
    have so' : ScI its := fun u m => so u (List.mem_append_left _ m)
    have st : tSc (te t) := so t (List.mem_append_right _ (List.mem_singleton.mpr rfl))
    obtain ⟨k1, k2, k3, k4⟩ := ih so'
    rw [plcAll_snoc]
    refine ⟨plc_srt k1 k2 st, fun u m => ?_, ?_, fun u m => ?_⟩
    · rcases (plc_mem k2 st).mp m with e | ⟨m, _⟩
      · rw [e]; exact st
      · exact k2 u m
    · have := plc_len (plcAll its) t
      rw [List.length_append]
      show _ ≤ its.length + 1
      omega
    · rcases (plc_mem k2 st).mp m with e | ⟨m, _⟩
      · rw [e]; exact List.mem_append_right _ (List.mem_singleton.mpr rfl)
      · exact List.mem_append_left _ (k4 u m)
end K1
namespace K1
open PySem PySem.Spec PyProof.Rows L2 Ow Tlz
theorem valG_put {β : Type} (l : List (Str × β)) (k : Str) (b : β) (m : Str) : valG (putG l k b) m = if m = k then some b else valG l m := by
  unfold putG
  rw [any_val]
  cases e : valG l k with
  | none =>
    rw [if_neg (by simp)]
    unfold valG
    rw [List.find?_append]
    by_cases h : m = k
    · subst h
      rw [if_pos rfl]
      have : l.find? (fun e => decide (e.1 = m)) = none := by
        unfold valG at e
        cases z : l.find? (fun e => decide (e.1 = m)) with
        | none => rfl
        | some x => rw [z] at e; cases e
      rw [this]
      simp
    · rw [if_neg h]
      have : [(k, b)].find? (fun e => decide (e.1 = m)) = none := by
        rw [List.find?_cons, decide_eq_false (fun z => h z.symm)]
        rfl
      rw [this, Option.or_none]
  | some a =>
    rw [if_pos (show (some a).isSome = true from rfl)]
    unfold valG
    rw [List.find?_map]
    have ef : ((fun e : Str × β => decide (e.1 = m)) ∘ fun e => if e.1 = k then (e.1, b) else e) = fun e => decide (e.1 = m) := by
      funext e
      show decide ((if e.1 = k then (e.1, b) else e).1 = m) = _
      split <;> rfl
    rw [ef]
    by_cases h : m = k
    · subst h
      rw [if_pos rfl]
      unfold valG at e
      cases z : l.find? (fun e => decide (e.1 = m)) with
      | none => rw [z] at e; cases e
      | some x =>
        have hx0 := List.find?_some z
        have hx : x.1 = m := of_decide_eq_true hx0
        show some (if x.1 = m then (x.1, b) else x).2 = _
        rw [if_pos hx]
    · rw [if_neg h]
      cases z : l.find? (fun e => decide (e.1 = m)) with
      | none => rfl
      | some x =>
        have hx0 := List.find?_some z
        have hx : x.1 = m := of_decide_eq_true hx0
        show some (if x.1 = k then (x.1, b) else x).2 = some x.2
        rw [if_neg (fun w => h (hx.symm.trans w))]
theorem valG_key {β : Type} {l : List (Str × β)} {n : Str} : n ∈ l.map (·.1) ↔ (valG l n).isSome = true := by
  constructor
  · intro h
    cases e : valG l n with
    | none =>
      obtain ⟨x, mx, ex⟩ := List.mem_map.mp h
      exact absurd ex (valG_none e x mx)
    | some b => rfl
  · intro h
    cases e : valG l n with
    | none => rw [e] at h; cases h
    | some b => exact List.mem_map.mpr ⟨_, valG_mem e, rfl⟩
theorem valG_map {β γ : Type} (g : β → γ) (l : List (Str × β)) (n : Str) : valG (l.map fun e => (e.1, g e.2)) n = (valG l n).map g := by
  unfold valG
  rw [List.find?_map]
  cases z : l.find? (fun e => decide (e.1 = n)) with
  | none =>
    rw [show ((fun e : Str × γ => decide (e.1 = n)) ∘ fun e : Str × β => (e.1, g e.2)) = fun e => decide (e.1 = n) from rfl, z]
    rfl
  | some x =>
    rw [show ((fun e : Str × γ => decide (e.1 = n)) ∘ fun e : Str × β => (e.1, g e.2)) = fun e => decide (e.1 = n) from rfl, z]
    rfl
theorem keys_len {β γ : Type} {l : List (Str × β)} {l' : List (Str × γ)} (n1 : (l.map (·.1)).Nodup) (n2 : (l'.map (·.1)).Nodup) (h : ∀ n, (valG l n).isSome = (valG l' n).isSome) : l.length = l'.length := by
  have p : (l.map (·.1)).Perm (l'.map (·.1)) := (List.perm_ext_iff_of_nodup n1 n2).mpr fun n => by rw [valG_key, valG_key, h]
  have := p.length_eq
  rw [List.length_map, List.length_map] at this
  exact this
/-! what tables have -/
def Has (os : Its) (i : It) : Prop := ∃ a, (a, i) ∈ os
def SrtS (rs : List (Addr × List V)) : Prop := Srt rs ∧ ∀ t ∈ rs, ∀ x ∈ t.2, Scal x
structure Rep (os : Its) (R : Tb) (F : Fb) (S : Tb) (L : List (Str × V)) : Prop where
  r : ∀ n c, (∃ q, valG R n = some (q, c)) ↔ Has os (.rel n c)
  s : ∀ n c, (∃ q, valG S n = some (q, c)) ↔ Has os (.str n c)
  l : ∀ n v, valG L n = some v ↔ Has os (.lay n v)
  f : ∀ n row, (∃ q rs, valG F n = some (q, rs) ∧ ∃ r, (r, row) ∈ rs) ↔ ∃ r, Has os (.fact n r row)
  fn : ∀ n, (valG F n).isSome = true ↔ (∃ c, Has os (.rel n c)) ∨ ∃ r row, Has os (.fact n r row)
  fs : ∀ n q rs, valG F n = some (q, rs) → SrtS rs
  rn : (R.map (·.1)).Nodup
  sn : (S.map (·.1)).Nodup
  ln : (L.map (·.1)).Nodup
  fd : (F.map (·.1)).Nodup
theorem Rep.nil : Rep [] [] [] [] [] := by
  refine ⟨fun n c => ?_, fun n c => ?_, fun n v => ?_, fun n row => ?_, fun n => ?_, (fun n q rs h => by cases h), .nil, .nil, .nil, .nil⟩
  · exact ⟨fun ⟨q, h⟩ => (by cases h), fun ⟨a, h⟩ => by cases h⟩
  · exact ⟨fun ⟨q, h⟩ => (by cases h), fun ⟨a, h⟩ => by cases h⟩
  · exact ⟨fun h => (by cases h), fun ⟨a, h⟩ => by cases h⟩
  · exact ⟨fun ⟨q, rs, h, _⟩ => (by cases h), fun ⟨r, a, h⟩ => by cases h⟩
  · exact ⟨fun h => (by cases h), fun h => by rcases h with ⟨c, a, h⟩ | ⟨r, row, a, h⟩ <;> cases h⟩
theorem place_srt {rs : List (Addr × List V)} {row : List V} {r : Addr} {k : Nat} (h : SrtS rs) (sr : ∀ x ∈ row, Scal x) (lk : k ≤ rs.length) (pl : Place rs row k) (nk : ∀ t, rs[k]? = some t → t.2 ≠ row) :
    SrtS (rs.take k ++ [(r, row)] ++ rs.drop k) := by
  have bef : ∀ t ∈ rs.take k, Rlt t.2 row := fun t m => by
    obtain ⟨j, hj, e⟩ := List.mem_iff_getElem.mp m
    rw [List.length_take] at hj
    rw [List.getElem_take] at e
    exact pl.1 j t (by omega) (by rw [← e]; exact List.getElem?_eq_getElem (by omega))
  have aft : ∀ t ∈ rs.drop k, Rlt row t.2 := fun t m => by
    obtain ⟨j, hj, e⟩ := List.mem_iff_getElem.mp m
    rw [List.length_drop] at hj
    rw [List.getElem_drop] at e
    have et : rs[k + j]? = some t := by rw [← e]; exact List.getElem?_eq_getElem (by omega)
    have lk2 : k < rs.length := by omega
    have ek : rs[k]? = some rs[k] := List.getElem?_eq_getElem lk2
    have s0 := h.2 rs[k] (List.getElem_mem lk2)
    have h0 : Rlt row rs[k].2 := by
      rcases rlt_tot sr s0 with c | c | c
      · exact c
      · exact absurd c.symm (nk _ ek)
      · exact absurd c (pl.2 k _ (Nat.le_refl _) ek)
    by_cases hj0 : j = 0
    · subst hj0
      rw [Nat.add_zero, ek] at et
      rw [← Option.some.inj et]
      exact h0
    · exact rlt_trans sr s0 (h.2 t (List.mem_of_getElem? et)) h0 (srt_lt h.1 ek et (by omega))
  refine ⟨?_, fun t m => ?_⟩
  · unfold Srt
    rw [List.append_assoc, List.pairwise_append]
    refine ⟨List.Pairwise.sublist (List.take_sublist _ _) h.1, ?_, fun a ma b mb => ?_⟩
    · rw [List.singleton_append, List.pairwise_cons]
      exact ⟨aft, List.Pairwise.sublist (List.drop_sublist _ _) h.1⟩
    · rw [List.singleton_append] at mb
      rcases List.mem_cons.mp mb with e | mb
      · rw [e]; exact bef a ma
      · exact rlt_trans (h.2 a (List.mem_of_mem_take ma)) sr (h.2 b (List.mem_of_mem_drop mb)) (bef a ma) (aft b mb)
  · rw [List.append_assoc, List.mem_append, List.mem_append, List.mem_singleton] at m
    rcases m with m | m | m
    · exact h.2 t (List.mem_of_mem_take m)
    · rw [m]; exact sr
    · exact h.2 t (List.mem_of_mem_drop m)
theorem mem_cut {α : Type} {rs : List α} {x y : α} {k : Nat} : y ∈ rs.take k ++ [x] ++ rs.drop k ↔ y = x ∨ y ∈ rs := by
  have h : y ∈ rs ↔ y ∈ rs.take k ∨ y ∈ rs.drop k := by rw [← List.mem_append, List.take_append_drop]
  rw [List.append_assoc, List.mem_append, List.mem_append, List.mem_singleton, h]
  exact ⟨fun z => z.elim (fun w => .inr (.inl w)) fun w => w.elim .inl fun v => .inr (.inr v), fun z => z.elim (fun w => .inr (.inl w)) fun w => w.elim .inl fun v => .inr (.inr v)⟩
/-- what a put fact changes in the table of facts -/
theorem putF_rep {F F' : Fb} {n : Str} {r : Addr} {row : List V} (h : PutF F n r row F') (fs : ∀ m q rs, valG F m = some (q, rs) → SrtS rs) (fd : (F.map (·.1)).Nodup) (sr : ∀ x ∈ row, Scal x) :
    (∀ m row', (∃ q rs, valG F' m = some (q, rs) ∧ ∃ r, (r, row') ∈ rs) ↔ (m = n ∧ row' = row) ∨ ∃ q rs, valG F m = some (q, rs) ∧ ∃ r, (r, row') ∈ rs) ∧
    (∀ m, (valG F' m).isSome = true ↔ m = n ∨ (valG F m).isSome = true) ∧ (∀ m q rs, valG F' m = some (q, rs) → SrtS rs) ∧ (F'.map (·.1)).Nodup := by
  obtain ⟨q, rs, F1, k, how, lk, pl, h2⟩ := h
  -- the name is there
  have h1 : valG F1 n = some (q, rs) ∧ (∀ m, m ≠ n → valG F1 m = valG F m) ∧ (∀ row', (∃ q rs, valG F n = some (q, rs) ∧ ∃ r, (r, row') ∈ rs) ↔ ∃ r, (r, row') ∈ rs) ∧ SrtS rs ∧ (F1.map (·.1)).Nodup := by
    rcases how with ⟨e, ev⟩ | ⟨ev, e, e1⟩
    · subst e
      refine ⟨ev, fun _ _ => rfl, fun row' => ⟨fun ⟨q', rs', e', w⟩ => ?_, fun w => ⟨q, rs, ev, w⟩⟩, fs _ _ _ ev, fd⟩
      rw [ev] at e'
      cases e'
      exact w
    · subst e e1
      rw [← putG_new (q, ([] : List (Addr × List V))) ev]
      refine ⟨by rw [valG_put, if_pos rfl], fun m hm => by rw [valG_put, if_neg hm], fun row' => ⟨fun ⟨q', rs', e', w⟩ => ?_, fun ⟨r, w⟩ => by cases w⟩, ⟨.nil, (fun _ m => by cases m)⟩, putG_nodup fd⟩
      rw [ev] at e'
      cases e'
  obtain ⟨hv, ho, hm, hs, hd⟩ := h1
  rcases h2 with ⟨e, t, et, er⟩ | ⟨e, nk⟩
  · subst e
    refine ⟨fun m row' => ?_, fun m => ?_, fun m q' rs' ev => ?_, hd⟩
    · by_cases c : m = n
      · subst c
        rw [hm]
        refine ⟨fun ⟨q', rs', e', w⟩ => ?_, fun w => ?_⟩
        · rw [hv] at e'
          cases e'
          exact .inr w
        · refine ⟨q, rs, hv, ?_⟩
          rcases w with ⟨_, w⟩ | w
          · rw [w, ← er]
            exact ⟨t.1, List.mem_of_getElem? et⟩
          · exact w
      · rw [ho m c]
        exact ⟨.inr, fun w => w.elim (fun z => absurd z.1 c) id⟩
    · by_cases c : m = n
      · subst c
        rw [hv]
        exact ⟨fun _ => .inl rfl, fun _ => rfl⟩
      · rw [ho m c]
        exact ⟨.inr, fun w => w.elim (fun z => absurd z c) id⟩
    · by_cases c : m = n
      · subst c
        rw [hv] at ev
        cases ev
        exact hs
      · rw [ho m c] at ev
        exact fs _ _ _ ev
  · subst e
    have ps := place_srt (r := r) hs sr lk (pl hs.1) nk
    refine ⟨fun m row' => ?_, fun m => ?_, fun m q' rs' ev => ?_, putG_nodup hd⟩
    · rw [valG_put]
      by_cases c : m = n
      · subst c
        rw [if_pos rfl, hm]
        refine ⟨fun ⟨q', rs', e', r', w⟩ => ?_, fun w => ⟨_, _, rfl, ?_⟩⟩
        · cases e'
          rcases mem_cut.mp w with w | w
          · exact .inl ⟨rfl, congrArg Prod.snd w⟩
          · exact .inr ⟨_, w⟩
        · rcases w with ⟨_, w⟩ | ⟨r', w⟩
          · rw [w]
            exact ⟨r, mem_cut.mpr (.inl rfl)⟩
          · exact ⟨r', mem_cut.mpr (.inr w)⟩
      · rw [if_neg c, ho m c]
        exact ⟨.inr, fun w => w.elim (fun z => absurd z.1 c) id⟩
    · rw [valG_put]
      by_cases c : m = n
      · rw [if_pos c]
        exact ⟨fun _ => .inl c, fun _ => rfl⟩
      · rw [if_neg c, ho m c]
        exact ⟨.inr, fun w => w.elim (fun z => absurd z c) id⟩
    · rw [valG_put] at ev
      by_cases c : m = n
      · rw [if_pos c] at ev
        cases ev
        exact ps
      · rw [if_neg c, ho m c] at ev
        exact fs _ _ _ ev
theorem eq_rel {n m : Str} {c c' : List V} : tEq (ier (.rel n c)) (ier (.rel m c')) ↔ n = m := ⟨fun h => h.2.1, fun h => ⟨rfl, h, rfl⟩⟩
theorem eq_str {n m : Str} {c c' : List V} : tEq (ier (.str n c)) (ier (.str m c')) ↔ n = m := ⟨fun h => h.2.1, fun h => ⟨rfl, h, rfl⟩⟩
theorem eq_lay {n m : Str} {c c' : V} : tEq (ier (.lay n c)) (ier (.lay m c')) ↔ n = m := ⟨fun h => h.2.1, fun h => ⟨rfl, h, rfl⟩⟩
theorem eq_fact {n m : Str} {r r' : Addr} {c c' : List V} : tEq (ier (.fact n r c)) (ier (.fact m r' c')) ↔ n = m ∧ c = c' := ⟨fun h => h.2, fun h => ⟨rfl, h⟩⟩
/-- an item that is placed, and what the items have then -/
theorem has_plc {os : Its} {t : Addr × It} (so : ScI os) (st : tSc (te t)) (i : It) : Has (plc os t) i ↔ i = t.2 ∨ (Has os i ∧ ¬ tEq (ier i) (te t)) := by
  unfold Has
  constructor
  · rintro ⟨a, m⟩
    rcases (plc_mem so st).mp m with e | ⟨m, ne⟩
    · exact .inl (by rw [← e])
    · exact .inr ⟨⟨a, m⟩, ne⟩
  · rintro (e | ⟨⟨a, m⟩, ne⟩)
    · exact ⟨t.1, (plc_mem so st).mpr (.inl (by rw [e]))⟩
    · exact ⟨a, (plc_mem so st).mpr (.inr ⟨m, ne⟩)⟩
theorem sort_ne {i : It} {t : Addr × It} (h : (ier i).1 ≠ (te t).1) (os : Its) : (i = t.2 ∨ (Has os i ∧ ¬ tEq (ier i) (te t))) ↔ Has os i :=
  ⟨fun z => z.elim (fun e => absurd (by rw [e]; rfl) h) (·.1), fun z => .inr ⟨z, fun w => h w.1⟩⟩
theorem tab_put {T : Tb} {n : Str} {q : Addr} {c : List V} {P : Str → List V → Prop} (h : ∀ m c', (∃ q, valG T m = some (q, c')) ↔ P m c') (m : Str) (c' : List V) :
    (∃ q', valG (putG T n (q, c)) m = some (q', c')) ↔ (m = n ∧ c' = c) ∨ (P m c' ∧ ¬ m = n) := by
  rw [valG_put]
  by_cases e : m = n
  · rw [if_pos e]
    exact ⟨fun ⟨q', z⟩ => .inl ⟨e, by cases z; rfl⟩, fun z => z.elim (fun w => ⟨q, by rw [w.2]⟩) fun w => absurd e w.2⟩
  · rw [if_neg e, h]
    exact ⟨fun z => .inr ⟨z, e⟩, fun z => z.elim (fun w => absurd w.1 e) (·.1)⟩
theorem Rep.put {os : Its} {t : Addr × It} {R R' S S' : Tb} {F F' : Fb} {L L' : List (Str × V)} (h : Rep os R F S L) (p : PutI R F S L t.2 R' F' S' L') (so : ScI os) (st : tSc (te t)) : Rep (plc os t) R' F' S' L' := by
  obtain ⟨hr, hs, hl, hf, hfn, hfs, rn, sn, ln, fd⟩ := h
  have hp := has_plc so st
  obtain ⟨a, i⟩ := t
  cases i with
  | rel n c =>
    obtain ⟨⟨q, e1⟩, h2, e3, e4⟩ := p
    subst e1 e3 e4
    have hF : (∀ m row, (∃ q rs, valG F' m = some (q, rs) ∧ ∃ r, (r, row) ∈ rs) ↔ ∃ q rs, valG F m = some (q, rs) ∧ ∃ r, (r, row) ∈ rs) ∧ (∀ m, (valG F' m).isSome = true ↔ m = n ∨ (valG F m).isSome = true) ∧ (∀ m q rs, valG F' m = some (q, rs) → SrtS rs) ∧ (F'.map (·.1)).Nodup := by
      rcases h2 with ⟨sm, e⟩ | ⟨q', ev, e⟩
      · subst e
        exact ⟨fun _ _ => Iff.rfl, fun m => ⟨.inr, fun z => z.elim (fun w => by rw [w]; exact sm) id⟩, hfs, fd⟩
      · subst e
        rw [← putG_new (q', ([] : List (Addr × List V))) ev]
        refine ⟨fun m row => ?_, fun m => ?_, fun m q2 rs2 e2 => ?_, putG_nodup fd⟩
        · rw [valG_put]
          by_cases c : m = n
          · subst c
            rw [if_pos rfl, ev]
            exact ⟨fun ⟨_, _, z, r, w⟩ => (by cases z; cases w), fun ⟨_, _, z, _⟩ => (by cases z)⟩
          · rw [if_neg c]
        · rw [valG_put]
          by_cases c : m = n
          · rw [if_pos c]; exact ⟨fun _ => .inl c, fun _ => rfl⟩
          · rw [if_neg c]; exact ⟨.inr, fun z => z.elim (fun w => absurd w c) id⟩
        · rw [valG_put] at e2
          by_cases c : m = n
          · rw [if_pos c] at e2
            cases e2
            exact ⟨.nil, fun _ m => by cases m⟩
          · rw [if_neg c] at e2
            exact hfs _ _ _ e2
    obtain ⟨f1, f2, f3, f4⟩ := hF
    refine ⟨fun m c' => ?_, fun m c' => ?_, fun m v => ?_, fun m row => ?_, fun m => ?_, f3, putG_nodup rn, sn, ln, f4⟩
    · rw [tab_put hr, hp]
      show _ ↔ (It.rel m c' = It.rel n c ∨ (Has os (.rel m c') ∧ ¬ tEq (ier (.rel m c')) (ier (.rel n c))))
      rw [eq_rel, It.rel.injEq]
    · rw [hp, sort_ne (by show (2 : Int) ≠ 0; decide), hs]
    · rw [hp, sort_ne (by show (3 : Int) ≠ 0; decide), hl]
    · rw [f1, hf]
      refine exists_congr fun r => ?_
      rw [hp, sort_ne (by show (1 : Int) ≠ 0; decide)]
    · rw [f2, hfn]
      constructor
      · rintro (e | ⟨c', z⟩ | ⟨r, row, z⟩)
        · exact .inl ⟨c, (hp _).mpr (.inl (by rw [e]))⟩
        · by_cases e : m = n
          · exact .inl ⟨c, (hp _).mpr (.inl (by rw [e]))⟩
          · exact .inl ⟨c', (hp _).mpr (.inr ⟨z, fun w => e (eq_rel.mp w)⟩)⟩
        · exact .inr ⟨r, row, by rw [hp, sort_ne (by show (1 : Int) ≠ 0; decide)]; exact z⟩
      · rintro (⟨c', z⟩ | ⟨r, row, z⟩)
        · rcases (hp _).mp z with e | ⟨z, _⟩
          · exact .inl (It.rel.inj e).1
          · exact .inr (.inl ⟨c', z⟩)
        · rw [hp, sort_ne (by show (1 : Int) ≠ 0; decide)] at z
          exact .inr (.inr ⟨r, row, z⟩)
  | fact n r row =>
    obtain ⟨pf, e1, e3, e4⟩ := p
    subst e1 e3 e4
    obtain ⟨f1, f2, f3, f4⟩ := putF_rep pf hfs fd st
    refine ⟨fun m c' => ?_, fun m c' => ?_, fun m v => ?_, fun m row' => ?_, fun m => ?_, f3, rn, sn, ln, f4⟩
    · rw [hp, sort_ne (by show (0 : Int) ≠ 1; decide), hr]
    · rw [hp, sort_ne (by show (2 : Int) ≠ 1; decide), hs]
    · rw [hp, sort_ne (by show (3 : Int) ≠ 1; decide), hl]
    · rw [f1, hf]
      constructor
      · rintro (⟨e1, e2⟩ | ⟨r', z⟩)
        · exact ⟨r, (hp _).mpr (.inl (by rw [e1, e2]))⟩
        · by_cases e : m = n ∧ row' = row
          · exact ⟨r, (hp _).mpr (.inl (by rw [e.1, e.2]))⟩
          · exact ⟨r', (hp _).mpr (.inr ⟨z, fun w => e (eq_fact.mp w)⟩)⟩
      · rintro ⟨r', z⟩
        rcases (hp _).mp z with e | ⟨z, _⟩
        · exact .inl ⟨(It.fact.inj e).1, (It.fact.inj e).2.2⟩
        · exact .inr ⟨r', z⟩
    · rw [f2, hfn]
      constructor
      · rintro (e | ⟨c', z⟩ | ⟨r', row', z⟩)
        · exact .inr ⟨r, row, (hp _).mpr (.inl (by rw [e]))⟩
        · exact .inl ⟨c', by rw [hp, sort_ne (by show (0 : Int) ≠ 1; decide)]; exact z⟩
        · by_cases e : m = n ∧ row' = row
          · exact .inr ⟨r, row, (hp _).mpr (.inl (by rw [e.1]))⟩
          · exact .inr ⟨r', row', (hp _).mpr (.inr ⟨z, fun w => e (eq_fact.mp w)⟩)⟩
      · rintro (⟨c', z⟩ | ⟨r', row', z⟩)
        · rw [hp, sort_ne (by show (0 : Int) ≠ 1; decide)] at z
          exact .inr (.inl ⟨c', z⟩)
        · rcases (hp _).mp z with e | ⟨z, _⟩
          · exact .inl (It.fact.inj e).1
          · exact .inr (.inr ⟨r', row', z⟩)
  | str n c =>
    obtain ⟨⟨q, e1⟩, e2, e3, e4⟩ := p
    subst e1 e2 e3 e4
    refine ⟨fun m c' => ?_, fun m c' => ?_, fun m v => ?_, fun m row => ?_, fun m => ?_, hfs, rn, putG_nodup sn, ln, fd⟩
    · rw [hp, sort_ne (by show (0 : Int) ≠ 2; decide), hr]
    · rw [tab_put hs, hp]
      show _ ↔ (It.str m c' = It.str n c ∨ (Has os (.str m c') ∧ ¬ tEq (ier (.str m c')) (ier (.str n c))))
      rw [eq_str, It.str.injEq]
    · rw [hp, sort_ne (by show (3 : Int) ≠ 2; decide), hl]
    · rw [hf]
      exact exists_congr fun r => by rw [hp, sort_ne (by show (1 : Int) ≠ 2; decide)]
    · rw [hfn]
      exact or_congr (exists_congr fun c => by rw [hp, sort_ne (by show (0 : Int) ≠ 2; decide)]) (exists_congr fun r => exists_congr fun row => by rw [hp, sort_ne (by show (1 : Int) ≠ 2; decide)])
  | lay n v =>
    obtain ⟨e1, e2, e3, e4⟩ := p
    subst e1 e2 e3 e4
    refine ⟨fun m c' => ?_, fun m c' => ?_, fun m v' => ?_, fun m row => ?_, fun m => ?_, hfs, rn, sn, putG_nodup ln, fd⟩
    · rw [hp, sort_ne (by show (0 : Int) ≠ 3; decide), hr]
    · rw [hp, sort_ne (by show (2 : Int) ≠ 3; decide), hs]
    · rw [valG_put, hp]
      show _ ↔ (It.lay m v' = It.lay n v ∨ (Has os (.lay m v') ∧ ¬ tEq (ier (.lay m v')) (ier (.lay n v))))
      rw [eq_lay, It.lay.injEq]
      by_cases e : m = n
      · rw [if_pos e]
        exact ⟨fun z => .inl ⟨e, (Option.some.inj z).symm⟩, fun z => z.elim (fun w => by rw [w.2]) fun w => absurd e w.2⟩
      · rw [if_neg e, hl]
        exact ⟨fun z => .inr ⟨z, e⟩, fun z => z.elim (fun w => absurd w.1 e) (·.1)⟩
    · rw [hf]
      exact exists_congr fun r => by rw [hp, sort_ne (by show (1 : Int) ≠ 3; decide)]
    · rw [hfn]
      exact or_congr (exists_congr fun c => by rw [hp, sort_ne (by show (0 : Int) ≠ 3; decide)]) (exists_congr fun r => exists_congr fun row => by rw [hp, sort_ne (by show (1 : Int) ≠ 3; decide)])
theorem Puts.rep {is : List It} {R S : Tb} {F : Fb} {L : List (Str × V)} (h : Puts is R F S L) : ∀ its : Its, its.map (·.2) = is → ScI its → Rep (plcAll its) R F S L := by
  induction h with
  | nil =>
    intro its e _
    rw [List.map_eq_nil_iff.mp e]
    exact Rep.nil
  | snoc _ p ih =>
    intro its e so
    obtain ⟨l1, l2, e0, e1, e2⟩ := List.map_eq_append_iff.mp e
    obtain ⟨t, e3, e4⟩ := List.map_eq_singleton_iff.mp e2
    subst e3 e4
    subst e0
    have so' : ScI l1 := fun u m => so u (List.mem_append_left _ m)
    rw [plcAll_snoc]
    exact (ih l1 e1 so').put p (plcAll_ok l1 so').2.1 (so t (List.mem_append_right _ (List.mem_singleton.mpr rfl)))
/-! two tables of the same items -/
theorem rows_eq {rs rs' : List (Addr × List V)} (h : SrtS rs) (h' : SrtS rs') (e : ∀ row, (∃ r, (r, row) ∈ rs) ↔ ∃ r, (r, row) ∈ rs') : rs.map (·.2) = rs'.map (·.2) := by
  have mm : ∀ {ts : List (Addr × List V)} {row : List V}, row ∈ ts.map (·.2) ↔ ∃ r, (r, row) ∈ ts := fun {ts row} => by
    rw [List.mem_map]
    exact ⟨fun ⟨t, m, z⟩ => ⟨t.1, by rw [← z]; exact m⟩, fun ⟨r, m⟩ => ⟨_, m, rfl⟩⟩
  refine srt_uniq (lt := Rlt) (List.pairwise_map.mpr h.1) (List.pairwise_map.mpr h'.1) (fun x mx y my => ?_) fun row => by rw [mm, mm, e]
  obtain ⟨r, mr⟩ := mm.mp mx
  obtain ⟨r', mr'⟩ := mm.mp my
  exact rlt_asym (h.2 _ mr) (h.2 _ mr')
section
variable {os : Its} {R S R' S' : Tb} {F F' : Fb} {L L' : List (Str × V)}
theorem tab_some {T T' : Tb} {P : Str → List V → Prop} (h : ∀ m c', (∃ q, valG T m = some (q, c')) ↔ P m c') (h' : ∀ m c', (∃ q, valG T' m = some (q, c')) ↔ P m c') (n : Str) : (valG T n).isSome = (valG T' n).isSome := by
  cases e : valG T n with
  | none =>
    cases e' : valG T' n with
    | none => rfl
    | some b =>
      obtain ⟨q, z⟩ := (h n b.2).mpr ((h' n b.2).mp ⟨b.1, e'⟩)
      rw [e] at z
      cases z
  | some b =>
    obtain ⟨q, z⟩ := (h' n b.2).mpr ((h n b.2).mp ⟨b.1, e⟩)
    rw [z]
    rfl
theorem Rep.eqR (h : Rep os R F S L) (h' : Rep os R' F' S' L') : R.length = R'.length ∧ ∀ n q c, valG R' n = some (q, c) → ∃ q', valG R n = some (q', c) :=
  ⟨keys_len h.rn h'.rn (tab_some h.r h'.r), fun n q c e => (h.r n c).mpr ((h'.r n c).mp ⟨q, e⟩)⟩
theorem Rep.eqS (h : Rep os R F S L) (h' : Rep os R' F' S' L') : S.length = S'.length ∧ ∀ n q c, valG S' n = some (q, c) → ∃ q', valG S n = some (q', c) :=
  ⟨keys_len h.sn h'.sn (tab_some h.s h'.s), fun n q c e => (h.s n c).mpr ((h'.s n c).mp ⟨q, e⟩)⟩
theorem Rep.eqL (h : Rep os R F S L) (h' : Rep os R' F' S' L') : L.length = L'.length ∧ ∀ n v, valG L' n = some v → valG L n = some v := by
  refine ⟨keys_len h.ln h'.ln fun n => ?_, fun n v e => (h.l n v).mpr ((h'.l n v).mp e)⟩
  cases e : valG L n with
  | none =>
    cases e' : valG L' n with
    | none => rfl
    | some b =>
      have z := (h.l n b).mpr ((h'.l n b).mp e')
      rw [e] at z
      cases z
  | some b => rw [(h'.l n b).mpr ((h.l n b).mp e)]
theorem Rep.eqF (h : Rep os R F S L) (h' : Rep os R' F' S' L') : F.length = F'.length ∧ ∀ n q rs, valG F' n = some (q, rs) → ∃ q' rs', valG F n = some (q', rs') ∧ rs'.map (·.2) = rs.map (·.2) := by
  have sm : ∀ n, (valG F n).isSome = (valG F' n).isSome := fun n => Bool.eq_iff_iff.mpr (by rw [h.fn, h'.fn])
  refine ⟨keys_len h.fd h'.fd sm, fun n q rs e => ?_⟩
  have z := sm n
  rw [e] at z
  cases e2 : valG F n with
  | none => rw [e2] at z; cases z
  | some b =>
    refine ⟨b.1, b.2, rfl, rows_eq (h.fs _ _ _ e2) (h'.fs _ _ _ e) fun row => ?_⟩
    have a1 := h.f n row
    have a2 := h'.f n row
    rw [e2] at a1
    rw [e] at a2
    refine ⟨fun w => ?_, fun w => ?_⟩
    · obtain ⟨q3, rs3, e3, w3⟩ := a2.mpr (a1.mp ⟨_, _, rfl, w⟩)
      cases e3
      exact w3
    · obtain ⟨q3, rs3, e3, w3⟩ := a1.mpr (a2.mp ⟨_, _, rfl, w⟩)
      cases e3
      exact w3
theorem Rep.copyF (h : Rep os R F S L) (e : F'.map (fun x => (x.1, x.2.2)) = F.map fun x => (x.1, x.2.2)) : Rep os R F' S L := by
  have ev : ∀ n, (valG F' n).map (·.2) = (valG F n).map (·.2) := fun n => by
    rw [← valG_map (fun b : Addr × List (Addr × List V) => b.2), ← valG_map (fun b : Addr × List (Addr × List V) => b.2), e]
  have some_ : ∀ n rs, (∃ q, valG F' n = some (q, rs)) ↔ ∃ q, valG F n = some (q, rs) := fun n rs => by
    have z := ev n
    cases a : valG F' n with
    | none =>
      cases b : valG F n with
      | none => exact Iff.rfl
      | some y => rw [a, b] at z; cases z
    | some x =>
      cases b : valG F n with
      | none => rw [a, b] at z; cases z
      | some y =>
        rw [a, b] at z
        have z' : x.2 = y.2 := Option.some.inj z
        refine ⟨fun ⟨q, w⟩ => ⟨y.1, ?_⟩, fun ⟨q, w⟩ => ⟨x.1, ?_⟩⟩
        · cases w; rw [show rs = y.2 from z']
        · cases w; rw [show rs = x.2 from z'.symm]
  have sm : ∀ n, (valG F' n).isSome = (valG F n).isSome := fun n => by
    have z := congrArg Option.isSome (ev n)
    rw [Option.isSome_map, Option.isSome_map] at z
    exact z
  refine ⟨h.r, h.s, h.l, fun n row => ?_, fun n => by rw [sm, h.fn], fun n q rs e2 => ?_, h.rn, h.sn, h.ln, ?_⟩
  · rw [← h.f]
    refine ⟨fun ⟨q, rs, e2, w⟩ => ?_, fun ⟨q, rs, e2, w⟩ => ?_⟩
    · obtain ⟨q', e3⟩ := (some_ n rs).mp ⟨q, e2⟩
      exact ⟨q', rs, e3, w⟩
    · obtain ⟨q', e3⟩ := (some_ n rs).mpr ⟨q, e2⟩
      exact ⟨q', rs, e3, w⟩
  · obtain ⟨q', e3⟩ := (some_ n rs).mp ⟨q, e2⟩
    exact h.fs _ _ _ e3
  · have z := congrArg (List.map Prod.fst) e
    rw [List.map_map, List.map_map] at z
    have z2 : F'.map (·.1) = F.map (·.1) := z
    rw [z2]
    exact h.fd
end
end K1
namespace K1
open PySem PySem.Spec PyProof.Rows L2 Ow Tlz
abbrev s_law_is_integer : Stmt := topS 39
abbrev N_law_is_integer : List Str := ["actual"]
theorem sc_law_is_integer : FnScope N_law_is_integer ["actual"] (defScope s_law_is_integer) := ⟨rfl, rfl, rfl, by decide +kernel, rfl, by decide +kernel, by decide +kernel⟩
abbrev s_law_same : Stmt := topS 40
abbrev N_law_same : List Str := ["actual", "expected", "k"]
theorem sc_law_same : FnScope N_law_same ["actual", "expected"] (defScope s_law_same) := ⟨rfl, rfl, rfl, by decide +kernel, rfl, by decide +kernel, by decide +kernel⟩
/-! data of numbers, texts, truths, None, tuples and lists -/
mutual
def ist : PyData → Bool
  | .int _ => true
  | .str _ => true
  | .none => true
  | .bool _ => true
  | .tuple xs => decide (xs.length ≤ 1000) && ists xs
  | .list xs => decide (xs.length ≤ 1000) && ists xs
  | _ => false
def ists : List PyData → Bool
  | [] => true
  | x :: xs => ist x && ists xs
end
theorem ists_at : ∀ {xs : List PyData}, ists xs = true → ∀ {i : Nat} {d : PyData}, xs[i]? = some d → ist d = true
  | [], _, i, d, h => by simp at h
  | x :: xs, h, i, d, e => by
    rw [ists, Bool.and_eq_true] at h
    cases i with
    | zero =>
      have z : x = d := Option.some.inj e
      rw [← z]; exact h.1
    | succ i => exact ists_at h.2 (i := i) e
theorem ists_all : ∀ {xs : List PyData}, (∀ x ∈ xs, ist x = true) → ists xs = true
  | [], _ => by rw [ists]
  | x :: xs, h => by
    rw [ists, h x List.mem_cons_self, ists_all fun y m => h y (List.mem_cons_of_mem _ m)]
    rfl
theorem ist_tup {xs : List PyData} (l : xs.length ≤ 1000) (h : ∀ x ∈ xs, ist x = true) : ist (.tuple xs) = true := by
  rw [ist, decide_eq_true l, ists_all h]
  rfl
theorem ist_lst {xs : List PyData} (l : xs.length ≤ 1000) (h : ∀ x ∈ xs, ist x = true) : ist (.list xs) = true := by
  rw [ist, decide_eq_true l, ists_all h]
  rfl
mutual
theorem Dp.sm {K : PySem.W.Frag} {H H' : Hp} (t : Same H H') : ∀ (d : PyData) (v : V), Dp K H v d → Dp K H' v d
  | .none, _, .non => .non
  | .bool b, _, .bl _ => .bl b
  | .int i, _, .int _ => .int i
  | .str x, _, .str _ => .str x
  | .list xs, _, .lst s a => .lst (t.seq s) (DpAll.sm t xs _ a)
  | .tuple xs, _, .tup s a => .tup (Tk.same t _ _ s) (DpAll.sm t xs _ a)
theorem DpAll.sm {K : PySem.W.Frag} {H H' : Hp} (t : Same H H') : ∀ (ds : List PyData) (vs : List V), DpAll K H vs ds → DpAll K H' vs ds
  | [], _, .nil => .nil
  | d :: ds, _, .cons a b => .cons (Dp.sm t d _ a) (DpAll.sm t ds _ b)
end
theorem DpAll.len {K : PySem.W.Frag} {H : Hp} : ∀ {vs : List V} {ds : List PyData}, DpAll K H vs ds → vs.length = ds.length
  | _, _, .nil => rfl
  | _, _, .cons _ b => by rw [List.length_cons, List.length_cons, DpAll.len b]
theorem DpAll.get {K : PySem.W.Frag} {H : Hp} : ∀ {vs : List V} {ds : List PyData}, DpAll K H vs ds → ∀ {i : Nat} {d : PyData}, ds[i]? = some d → ∃ v, vs[i]? = some v ∧ Dp K H v d
  | _, _, .nil, i, d, h => by simp at h
  | _, _, .cons a b, 0, d, h => by
    have e := Option.some.inj h
    subst e
    exact ⟨_, rfl, a⟩
  | _, _, .cons a b, i + 1, d, h => DpAll.get b (i := i) h
theorem depth_at : ∀ {xs : List PyData} {n : Nat}, PyData.depthAll xs ≤ n → ∀ {i : Nat} {d : PyData}, xs[i]? = some d → d.depth ≤ n
  | [], _, _, i, d, h => by simp at h
  | x :: xs, n, h, i, d, e => by
    rw [PyData.depthAll] at h
    cases i with
    | zero =>
      have z : x = d := Option.some.inj e
      rw [← z]; exact Nat.le_trans (Nat.le_max_left _ _) h
    | succ i => exact depth_at (Nat.le_trans (Nat.le_max_right _ _) h) (i := i) e
def spIsInt : Sp := fun vs H Q _ => ∃ i : Int, vs = [.int i] ∧ Q (.bl true) H
/-- two equal data, less than n deep -/
def spSm (K : PySem.W.Frag) : Nat → Sp
  | 0 => fun _ _ _ _ => False
  | n + 1 => fun vs H Q _ => ∃ (x y : V) (d : PyData), vs = [x, y] ∧ Dp K H x d ∧ Dp K H y d ∧ ist d = true ∧ d.depth ≤ n ∧ Mak H Q fun z _ => z = .bl true
theorem lstT {K : PySem.W.Frag} {H : Hp} {a : Addr} {xs : List V} (h : SqL K H a xs) : TyX K H (.ref a) (.type "list") := by
  rcases h with (h | ⟨o, h⟩) | ⟨o, its, n, hk, hc, _⟩
  · exact .base (.lst h)
  · exact .base (.frz h)
  · exact .kList hk hc
theorem tupT2 {K : PySem.W.Frag} {H : Hp} {a : Addr} {xs : List V} (h : SqT K H a xs) : TyX K H (.ref a) (.type "tuple") := by
  rcases h with (h | ⟨o, h⟩) | ⟨o, its, n, hk, hc, _⟩
  · exact .base (.tup h)
  · exact .fTuple h
  · exact .kTuple hk hc
theorem kitI {K : PySem.W.Frag} : PySem.W.kitAny K (.type "int") [.type "list", .type "tuple"] = some false :=
  kitAny_cons (b := false) (kit_ty (by decide +kernel)) (fun _ => kitAny_cons (b := false) (kit_ty (by decide +kernel)) (fun _ => rfl) (fun h => Bool.noConfusion h)) (fun h => Bool.noConfusion h)
theorem kitS {K : PySem.W.Frag} : PySem.W.kitAny K (.type "str") [.type "list", .type "tuple"] = some false :=
  kitAny_cons (b := false) (kit_ty (by decide +kernel)) (fun _ => kitAny_cons (b := false) (kit_ty (by decide +kernel)) (fun _ => rfl) (fun h => Bool.noConfusion h)) (fun h => Bool.noConfusion h)
theorem kitN {K : PySem.W.Frag} : PySem.W.kitAny K (.type "NoneType") [.type "list", .type "tuple"] = some false :=
  kitAny_cons (b := false) (kit_ty (by decide +kernel)) (fun _ => kitAny_cons (b := false) (kit_ty (by decide +kernel)) (fun _ => rfl) (fun h => Bool.noConfusion h)) (fun h => Bool.noConfusion h)
theorem kitB {K : PySem.W.Frag} : PySem.W.kitAny K (.type "bool") [.type "list", .type "tuple"] = some false :=
  kitAny_cons (b := false) (kit_ty (by decide +kernel)) (fun _ => kitAny_cons (b := false) (kit_ty (by decide +kernel)) (fun _ => rfl) (fun h => Bool.noConfusion h)) (fun h => Bool.noConfusion h)
theorem kitL {K : PySem.W.Frag} : PySem.W.kitAny K (.type "list") [.type "list", .type "tuple"] = some true :=
  kitAny_cons (b := true) (kit_ty (by decide +kernel)) (fun h => Bool.noConfusion h) (fun _ => rfl)
theorem kitT {K : PySem.W.Frag} : PySem.W.kitAny K (.type "tuple") [.type "list", .type "tuple"] = some true :=
  kitAny_cons (b := false) (kit_ty (by decide +kernel)) (fun _ => kitAny_cons (b := true) (kit_ty (by decide +kernel)) (fun h => Bool.noConfusion h) (fun _ => rfl)) (fun h => Bool.noConfusion h)
section
variable {P : Program} {w : World} {K : PySem.W.Frag} {mg : Str → Option Value} {base : Heap}
theorem ok_isint {f : Addr} {fd : FuncData} (F : Fun K "_law_is_integer" "_law_is_integer" s_law_is_integer f fd) (T : Bl mg) :
    FnOk P w K mg base CX0 1 f fd ["actual"] spIsInt := by
  refine F.ok sc_law_is_integer (fun vs H Q E h => ?_) (fun cdv A outer s0 H vs Q E hr h => ?_)
  · obtain ⟨i, rfl, _⟩ := h
    rfl
  · obtain ⟨i, rfl, q⟩ := h
    refine ⟨_, (pss_one (ps_ret (pe_and (pe_callB call_isi (by rfl) T.isinstance (by decide +kernel) (pa_cons (pv 0) (pa_cons (pe_ty "int" (by rfl) T.int (by decide +kernel)) pa_nil))) (pe_one (pe_not (pe_callB call_isi (by rfl) T.isinstance (by decide +kernel) (pa_cons (pv 0) (pa_cons (pe_ty "bool" (by rfl) T.bool (by decide +kernel)) pa_nil)))))))), ?_⟩
    refine ⟨_, rfl, _, _, .type "int", .type "int", true, rfl, .ty _, .base (.int i), kit_ty (by decide +kernel), ?_⟩
    refine ⟨_, rfl, iteT ?_⟩
    refine ⟨_, rfl, _, _, .type "int", .type "bool", false, rfl, .ty _, .base (.int i), kit_ty (by decide +kernel), ?_⟩
    exact ⟨_, rfl, q⟩
theorem ok_smZ {f : Addr} {fd : FuncData} (F : Fun K "_law_same" "_law_same" s_law_same f fd) : FnOk P w K mg base CX0 1 f fd ["actual", "expected"] (spSm K 0) :=
  F.ok sc_law_same (fun vs H Q E h => h.elim) (fun cdv A outer s0 H vs Q E hr h => h.elim)
theorem ok_sm {f : Addr} {fd : FuncData} (F : Fun K "_law_same" "_law_same" s_law_same f fd) (T : Bl mg) {n : Nat}
    (D_law_is_integer : Kn P w K mg base 1 "_law_is_integer" ["actual"] spIsInt)
    (D_law_same : Kn P w K mg base (n + 1) "_law_same" ["actual", "expected"] (spSm K n)) :
    FnOk P w K mg base CX0 (n + 2) f fd ["actual", "expected"] (spSm K (n + 1)) := by
  refine F.ok sc_law_same (fun vs H Q E h => ?_) (fun cdv A outer s0 H vs Q E hr h => ?_)
  · obtain ⟨x, y, d, rfl, _⟩ := h
    rfl
  · obtain ⟨x, y, d, rfl, hx, hy, hi, hd, q⟩ := h
    refine ⟨_, (pss_cons (ps_if (pt_val (pe_callB call_isiT (by rfl) T.isinstance (by decide +kernel) (pa_cons (pv 1) (pa_cons (pe_tup (pa_cons (pe_ty "list" (by rfl) T.list (by decide +kernel)) (pa_cons (pe_ty "tuple" (by rfl) T.tuple (by decide +kernel)) pa_nil))) pa_nil)))) (pss_cons (ps_if (PW.pt (pw_or (pt_cmpR op_ne (pe_callB call_isi (by rfl) T.isinstance (by decide +kernel) (pa_cons (pv 1) (pa_cons (pe_ty "list" (by rfl) T.list (by decide +kernel)) pa_nil))) (pe_callB call_isi (by rfl) T.isinstance (by decide +kernel) (pa_cons (pv 0) (pa_cons (pe_ty "list" (by rfl) T.list (by decide +kernel)) pa_nil))) (nomark _)) (pw_or1 (pt_cmpR op_ne (pe_callB call_isi (by rfl) T.isinstance (by decide +kernel) (pa_cons (pv 1) (pa_cons (pe_ty "tuple" (by rfl) T.tuple (by decide +kernel)) pa_nil))) (pe_callB call_isi (by rfl) T.isinstance (by decide +kernel) (pa_cons (pv 0) (pa_cons (pe_ty "tuple" (by rfl) T.tuple (by decide +kernel)) pa_nil))) (nomark _))))) (pss_one (ps_ret pe_bl)) pss_nil)
      (pss_cons (ps_if (pt_cmpR op_ne (pe_callB call_len_seq (by rfl) T.len PySem.boot_len (pa_cons (pv 0) pa_nil)) (pe_callB call_len_seq (by rfl) T.len PySem.boot_len (pa_cons (pv 1) pa_nil)) (nomark _)) (pss_one (ps_ret pe_bl)) pss_nil)
      (pss_cons (ps_for PassesOwn.never rfl (pi_range1 (by rfl) T.range (pa_cons (pe_callB call_len_seq (by rfl) T.len PySem.boot_len (pa_cons (pv 1) pa_nil)) pa_nil)) (pg_name (i := 2) sc_law_same.nd rfl (.inl rfl)) (pss_one (ps_if (pt_not (pt_val (pe_kn D_law_same hr (pa_cons (pe_ix ix_seq (pv 0) (pv 2) (fun _ _ => rfl)) (pa_cons (pe_ix ix_seq (pv 1) (pv 2) (fun _ _ => rfl)) pa_nil)) (Nat.le_refl _)))) (pss_one (ps_ret pe_bl)) pss_nil)))
      (pss_one (ps_ret pe_bl))))) pss_nil)
      (pss_cons (ps_if (pt_cmpR op_isN (pv 1) pe_non (nomark _)) (pss_one (ps_ret (pe_cmpR op_isN (pv 0) pe_non (nomark _)))) pss_nil)
      (pss_cons (ps_if (pt_val (pe_callB call_isi (by rfl) T.isinstance (by decide +kernel) (pa_cons (pv 1) (pa_cons (pe_ty "bool" (by rfl) T.bool (by decide +kernel)) pa_nil)))) (pss_one (ps_ret (pe_and (pe_callB call_isi (by rfl) T.isinstance (by decide +kernel) (pa_cons (pv 0) (pa_cons (pe_ty "bool" (by rfl) T.bool (by decide +kernel)) pa_nil))) (pe_one (pe_cmpR op_eq (pv 0) (pv 1) (nomark _)))))) pss_nil)
      (pss_cons (ps_if (pt_val (pe_callB call_isi (by rfl) T.isinstance (by decide +kernel) (pa_cons (pv 1) (pa_cons (pe_ty "int" (by rfl) T.int (by decide +kernel)) pa_nil)))) (pss_one (ps_ret (pe_and (pe_kn D_law_is_integer hr (pa_cons (pv 0) pa_nil) (by omega)) (pe_one (pe_cmpR op_eq (pv 0) (pv 1) (nomark _)))))) pss_nil)
      (pss_one (ps_ret (pe_and (pe_callB call_isi (by rfl) T.isinstance (by decide +kernel) (pa_cons (pv 0) (pa_cons (pe_ty "str" (by rfl) T.str (by decide +kernel)) pa_nil))) (pe_one (pe_cmpR op_eq (pv 0) (pv 1) (nomark _)))))))))), ?_⟩
    cases hy with
    | int i =>
      cases hx
      refine ⟨_, rfl, sz 2, fun t nt => ?_⟩
      refine ⟨_, _, _, _, _, false, rfl, upd_same, .cons (.ty "list") (.cons (.ty "tuple") .nil), .base (.int i), kitI, ?_⟩
      refine ⟨_, rfl, iteF ?_⟩
      refine ⟨_, rfl, rfl, _, rfl, ite2 (fun e => absurd e (by simp)) (fun _ => ?_)⟩
      refine ⟨_, rfl, _, _, .type "int", .type "bool", false, rfl, .ty _, .base (.int i), kit_ty (by decide +kernel), ?_⟩
      refine ⟨_, rfl, iteF ?_⟩
      refine ⟨_, rfl, _, _, .type "int", .type "int", true, rfl, .ty _, .base (.int i), kit_ty (by decide +kernel), ?_⟩
      refine ⟨_, rfl, iteT ?_⟩
      refine ⟨_, rfl, i, rfl, _, rfl, iteT ?_⟩
      exact ⟨_, rfl, _, rfl, rfl, q _ _ (by rw [decide_eq_true rfl]) (Same.new nt)⟩
    | str z =>
      cases hx
      refine ⟨_, rfl, sz 2, fun t nt => ?_⟩
      refine ⟨_, _, _, _, _, false, rfl, upd_same, .cons (.ty "list") (.cons (.ty "tuple") .nil), .base (.str z), kitS, ?_⟩
      refine ⟨_, rfl, iteF ?_⟩
      refine ⟨_, rfl, rfl, _, rfl, ite2 (fun e => absurd e (by simp)) (fun _ => ?_)⟩
      refine ⟨_, rfl, _, _, .type "str", .type "bool", false, rfl, .ty _, .base (.str z), kit_ty (by decide +kernel), ?_⟩
      refine ⟨_, rfl, iteF ?_⟩
      refine ⟨_, rfl, _, _, .type "str", .type "int", false, rfl, .ty _, .base (.str z), kit_ty (by decide +kernel), ?_⟩
      refine ⟨_, rfl, iteF ?_⟩
      refine ⟨_, rfl, _, _, .type "str", .type "str", true, rfl, .ty _, .base (.str z), kit_ty (by decide +kernel), ?_⟩
      refine ⟨_, rfl, iteT ?_⟩
      exact ⟨_, rfl, _, rfl, rfl, q _ _ (by rw [decide_eq_true rfl]) (Same.new nt)⟩
    | bl b =>
      cases hx
      refine ⟨_, rfl, sz 2, fun t nt => ?_⟩
      refine ⟨_, _, _, _, _, false, rfl, upd_same, .cons (.ty "list") (.cons (.ty "tuple") .nil), .base (.bl b), kitB, ?_⟩
      refine ⟨_, rfl, iteF ?_⟩
      refine ⟨_, rfl, rfl, _, rfl, ite2 (fun e => absurd e (by simp)) (fun _ => ?_)⟩
      refine ⟨_, rfl, _, _, .type "bool", .type "bool", true, rfl, .ty _, .base (.bl b), kit_ty (by decide +kernel), ?_⟩
      refine ⟨_, rfl, iteT ?_⟩
      refine ⟨_, rfl, _, _, .type "bool", .type "bool", true, rfl, .ty _, .base (.bl b), kit_ty (by decide +kernel), ?_⟩
      refine ⟨_, rfl, iteT ?_⟩
      exact ⟨_, rfl, _, rfl, rfl, q _ _ (by rw [decide_eq_true rfl]) (Same.new nt)⟩
    | non =>
      cases hx
      refine ⟨_, rfl, sz 2, fun t nt => ?_⟩
      refine ⟨_, _, _, _, _, false, rfl, upd_same, .cons (.ty "list") (.cons (.ty "tuple") .nil), .base (.non), kitN, ?_⟩
      refine ⟨_, rfl, iteF ?_⟩
      refine ⟨_, rfl, rfl, _, rfl, ite2 (fun _ => ?_) (fun e => absurd (decide_eq_true rfl) e)⟩
      exact ⟨_, rfl, rfl, q _ _ (by rw [decide_eq_true rfl]) (Same.new nt)⟩
    | @tup b ys ds sy ay =>
      cases hx with
      | @tup a xs _ sx ax =>
        have lx := DpAll.len ax
        have ly := DpAll.len ay
        refine ⟨_, rfl, sz 2, fun t nt => ?_⟩
        have s1 := Same.new (o := .tup [.ty "list", .ty "tuple"]) nt
        have t1 : Tk K H _ := Tk.same s1
        have tx := tupT2 (K := K) (t1 _ _ sx)
        have ty := tupT2 (K := K) (t1 _ _ sy)
        refine ⟨_, _, _, _, _, true, rfl, upd_same, .cons (.ty "list") (.cons (.ty "tuple") .nil), ty, kitT, ?_⟩
        refine ⟨_, rfl, iteT ?_⟩
        refine ⟨_, rfl, _, _, .type "tuple", .type "list", false, rfl, .ty _, ty, kit_ty (by decide +kernel), ?_⟩
        refine ⟨_, rfl, _, _, .type "tuple", .type "list", false, rfl, .ty _, tx, kit_ty (by decide +kernel), ?_⟩
        refine ⟨rfl, _, rfl, ?_⟩
        refine iteF ?_
        refine ⟨_, rfl, _, _, .type "tuple", .type "tuple", true, rfl, .ty _, ty, kit_ty (by decide +kernel), ?_⟩
        refine ⟨_, rfl, _, _, .type "tuple", .type "tuple", true, rfl, .ty _, tx, kit_ty (by decide +kernel), ?_⟩
        refine ⟨rfl, _, rfl, ?_⟩
        refine iteF ?_
        refine ⟨_, rfl, a, xs, rfl, .inr (t1 _ _ sx), _, rfl, b, ys, rfl, .inr (t1 _ _ sy), rfl, _, rfl, ?_⟩
        rw [lx, ly]
        refine iteNS rfl ?_
        have bd : ds.length ≤ 1000 := by
          rw [K1.ist, Bool.and_eq_true] at hi
          exact of_decide_eq_true hi.1
        refine ⟨_, rfl, b, ys, rfl, .inr (t1 _ _ sy), (ys.length : Int), rfl, by omega, by omega, for_range (lo := 0) (n := (ys.length : Int).toNat) (fun i σ H4 => ∃ y2 : Option V, σ = [some (.ref a), some (.ref b), y2] ∧ Same H H4)
          ⟨none, rfl, s1⟩ (fun i σ H4 hi4 hP => ?_) (fun σ H4 hP => ?_)⟩
        · obtain ⟨y2, rfl, sm⟩ := hP
          have il : i < ds.length := by omega
          have ed := List.getElem?_eq_getElem il
          obtain ⟨u, eu, du⟩ := DpAll.get ax ed
          obtain ⟨v, ev, dv⟩ := DpAll.get ay ed
          have t4 : Tk K H H4 := Tk.same sm
          have id : ist ds[i] = true := ists_at (by rw [K1.ist, Bool.and_eq_true] at hi; exact hi.2) ed
          rw [PyData.depth] at hd
          have dd : PyData.depthAll ds ≤ n - 1 := by omega
          have d2 := depth_at dd ed
          cases n with
          | zero => omega
          | succ n =>
          refine ⟨_, rfl, _, rfl, (.inr (.inl ⟨a, xs, _, u, rfl, rfl, (t4 _ _ sx), at_of (j := i) (by omega) eu, _, rfl, _, rfl, (.inr (.inl ⟨b, ys, _, v, rfl, rfl, (t4 _ _ sy), at_of (j := i) (by omega) ev, u, v, ds[i], rfl,
            Dp.sm sm _ _ du, Dp.sm sm _ _ dv, id, d2, ?_⟩))⟩))⟩
          rintro z H5 rfl s5
          exact ⟨_, rfl, iteF ⟨_, rfl, sm.trans s5⟩⟩
        · obtain ⟨y2, rfl, sm⟩ := hP
          exact q _ _ rfl sm
    | @lst b ys ds sy ay =>
      cases hx with
      | @lst a xs _ sx ax =>
        have lx := DpAll.len ax
        have ly := DpAll.len ay
        refine ⟨_, rfl, sz 2, fun t nt => ?_⟩
        have s1 := Same.new (o := .tup [.ty "list", .ty "tuple"]) nt
        have t1 : Tk K H _ := Tk.same s1
        have tx := lstT (K := K) (s1.seq sx)
        have ty := lstT (K := K) (s1.seq sy)
        refine ⟨_, _, _, _, _, true, rfl, upd_same, .cons (.ty "list") (.cons (.ty "tuple") .nil), ty, kitL, ?_⟩
        refine ⟨_, rfl, iteT ?_⟩
        refine ⟨_, rfl, _, _, .type "list", .type "list", true, rfl, .ty _, ty, kit_ty (by decide +kernel), ?_⟩
        refine ⟨_, rfl, _, _, .type "list", .type "list", true, rfl, .ty _, tx, kit_ty (by decide +kernel), ?_⟩
        refine ⟨rfl, _, rfl, ?_⟩
        refine iteF ?_
        refine ⟨_, rfl, _, _, .type "list", .type "tuple", false, rfl, .ty _, ty, kit_ty (by decide +kernel), ?_⟩
        refine ⟨_, rfl, _, _, .type "list", .type "tuple", false, rfl, .ty _, tx, kit_ty (by decide +kernel), ?_⟩
        refine ⟨rfl, _, rfl, ?_⟩
        refine iteF ?_
        refine ⟨_, rfl, a, xs, rfl, .inl (s1.seq sx), _, rfl, b, ys, rfl, .inl (s1.seq sy), rfl, _, rfl, ?_⟩
        rw [lx, ly]
        refine iteNS rfl ?_
        have bd : ds.length ≤ 1000 := by
          rw [K1.ist, Bool.and_eq_true] at hi
          exact of_decide_eq_true hi.1
        refine ⟨_, rfl, b, ys, rfl, .inl (s1.seq sy), (ys.length : Int), rfl, by omega, by omega, for_range (lo := 0) (n := (ys.length : Int).toNat) (fun i σ H4 => ∃ y2 : Option V, σ = [some (.ref a), some (.ref b), y2] ∧ Same H H4)
          ⟨none, rfl, s1⟩ (fun i σ H4 hi4 hP => ?_) (fun σ H4 hP => ?_)⟩
        · obtain ⟨y2, rfl, sm⟩ := hP
          have il : i < ds.length := by omega
          have ed := List.getElem?_eq_getElem il
          obtain ⟨u, eu, du⟩ := DpAll.get ax ed
          obtain ⟨v, ev, dv⟩ := DpAll.get ay ed
          have t4 : Tk K H H4 := Tk.same sm
          have id : ist ds[i] = true := ists_at (by rw [K1.ist, Bool.and_eq_true] at hi; exact hi.2) ed
          rw [PyData.depth] at hd
          have dd : PyData.depthAll ds ≤ n - 1 := by omega
          have d2 := depth_at dd ed
          cases n with
          | zero => omega
          | succ n =>
          refine ⟨_, rfl, _, rfl, (.inl ⟨a, xs, _, u, rfl, rfl, (sm.seq sx), at_of (j := i) (by omega) eu, _, rfl, _, rfl, (.inl ⟨b, ys, _, v, rfl, rfl, (sm.seq sy), at_of (j := i) (by omega) ev, u, v, ds[i], rfl,
            Dp.sm sm _ _ du, Dp.sm sm _ _ dv, id, d2, ?_⟩)⟩)⟩
          rintro z H5 rfl s5
          exact ⟨_, rfl, iteF ⟨_, rfl, sm.trans s5⟩⟩
        · obtain ⟨y2, rfl, sm⟩ := hP
          exact q _ _ rfl sm
    all_goals exact absurd hi (by simp [K1.ist])
end
end K1

namespace K1
open PySem PySem.Spec PyProof.Rows L2 Ow Tlz
theorem rising_pw : ∀ (r : List Str) (p : Str), risingS p r = true → (∀ x ∈ r, ¬ x.cps.toList < p.cps.toList) ∧ r.Pairwise fun a b => ¬ b.cps.toList < a.cps.toList
  | [], p, _ => ⟨(fun _ m => nomatch m), .nil⟩
  | x :: r, p, h => by
    rw [risingS, Bool.and_eq_true, ltCps_eq] at h
    have h1 : ¬ x.cps.toList < p.cps.toList := fun z => by
      rw [decide_eq_true z] at h
      exact absurd h.1 (by decide)
    obtain ⟨a, b⟩ := rising_pw r x h.2
    refine ⟨fun y m => ?_, List.pairwise_cons.mpr ⟨fun y m => a y m, b⟩⟩
    rcases List.mem_cons.mp m with rfl | m
    · exact h1
    · intro z
      have z1 := a y m
      have z2 := List.le_trans (show p.cps.toList ≤ x.cps.toList from h1) (show x.cps.toList ≤ y.cps.toList from z1)
      exact z2 z
theorem sortedS_pw : ∀ {xs : List Str}, sortedS xs = true → xs.Pairwise fun a b => ¬ b.cps.toList < a.cps.toList
  | [], _ => .nil
  | x :: r, h => List.pairwise_cons.mpr (rising_pw r x h)
theorem sortedS_one {xs ys : List Str} (hx : sortedS xs = true) (hy : sortedS ys = true) (p : xs.Perm ys) : xs = ys :=
  List.Perm.eq_of_pairwise (le := fun a b => ¬ b.cps.toList < a.cps.toList) (fun a b _ _ h1 h2 => by
    rcases str_tot a b with h | h | h
    · exact absurd h h2
    · exact h
    · exact absurd h h1) (sortedS_pw hx) (sortedS_pw hy) p
/-! places -/
theorem kvR_val (R : Tb) (n : Str) : valV (kvR R) (Sum.inr n) = (valG R n).map fun b => V.ref b.1 := kvG_val _ _ _
theorem kvR_keys (R : Tb) : (kvR R).map (·.1) = (R.map (·.1)).map Sum.inr := by
  unfold kvR kvG
  rw [List.map_map, List.map_map]
  rfl
theorem mem_val {R : Tb} {n : Str} (h : n ∈ R.map (·.1)) : ∃ q c, valG R n = some (q, c) ∧ (n, q, c) ∈ R := by
  cases e : valG R n with
  | none =>
    obtain ⟨x, mx, ex⟩ := List.mem_map.mp h
    exact absurd ex (valG_none e x mx)
  | some b => exact ⟨b.1, b.2, rfl, valG_mem e⟩
theorem dget_n {H : Hp} {d : Addr} {R : Tb} {n : Str} {q : Addr} {c : List V} (h : Rd H d (.dK (kvR R))) (e : valG R n = some (q, c)) : DGet H d (.str n) (some (.ref q)) := by
  refine .inl ⟨kvR R, Sum.inr n, h, rfl, ?_⟩
  rw [kvR_val, e]
  rfl
theorem ix_tup_K {X : Cx} {K : PySem.W.Frag} (e : X.K = K) : IxR X (rIxT K) := by
  subst e
  exact ix_tup
theorem pe_fld_K {X : Cx} {K : PySem.W.Frag} (e : X.K = K) {o : Expr} {ta : TE} {f : Str} {pos : Pos} (ha : PE X o ta) (hb : attributeBase o f X.env (eval o X.env) = eval o X.env) : PE X (.Attribute o f pos) (tFld K ta f) := by
  subst e
  exact pe_fld ha hb
theorem Same.lock {d : Addr} {od : Obj} {u : HO} {H H' : Hp} (hd : H d = some u) (s : Same (upd H d (.frz od u)) H') : Same H (upd H' d u) := fun b o e => by
  by_cases w : b = d
  · subst w
    rw [upd_same, ← hd, e]
  · rw [upd_ne w]
    exact s b o (by rw [upd_ne w]; exact e)
theorem kvR_at {R : Tb} {i : Nat} {k : Key} {v : V} (h : (kvR R)[i]? = some (k, v)) : ∃ e, R[i]? = some e ∧ k = Sum.inr e.1 ∧ v = .ref e.2.1 := by
  unfold kvR kvG at h
  rw [List.getElem?_map] at h
  cases z : R[i]? with
  | none => rw [z] at h; cases h
  | some e =>
    rw [z] at h
    have := Option.some.inj h
    exact ⟨e, rfl, (congrArg Prod.fst this).symm, (congrArg Prod.snd this).symm⟩
theorem ix_list_K {X : Cx} {K : PySem.W.Frag} (e : X.K = K) : IxR X (rIxL K) := by
  subst e
  exact ix_list
theorem op_catA_K {X : Cx} {K : PySem.W.Frag} (e : X.K = K) : OpR X (binaryOp .Add) (rCatA K) := by
  subst e
  exact op_catA
theorem kv_names (R : Tb) : (kvR R).map (fun kv => kV kv.1) = (R.map (·.1)).map V.str := by
  unfold kvR kvG
  rw [List.map_map, List.map_map]
  rfl
theorem kvF_names (F : Fb) : (kvF F).map (fun kv => kV kv.1) = (F.map (·.1)).map V.str := by
  unfold kvF kvG
  rw [List.map_map, List.map_map]
  rfl
theorem strs_get {ys : List Str} {i : Nat} {y : V} (h : (ys.map V.str)[i]? = some y) : ∃ n, ys[i]? = some n ∧ y = .str n := by
  rw [List.getElem?_map] at h
  cases e : ys[i]? with
  | none => rw [e] at h; cases h
  | some t => rw [e] at h; exact ⟨t, rfl, (Option.some.inj h).symm⟩
theorem take_snoc' {α : Type} {xs : List α} {i : Nat} {x : α} (h : xs[i]? = some x) : xs.take (i + 1) = xs.take i ++ [x] := by
  rw [List.take_add_one, h]
  rfl
theorem dgetF {H : Hp} {d : Addr} {F : Fb} {n : Str} {q : Addr} {c : List (Addr × List V)} (h : Rd H d (.dK (kvF F))) (e : valG F n = some (q, c)) : DGet H d (.str n) (some (.ref q)) := by
  refine .inl ⟨kvF F, Sum.inr n, h, rfl, ?_⟩
  rw [kvF_val, e]
  rfl
theorem Rng.tk {K : PySem.W.Frag} {d p : Addr} {H H' : Hp} (r : Rng d H p) (g : Gw p H H') : Tk K H H' := by
  obtain ⟨ds, k, h, _⟩ := r
  exact Tk.gw h g
theorem cut_take (xs : List V) {v : Int} (h : 0 ≤ v) : cutV xs none (some v) = xs.take v.toNat := by
  unfold cutV
  have e : v = ((v.toNat : Nat) : Int) := by omega
  have i2 : HT.sIx xs.length xs.length (some v) = min v.toNat xs.length := by
    have := HT.sIx_nat xs.length xs.length v.toNat
    rw [← e] at this
    exact this
  rw [HT.sIx_none, i2, List.drop_zero, Nat.sub_zero]
  by_cases hv : v.toNat ≤ xs.length
  · rw [Nat.min_eq_left hv]
  · rw [Nat.min_eq_right (by omega), List.take_length, List.take_of_length_le (by omega)]
def rTupK (K : PySem.W.Frag) : List V → Hp → VK → Prop := fun xs H Q => ∃ p ys, xs = [V.ref p] ∧ ((SqL K H p ys ∧ ∀ l, H l = none → Q (.ref l) (upd H l (.tup ys))) ∨ (SqT K H p ys ∧ Q (.ref p) H))
theorem call_tuple_K {X : Cx} {K : PySem.W.Frag} (e : X.K = K) : CallR X (.type "tuple") (rTupK K) := by
  subst e
  exact call_tuple_of
theorem hu65 {k : Nat} {A : Around} (hr : Room k A) : A.units + 65 < cLine := by have := hr.un; omega
end K1
namespace K1
open PySem PySem.Spec PyProof.Rows L2 Ow Tlz
/-! data that the law compares -/
structure Gd (k : Nat) (x : PyData) : Prop where
  i : ist x = true
  d : PyData.depth x ≤ k
  c : PyData.canLay0 x = true
theorem Gd.up {k j : Nat} {d : PyData} (h : Gd k d) (l : k ≤ j) : Gd j d := ⟨h.i, Nat.le_trans h.d l, h.c⟩
theorem Gd.tup {k : Nat} {ds : List PyData} (l : ds.length ≤ 1000) (h : ∀ d ∈ ds, Gd k d) : Gd (k + 1) (.tuple ds) := by
  refine ⟨ist_tup l fun x m => (h x m).i, ?_, ?_⟩
  · rw [PyData.depth]
    have := depthAll_le fun x m => (h x m).d
    omega
  · rw [PyData.canLay0]
    exact layAll fun x m => (h x m).c
theorem Gd.lst {k : Nat} {ds : List PyData} (l : ds.length ≤ 1000) (h : ∀ d ∈ ds, Gd k d) : Gd (k + 1) (.list ds) := by
  refine ⟨ist_lst l fun x m => (h x m).i, ?_, ?_⟩
  · rw [PyData.depth]
    have := depthAll_le fun x m => (h x m).d
    omega
  · rw [PyData.canLay0]
    exact layAll fun x m => (h x m).c
theorem Gd.int (i : Int) : Gd 0 (.int i) := ⟨by rw [ist], by simp [PyData.depth], by simp [PyData.canLay0]⟩
theorem Gd.bool (i : Bool) : Gd 0 (.bool i) := ⟨by rw [ist], by simp [PyData.depth], by simp [PyData.canLay0]⟩
theorem Gd.str {z : Str} (p : Pr z) : Gd 0 (.str z) := ⟨by rw [ist], by simp [PyData.depth], p.ok⟩
theorem Gd.sc {v : V} (h : Scal v) : Gd 0 (scD v) := by
  rcases h with ⟨i, rfl, _⟩ | ⟨z, rfl, p, _⟩
  · exact Gd.int i
  · exact Gd.str p
theorem Gd.row {xs : List V} (h : ∀ x ∈ xs, Scal x) (l : xs.length ≤ 1000) : Gd 1 (rowD xs) := by
  refine Gd.tup (by rw [List.length_map]; exact l) fun d m => ?_
  obtain ⟨x, mx, rfl⟩ := List.mem_map.mp m
  exact Gd.sc (h x mx)
theorem Gd.shaped {k : Nat} {d : PyData} (h : Gd k d) (l : k ≤ 60) : SeqAt.shaped d = true := shaped_of h.c h.d l
/-- some values with data -/
def CD (K : PySem.W.Frag) (H : Hp) (c : List V) : Prop := ∃ ds, DpAll K H c ds ∧ (∀ d ∈ ds, Gd 1 d) ∧ noLs ds = true
theorem CD.tk {K : PySem.W.Frag} {H H' : Hp} {c : List V} (t : Tk K H H') (h : CD K H c) : CD K H' c := by
  obtain ⟨ds, a, b, n⟩ := h
  exact ⟨ds, DpAll.tk t ds _ n a, b, n⟩
theorem CD.same {K : PySem.W.Frag} {H H' : Hp} {c : List V} (s : Same H H') (h : CD K H c) : CD K H' c := h.tk (Tk.same s)
theorem CD.cons {K : PySem.W.Frag} {H : Hp} {v : V} {c : List V} {d : PyData} (a : Dp K H v d) (g : Gd 1 d) (n : noL d = true) (h : CD K H c) : CD K H (v :: c) := by
  obtain ⟨ds, b, e, m⟩ := h
  refine ⟨d :: ds, .cons a b, fun x m => ?_, by rw [noLs, n, m]; rfl⟩
  rcases List.mem_cons.mp m with z | z
  · rw [z]; exact g
  · exact e x z
theorem CD.nil {K : PySem.W.Frag} {H : Hp} : CD K H [] := ⟨[], .nil, (fun _ m => by cases m), by rw [noLs]⟩
theorem CD.int {K : PySem.W.Frag} {H : Hp} {i : Int} {c : List V} (h : CD K H c) : CD K H (.int i :: c) := CD.cons (.int i) ((Gd.int i).up (by omega)) (by rw [noL] <;> simp) h
theorem CD.str {K : PySem.W.Frag} {H : Hp} {z : Str} {c : List V} (p : Pr z) (h : CD K H c) : CD K H (.str z :: c) := CD.cons (.str z) ((Gd.str p).up (by omega)) (by rw [noL] <;> simp) h
/-- texts -/
theorem strs_dp {K : PySem.W.Frag} {H : Hp} : ∀ {xs : List V}, (∀ x ∈ xs, ∃ z, x = .str z ∧ Pr z) → ∃ ds, DpAll K H xs ds ∧ (∀ d ∈ ds, Gd 0 d) ∧ noLs ds = true
  | [], _ => ⟨[], .nil, (fun _ m => by cases m), by rw [noLs]⟩
  | x :: xs, h => by
    obtain ⟨ds, a, b, n⟩ := strs_dp (K := K) (H := H) (xs := xs) fun y m => h y (List.mem_cons_of_mem _ m)
    obtain ⟨z, rfl, p⟩ := h x List.mem_cons_self
    refine ⟨.str z :: ds, .cons (.str z) a, fun d m => ?_, by rw [noLs, n]; simp [noL]⟩
    rcases List.mem_cons.mp m with e | m
    · rw [e]; exact Gd.str p
    · exact b d m
theorem CD.strs {K : PySem.W.Frag} {H : Hp} {a : Addr} {xs c : List V} (h : SqT K H a xs) (hx : ∀ x ∈ xs, ∃ z, x = .str z ∧ Pr z) (l : xs.length ≤ 1000) (t : CD K H c) : CD K H (.ref a :: c) := by
  obtain ⟨ds, b, e, n⟩ := strs_dp (K := K) (H := H) hx
  exact CD.cons (.tup h b) (Gd.tup (by rw [← DpAll.len b]; exact l) e) (by rw [noL]; exact n) t
/-! items with data -/
def itn : It → Str
  | .rel n _ => n
  | .fact n _ _ => n
  | .str n _ => n
  | .lay n _ => n
def cnt : It → List V
  | .rel _ c => c
  | .fact _ _ _ => []
  | .str _ c => c
  | .lay _ v => [v]
def cln : It → Nat
  | .rel _ _ => 2
  | .fact _ _ _ => 0
  | .str _ _ => 4
  | .lay _ _ => 1
structure ItG (K : PySem.W.Frag) (H : Hp) (a : Addr) (i : It) : Prop where
  at_ : ItAt K H a i
  n : Pr (itn i)
  c : CD K H (cnt i)
  l : (cnt i).length = cln i
theorem ItG.tk {K : PySem.W.Frag} {H H' : Hp} {a : Addr} {i : It} (t : Tk K H H') (h : ItG K H a i) : ItG K H' a i := ⟨h.at_.tk t, h.n, h.c.tk t, h.l⟩
theorem ItG.same {K : PySem.W.Frag} {H H' : Hp} {a : Addr} {i : It} (s : Same H H') (h : ItG K H a i) : ItG K H' a i := ⟨h.at_.tk (Tk.same s), h.n, h.c.same s, h.l⟩
def irf (its : Its) : List V := its.map fun t => .ref t.1
def ItsG (K : PySem.W.Frag) (H : Hp) (its : Its) : Prop := ∀ t ∈ its, ItG K H t.1 t.2
theorem ItsG.tk {K : PySem.W.Frag} {H H' : Hp} {its : Its} (s : Tk K H H') (h : ItsG K H its) : ItsG K H' its := fun t m => (h t m).tk s
theorem ItsG.same {K : PySem.W.Frag} {H H' : Hp} {its : Its} (s : Same H H') (h : ItsG K H its) : ItsG K H' its := fun t m => (h t m).same s
theorem ItsG.sc {K : PySem.W.Frag} {H : Hp} {its : Its} (h : ItsG K H its) : ScI its := fun t m => by
  have g := (h t m).at_
  obtain ⟨a, i⟩ := t
  cases i with
  | fact n r row => exact g.2.2.1
  | rel n c => exact fun _ m => by cases m
  | str n c => exact fun _ m => by cases m
  | lay n v => exact fun _ m => by cases m
theorem irf_get {its : Its} {i : Nat} {x : V} (h : (irf its)[i]? = some x) : ∃ t, its[i]? = some t ∧ x = .ref t.1 := by
  unfold irf at h
  rw [List.getElem?_map] at h
  cases e : its[i]? with
  | none => rw [e] at h; cases h
  | some t => rw [e] at h; exact ⟨t, rfl, (Option.some.inj h).symm⟩
theorem irf_len (its : Its) : (irf its).length = its.length := by unfold irf; rw [List.length_map]
theorem irf_app (its jts : Its) : irf (its ++ jts) = irf its ++ irf jts := by unfold irf; rw [List.map_append]
theorem ItsG.app {K : PySem.W.Frag} {H : Hp} {its jts : Its} (h : ItsG K H its) (g : ItsG K H jts) : ItsG K H (its ++ jts) := fun t m => by
  rcases List.mem_append.mp m with m | m
  · exact h t m
  · exact g t m
theorem ItsG.one {K : PySem.W.Frag} {H : Hp} {t : Addr × It} (h : ItG K H t.1 t.2) : ItsG K H [t] := fun u m => by rw [List.mem_singleton.mp m]; exact h
/-- the data of an item: what its key and its content tell -/
theorem it_data {K : PySem.W.Frag} {H : Hp} {a b : Addr} {i j : It} (h : ItG K H a i) (g : ItG K H b j) (e : ier i = ier j) : ∃ d, Dp K H (.ref a) d ∧ Dp K H (.ref b) d ∧ Gd 2 d := by
  have pw : ∀ w : String, (w = "relation" ∨ w = "fact" ∨ w = "structure" ∨ w = "layout") → Pr (PySem.Str.ofString w) := fun w hw => by
    rcases hw with rfl | rfl | rfl | rfl <;> decide +kernel
  have two : ∀ {w n : Str} {ds : List PyData} {c : List V}, Pr w → Pr n → DpAll K H c ds → (∀ d ∈ ds, Gd 1 d) → c.length ≤ 10 → Gd 2 (.tuple (.str w :: .str n :: ds)) := fun {w n ds c} p1 p2 a h l => by
    have := DpAll.len a
    refine Gd.tup (k := 1) (by rw [List.length_cons, List.length_cons]; omega) fun d m => ?_
    rcases List.mem_cons.mp m with z | m
    · rw [z]; exact (Gd.str p1).up (by omega)
    · rcases List.mem_cons.mp m with z | m
      · rw [z]; exact (Gd.str p2).up (by omega)
      · exact h d m
  cases i with
  | rel n c =>
    cases j with
    | rel m c' =>
      have e1 : n = m := congrArg (fun x => x.2.1) e
      have e2 : c = c' := congrArg (fun x => x.2.2.2) e
      subst e1 e2
      obtain ⟨ds, hd, hg, _⟩ := h.c
      have hd' : DpAll K H c ds := hd
      exact ⟨_, .tup h.at_ (.cons (.str _) (.cons (.str _) hd')), .tup g.at_ (.cons (.str _) (.cons (.str _) hd')), two (pw "relation" (.inl rfl)) h.n hd' hg (by have := h.l; simp [cnt, cln] at this; omega)⟩
    | _ => exact absurd (congrArg (fun x => x.1) e) (by simp [ier])
  | str n c =>
    cases j with
    | str m c' =>
      have e1 : n = m := congrArg (fun x => x.2.1) e
      have e2 : c = c' := congrArg (fun x => x.2.2.2) e
      subst e1 e2
      obtain ⟨ds, hd, hg, _⟩ := h.c
      have hd' : DpAll K H c ds := hd
      exact ⟨_, .tup h.at_ (.cons (.str _) (.cons (.str _) hd')), .tup g.at_ (.cons (.str _) (.cons (.str _) hd')), two (pw "structure" (.inr (.inr (.inl rfl)))) h.n hd' hg (by have := h.l; simp [cnt, cln] at this; omega)⟩
    | _ => exact absurd (congrArg (fun x => x.1) e) (by simp [ier])
  | lay n v =>
    cases j with
    | lay m v' =>
      have e1 : n = m := congrArg (fun x => x.2.1) e
      have e2 : [v] = [v'] := congrArg (fun x => x.2.2.2) e
      cases e2
      subst e1
      obtain ⟨ds, hd, hg, _⟩ := h.c
      have hd' : DpAll K H [v] ds := hd
      exact ⟨_, .tup h.at_ (.cons (.str _) (.cons (.str _) hd')), .tup g.at_ (.cons (.str _) (.cons (.str _) hd')), two (pw "layout" (.inr (.inr (.inr rfl)))) h.n hd' hg (by show 1 ≤ 10; decide)⟩
    | _ => exact absurd (congrArg (fun x => x.1) e) (by simp [ier])
  | fact n r row =>
    cases j with
    | fact m r' row' =>
      have e1 : n = m := congrArg (fun x => x.2.1) e
      have e2 : row = row' := congrArg (fun x => x.2.2.1) e
      subst e1 e2
      obtain ⟨h1, h2, h3, h4⟩ := h.at_
      obtain ⟨g1, g2, _, _⟩ := g.at_
      refine ⟨.tuple [.str "fact", .str n, rowD row], .tup h1 (.cons (.str _) (.cons (.str _) (.cons (.tup h2 (sc_dp h3)) .nil))), .tup g1 (.cons (.str _) (.cons (.str _) (.cons (.tup g2 (sc_dp h3)) .nil))), ?_⟩
      refine Gd.tup (by show 3 ≤ 1000; decide) fun d m => ?_
      simp only [List.mem_cons, List.not_mem_nil, or_false] at m
      rcases m with z | z | z
      · rw [z]; exact (Gd.str (pw "fact" (.inr (.inl rfl)))).up (by omega)
      · rw [z]; exact (Gd.str h.n).up (by omega)
      · rw [z]; exact Gd.row h3 (by omega)
    | _ => exact absurd (congrArg (fun x => x.1) e) (by simp [ier])
theorem its_data {K : PySem.W.Frag} {H : Hp} : ∀ {its jts : Its}, ItsG K H its → ItsG K H jts → its.map te = jts.map te → ∃ ds, DpAll K H (irf its) ds ∧ DpAll K H (irf jts) ds ∧ ∀ d ∈ ds, Gd 2 d
  | [], [], _, _, _ => ⟨[], .nil, .nil, fun _ m => by cases m⟩
  | [], _ :: _, _, _, e => by cases e
  | _ :: _, [], _, _, e => by cases e
  | t :: its, u :: jts, h, g, e => by
    rw [List.map_cons, List.map_cons] at e
    obtain ⟨ds, a, b, c⟩ := its_data (its := its) (jts := jts) (fun x m => h x (List.mem_cons_of_mem _ m)) (fun x m => g x (List.mem_cons_of_mem _ m)) (List.cons.inj e).2
    obtain ⟨d, p, q, r⟩ := it_data (h t List.mem_cons_self) (g u List.mem_cons_self) (List.cons.inj e).1
    refine ⟨d :: ds, .cons p a, .cons q b, fun x m => ?_⟩
    rcases List.mem_cons.mp m with z | m
    · rw [z]; exact r
    · exact c x m
/-! all items of tables, in their order -/
def cOf (R : Tb) (n : Str) : List V := match valG R n with
  | some (_, c) => c
  | none => []
def rOf (F : Fb) (n : Str) : List (Addr × List V) := match valG F n with
  | some (_, rs) => rs
  | none => []
def lOf (L : List (Str × V)) (n : Str) : V := match valG L n with
  | some v => v
  | none => .non
def allE (R : Tb) (F : Fb) (S : Tb) (L : List (Str × V)) (ys fs ss ls : List Str) : List Kt :=
  ys.map (fun n => ier (.rel n (cOf R n))) ++ (fs.flatMap fun n => (rOf F n).map fun t => ier (.fact n t.1 t.2)) ++ ss.map (fun n => ier (.str n (cOf S n))) ++ ls.map fun n => ier (.lay n (lOf L n))
theorem strict {ys : List Str} (nd : ys.Nodup) (h : sortedS ys = true) : ys.Pairwise fun a b => a.cps.toList < b.cps.toList := by
  refine (List.Pairwise.and (sortedS_pw h) nd).imp fun {a b} ⟨h1, h2⟩ => ?_
  rcases str_tot a b with z | z | z
  · exact z
  · exact absurd z h2
  · exact absurd z h1
theorem lt_rel {n m : Str} {c c' : List V} (h : n.cps.toList < m.cps.toList) : tLt (ier (.rel n c)) (ier (.rel m c')) := (tLt_iff (0, n, [], c) (0, m, [], c')).mpr (.inr ⟨rfl, .inl h⟩)
theorem lt_str {n m : Str} {c c' : List V} (h : n.cps.toList < m.cps.toList) : tLt (ier (.str n c)) (ier (.str m c')) := (tLt_iff (2, n, [], c) (2, m, [], c')).mpr (.inr ⟨rfl, .inl h⟩)
theorem lt_lay {n m : Str} {c c' : V} (h : n.cps.toList < m.cps.toList) : tLt (ier (.lay n c)) (ier (.lay m c')) := (tLt_iff (3, n, [], [c]) (3, m, [], [c'])).mpr (.inr ⟨rfl, .inl h⟩)
theorem lt_fact {n m : Str} {r r' : Addr} {c c' : List V} (h : n.cps.toList < m.cps.toList ∨ (n = m ∧ Rlt c c')) : tLt (ier (.fact n r c)) (ier (.fact m r' c')) := (tLt_iff (1, n, c, []) (1, m, c', [])).mpr (.inr ⟨rfl, h⟩)
theorem allE_eq {os : Its} {R S : Tb} {F : Fb} {L : List (Str × V)} {ys fs ss ls : List Str} (h : Rep os R F S L) (ks : KSrt os) (so : ScI os) (py : ys.Perm (R.map (·.1))) (sy : sortedS ys = true) (pf : fs.Perm (F.map (·.1))) (sf : sortedS fs = true)
    (ps : ss.Perm (S.map (·.1))) (ss' : sortedS ss = true) (pl : ls.Perm (L.map (·.1))) (sl : sortedS ls = true) : allE R F S L ys fs ss ls = os.map te := by
  have k1 := strict (py.nodup_iff.mpr h.rn) sy
  have k2 := strict (pf.nodup_iff.mpr h.fd) sf
  have k3 := strict (ps.nodup_iff.mpr h.sn) ss'
  have k4 := strict (pl.nodup_iff.mpr h.ln) sl
  have mt : ∀ x, x ∈ os.map te ↔ ∃ i, Has os i ∧ ier i = x := fun x => by
    rw [List.mem_map]
    exact ⟨fun ⟨t, m, e⟩ => ⟨t.2, ⟨t.1, m⟩, e⟩, fun ⟨i, ⟨a, m⟩, e⟩ => ⟨(a, i), m, e⟩⟩
  have rsc : ∀ n, ∀ t ∈ rOf F n, ∀ x ∈ t.2, Scal x := fun n => by
    unfold rOf
    cases e : valG F n with
    | none => exact fun _ m => by cases m
    | some b => exact (h.fs _ _ _ e).2
  have m1 : ∀ x, x ∈ ys.map (fun n => ier (.rel n (cOf R n))) ↔ ∃ n c, Has os (.rel n c) ∧ ier (.rel n c) = x := fun x => by
    rw [List.mem_map]
    constructor
    · rintro ⟨n, m, e⟩
      have z := valG_key.mp (py.mem_iff.mp m)
      cases ev : valG R n with
      | none => rw [ev] at z; cases z
      | some b =>
        have ec : cOf R n = b.2 := by unfold cOf; rw [ev]
        exact ⟨n, b.2, (h.r n b.2).mp ⟨b.1, ev⟩, by rw [← ec]; exact e⟩
    · rintro ⟨n, c, hs, e⟩
      obtain ⟨q, ev⟩ := (h.r n c).mpr hs
      have ec : cOf R n = c := by unfold cOf; rw [ev]
      exact ⟨n, py.mem_iff.mpr (valG_key.mpr (by rw [ev]; rfl)), by rw [ec]; exact e⟩
  have m3 : ∀ x, x ∈ ss.map (fun n => ier (.str n (cOf S n))) ↔ ∃ n c, Has os (.str n c) ∧ ier (.str n c) = x := fun x => by
    rw [List.mem_map]
    constructor
    · rintro ⟨n, m, e⟩
      have z := valG_key.mp (ps.mem_iff.mp m)
      cases ev : valG S n with
      | none => rw [ev] at z; cases z
      | some b =>
        have ec : cOf S n = b.2 := by unfold cOf; rw [ev]
        exact ⟨n, b.2, (h.s n b.2).mp ⟨b.1, ev⟩, by rw [← ec]; exact e⟩
    · rintro ⟨n, c, hs, e⟩
      obtain ⟨q, ev⟩ := (h.s n c).mpr hs
      have ec : cOf S n = c := by unfold cOf; rw [ev]
      exact ⟨n, ps.mem_iff.mpr (valG_key.mpr (by rw [ev]; rfl)), by rw [ec]; exact e⟩
  have m4 : ∀ x, x ∈ ls.map (fun n => ier (.lay n (lOf L n))) ↔ ∃ n v, Has os (.lay n v) ∧ ier (.lay n v) = x := fun x => by
    rw [List.mem_map]
    constructor
    · rintro ⟨n, m, e⟩
      have z := valG_key.mp (pl.mem_iff.mp m)
      cases ev : valG L n with
      | none => rw [ev] at z; cases z
      | some b =>
        have ec : lOf L n = b := by unfold lOf; rw [ev]
        exact ⟨n, b, (h.l n b).mp ev, by rw [← ec]; exact e⟩
    · rintro ⟨n, c, hs, e⟩
      have ev := (h.l n c).mpr hs
      have ec : lOf L n = c := by unfold lOf; rw [ev]
      exact ⟨n, pl.mem_iff.mpr (valG_key.mpr (by rw [ev]; rfl)), by rw [ec]; exact e⟩
  have m2 : ∀ x, x ∈ (fs.flatMap fun n => (rOf F n).map fun t => ier (.fact n t.1 t.2)) ↔ ∃ n r row, Has os (.fact n r row) ∧ ier (.fact n r row) = x := fun x => by
    rw [List.mem_flatMap]
    constructor
    · rintro ⟨n, m, mm⟩
      obtain ⟨t, mt, e⟩ := List.mem_map.mp mm
      have z := valG_key.mp (pf.mem_iff.mp m)
      cases ev : valG F n with
      | none => rw [ev] at z; cases z
      | some b =>
        have ec : rOf F n = b.2 := by unfold rOf; rw [ev]
        rw [ec] at mt
        obtain ⟨r, hr⟩ := (h.f n t.2).mp ⟨b.1, b.2, ev, t.1, mt⟩
        exact ⟨n, r, t.2, hr, e⟩
    · rintro ⟨n, r, row, hs, e⟩
      obtain ⟨q, rs, ev, r', mr⟩ := (h.f n row).mpr ⟨r, hs⟩
      have ec : rOf F n = rs := by unfold rOf; rw [ev]
      exact ⟨n, pf.mem_iff.mpr (valG_key.mpr (by rw [ev]; rfl)), List.mem_map.mpr ⟨(r', row), by rw [ec]; exact mr, e⟩⟩
  have lo : ∀ (a b : Kt), a.1 < b.1 → tLt a b := fun a b l => (tLt_iff a b).mpr (.inl l)
  have tsc : ∀ x ∈ allE R F S L ys fs ss ls, tSc x := fun x m => by
    unfold allE at m
    rw [List.mem_append, List.mem_append, List.mem_append, m1, m2, m3, m4] at m
    rcases m with ((⟨n, c, _, e⟩ | ⟨n, r, row, ⟨a, m⟩, e⟩) | ⟨n, c, _, e⟩) | ⟨n, v, _, e⟩
    · rw [← e]; exact fun _ m => by cases m
    · rw [← e]; exact so _ m
    · rw [← e]; exact fun _ m => by cases m
    · rw [← e]; exact fun _ m => by cases m
  refine srt_uniq (lt := tLt) ?_ (List.pairwise_map.mpr ks) (fun x mx y my => tLt_asym (tsc x mx) (tsc y my)) fun x => ?_
  · unfold allE
    rw [List.pairwise_append, List.pairwise_append, List.pairwise_append]
    refine ⟨⟨⟨?_, ?_, ?_⟩, ?_, ?_⟩, ?_, ?_⟩
    · exact List.pairwise_map.mpr (k1.imp fun h => lt_rel h)
    · rw [List.pairwise_flatMap]
      refine ⟨fun n _ => ?_, k2.imp fun {a b} hab x mx y my => ?_⟩
      · rw [List.pairwise_map]
        have : Srt (rOf F n) := by
          unfold rOf
          cases e : valG F n with
          | none => exact .nil
          | some b => exact (h.fs _ _ _ e).1
        exact this.imp fun h => lt_fact (.inr ⟨rfl, h⟩)
      · obtain ⟨t, _, e1⟩ := List.mem_map.mp mx
        obtain ⟨u, _, e2⟩ := List.mem_map.mp my
        rw [← e1, ← e2]
        exact lt_fact (.inl hab)
    · intro a ma b mb
      obtain ⟨n, c, _, e⟩ := (m1 a).mp ma
      obtain ⟨n', r, row, _, e'⟩ := (m2 b).mp mb
      rw [← e, ← e']
      exact lo _ _ (by show (0 : Int) < 1; decide)
    · exact List.pairwise_map.mpr (k3.imp fun h => lt_str h)
    · intro a ma b mb
      obtain ⟨n', c', _, e'⟩ := (m3 b).mp mb
      rw [← e']
      rcases List.mem_append.mp ma with ma | ma
      · obtain ⟨n, c, _, e⟩ := (m1 a).mp ma
        rw [← e]
        exact lo _ _ (by show (0 : Int) < 2; decide)
      · obtain ⟨n, r, row, _, e⟩ := (m2 a).mp ma
        rw [← e]
        exact lo _ _ (by show (1 : Int) < 2; decide)
    · exact List.pairwise_map.mpr (k4.imp fun h => lt_lay h)
    · intro a ma b mb
      obtain ⟨n', c', _, e'⟩ := (m4 b).mp mb
      rw [← e']
      rcases List.mem_append.mp ma with ma | ma
      · rcases List.mem_append.mp ma with ma | ma
        · obtain ⟨n, c, _, e⟩ := (m1 a).mp ma
          rw [← e]
          exact lo _ _ (by show (0 : Int) < 3; decide)
        · obtain ⟨n, r, row, _, e⟩ := (m2 a).mp ma
          rw [← e]
          exact lo _ _ (by show (1 : Int) < 3; decide)
      · obtain ⟨n, c, _, e⟩ := (m3 a).mp ma
        rw [← e]
        exact lo _ _ (by show (2 : Int) < 3; decide)
  · rw [mt]
    unfold allE
    rw [List.mem_append, List.mem_append, List.mem_append, m1, m2, m3, m4]
    constructor
    · rintro (((⟨n, c, hs, e⟩ | ⟨n, r, row, hs, e⟩) | ⟨n, c, hs, e⟩) | ⟨n, v, hs, e⟩)
      · exact ⟨_, hs, e⟩
      · exact ⟨_, hs, e⟩
      · exact ⟨_, hs, e⟩
      · exact ⟨_, hs, e⟩
    · rintro ⟨i, hs, e⟩
      cases i with
      | rel n c => exact .inl (.inl (.inl ⟨n, c, hs, e⟩))
      | fact n r row => exact .inl (.inl (.inr ⟨n, r, row, hs, e⟩))
      | str n c => exact .inl (.inr ⟨n, c, hs, e⟩)
      | lay n v => exact .inr ⟨n, v, hs, e⟩
end K1
namespace K1
open PySem PySem.Spec PyProof.Rows L2 Ow Tlz
/-! packs and rows as data -/
def secD (s : List Int) : PyData := .list (s.map .int)
def pkD (ss : List (List Int)) : PyData := .list (ss.map secD)
theorem ints_dp {K : PySem.W.Frag} {H : Hp} : ∀ s : List Int, DpAll K H (s.map V.int) (s.map PyData.int)
  | [] => .nil
  | x :: s => .cons (.int x) (ints_dp s)
theorem secs_dp {K : PySem.W.Frag} {H : Hp} : ∀ {ts : List (Addr × List Int)}, Parts H ts → DpAll K H (refs ts) ((ts.map (·.2)).map secD)
  | [], _ => .nil
  | t :: ts, h => .cons (.lst (SqL.of (h t List.mem_cons_self)) (ints_dp t.2)) (secs_dp (ts := ts) fun u m => h u (List.mem_cons_of_mem _ m))
theorem pk_dp {K : PySem.W.Frag} {H : Hp} {p : Addr} {ts : List (Addr × List Int)} {ss : List (List Int)} (h : H p = some (.lst (refs ts))) (pt : Parts H ts) (e : ts.map (·.2) = ss) : Dp K H (.ref p) (pkD ss) := by
  rw [← e]
  exact .lst (SqL.of h) (secs_dp pt)
theorem ists_ints : ∀ s : List Int, ists (s.map PyData.int) = true
  | [] => by simp [ists]
  | x :: s => by rw [List.map_cons, ists, ists_ints s]; simp [ist]
theorem depth_ints : ∀ s : List Int, PyData.depthAll (s.map PyData.int) = 0
  | [] => by simp [PyData.depthAll]
  | x :: s => by rw [List.map_cons, PyData.depthAll, depth_ints s]; simp [PyData.depth]
theorem pk_depth (ss : List (List Int)) : (pkD ss).depth ≤ 2 := by
  unfold pkD
  rw [PyData.depth]
  have : PyData.depthAll (ss.map secD) ≤ 1 := depthAll_le fun x m => by
    obtain ⟨s, _, rfl⟩ := List.mem_map.mp m
    unfold secD
    rw [PyData.depth, depth_ints]
    exact Nat.le_refl _
  omega
end K1
namespace K1
open PySem PySem.Spec PyProof.Rows L2 Ow Tlz
/-- the tables' content has data -/
structure TabG (K : PySem.W.Frag) (H : Hp) (R : Tb) (F : Fb) (S : Tb) (L : List (Str × V)) : Prop where
  r : ∀ n q c, valG R n = some (q, c) → Pr n ∧ c.length = 2 ∧ CD K H c
  s : ∀ n q c, valG S n = some (q, c) → Pr n ∧ c.length = 4 ∧ CD K H c
  l : ∀ n v, valG L n = some v → Pr n ∧ CD K H [v]
  f : ∀ n, (valG F n).isSome = true → Pr n
theorem TabG.same {K : PySem.W.Frag} {H H' : Hp} {R S : Tb} {F : Fb} {L : List (Str × V)} (s : Same H H') (h : TabG K H R F S L) : TabG K H' R F S L :=
  ⟨fun n q c e => ⟨(h.r n q c e).1, (h.r n q c e).2.1, (h.r n q c e).2.2.same s⟩, fun n q c e => ⟨(h.s n q c e).1, (h.s n q c e).2.1, (h.s n q c e).2.2.same s⟩, fun n v e => ⟨(h.l n v e).1, (h.l n v e).2.same s⟩, h.f⟩
theorem TabG.of {K : PySem.W.Frag} {H : Hp} {R S : Tb} {F : Fb} {L : List (Str × V)} {os : Its} (h : Rep os R F S L) (g : ItsG K H os) : TabG K H R F S L := by
  refine ⟨fun n q c e => ?_, fun n q c e => ?_, fun n v e => ?_, fun n e => ?_⟩
  · obtain ⟨a, m⟩ := (h.r n c).mp ⟨q, e⟩
    exact ⟨(g _ m).n, (g _ m).l, (g _ m).c⟩
  · obtain ⟨a, m⟩ := (h.s n c).mp ⟨q, e⟩
    exact ⟨(g _ m).n, (g _ m).l, (g _ m).c⟩
  · obtain ⟨a, m⟩ := (h.l n v).mp e
    exact ⟨(g _ m).n, (g _ m).c⟩
  · rcases (h.fn n).mp e with ⟨c, a, m⟩ | ⟨r, row, a, m⟩
    · exact (g _ m).n
    · exact (g _ m).n
def spAll (K : PySem.W.Frag) (C : Addr) : Sp := fun vs H Q _ => ∃ (x dr df ds dl : Addr) (Z : Addr → Prop) (R S : Tb) (F : Fb) (L : List (Str × V)) (b : Nat), vs = [.ref x] ∧ StAt K C Z H x dr df ds dl R F S L b ∧ b ≤ 300 ∧ TabG K H R F S L ∧
  R.length < 64 ∧ F.length < 64 ∧ S.length < 64 ∧ L.length < 64 ∧
  ∀ (its : Its) (p : Addr) (ys fs ss ls : List Str) H', ys.Perm (R.map (·.1)) → sortedS ys = true → fs.Perm (F.map (·.1)) → sortedS fs = true → ss.Perm (S.map (·.1)) → sortedS ss = true → ls.Perm (L.map (·.1)) → sortedS ls = true →
    its.map te = allE R F S L ys fs ss ls → Same H H' → H p = none → H' p = some (.lst (irf its)) → ItsG K H' its → Q (.ref p) H'
theorem pa_star_K {X : Cx} {K : PySem.W.Frag} (h : X.K = K) {e : Expr} {p : Pos} {es : List Expr} {te : TE} {t : TA} (he : PE X e te) (hr : PA X es t) : PA X (.Starred e p :: es) (StX.tStar K te t) := by
  subst h
  exact StX.pa_star he hr
theorem key_some {β : Type} {l : List (Str × β)} {ys : List Str} {n : Str} {i : Nat} (p : ys.Perm (l.map (·.1))) (e : ys[i]? = some n) : ∃ b, valG l n = some b := by
  have h := valG_key.mp (p.mem_iff.mp (List.mem_of_getElem? e))
  cases z : valG l n with
  | none => rw [z] at h; cases h
  | some b => exact ⟨b, rfl⟩
theorem dgetL {H : Hp} {d : Addr} {L : List (Str × V)} {n : Str} {v : V} (h : Rd H d (.dK (kvG id L))) (e : valG L n = some v) : DGet H d (.str n) (some v) := by
  refine .inl ⟨kvG id L, Sum.inr n, h, rfl, ?_⟩
  rw [kvG_val, e]
  rfl
theorem cOf_eq {R : Tb} {n : Str} {q : Addr} {c : List V} (e : valG R n = some (q, c)) : cOf R n = c := by unfold cOf; rw [e]
theorem rOf_eq {F : Fb} {n : Str} {q : Addr} {c : List (Addr × List V)} (e : valG F n = some (q, c)) : rOf F n = c := by unfold rOf; rw [e]
theorem lOf_eq {L : List (Str × V)} {n : Str} {v : V} (e : valG L n = some v) : lOf L n = v := by unfold lOf; rw [e]
theorem kvL_keys (L : List (Str × V)) : (kvG id L).map (·.1) = (L.map (·.1)).map Sum.inr := by
  unfold kvG
  rw [List.map_map, List.map_map]
  rfl
theorem kvF_keys (F : Fb) : (kvF F).map (·.1) = (F.map (·.1)).map Sum.inr := by
  unfold kvF kvG
  rw [List.map_map, List.map_map]
  rfl
theorem te_app (its jts : Its) : (its ++ jts).map te = its.map te ++ jts.map te := List.map_append
section
variable {P : Program} {w : World} {K : PySem.W.Frag} {mg : Str → Option Value} {base : Heap} {C : Addr}
end
end K1
namespace K1
open PySem PySem.Spec PyProof.Rows L2 Ow Tlz
abbrev s_law_sorted : Stmt := topS 46
abbrev N_law_sorted : List Str := ["rows", "ordered", "row", "at", "other"]
theorem sc_law_sorted : FnScope N_law_sorted ["rows"] (defScope s_law_sorted) := ⟨rfl, rfl, rfl, by decide +kernel, rfl, by decide +kernel, by decide +kernel⟩
def spSorted (K : PySem.W.Frag) : Sp := fun vs H Q _ => ∃ (a : Addr) (rs : List (Addr × List V)), vs = [.ref a] ∧ SqL K H a (rrefs rs) ∧ RowsOk K H rs ∧ rs.length ≤ 300 ∧
  ∀ (rs' : List (Addr × List V)) (p : Addr) H', Same H H' → H p = none → H' p = some (.lst (rrefs rs')) → RowsOk K H' rs' → rs'.length ≤ rs.length → SrtS rs' → (∀ t ∈ rs', t ∈ rs) → Q (.ref p) H'
theorem count_place : ∀ {ts : List (Addr × List V)} {row : List V}, SrtS ts → (∀ x ∈ row, Scal x) → Place ts row (ts.countP fun u => decide (orderV u.2 row < 0))
  | [], row, _, _ => ⟨(fun j t h => absurd h (Nat.not_lt_zero _)), fun j t _ h => by cases h⟩
  | y :: ys, row, h, sr => by
    have hp := List.pairwise_cons.mp h.1
    have h' : SrtS ys := ⟨hp.2, fun t m => h.2 t (List.mem_cons_of_mem _ m)⟩
    have sy := h.2 y List.mem_cons_self
    by_cases c : Rlt y.2 row
    · obtain ⟨i1, i2⟩ := count_place (ts := ys) (row := row) h' sr
      rw [List.countP_cons, if_pos (decide_eq_true (show orderV y.2 row < 0 from c))]
      refine ⟨fun j t hj e => ?_, fun j t hj e => ?_⟩
      · cases j with
        | zero => rw [← Option.some.inj e]; exact c
        | succ j => exact i1 j t (by omega) e
      · cases j with
        | zero => omega
        | succ j => exact i2 j t (by omega) e
    · have c0 : (y :: ys).countP (fun u => decide (orderV u.2 row < 0)) = 0 := by
        rw [List.countP_eq_zero]
        intro u m z
        have z' : Rlt u.2 row := of_decide_eq_true z
        rcases List.mem_cons.mp m with e | m
        · rw [e] at z'; exact c z'
        · exact c (rlt_trans sy (h'.2 u m) sr (hp.1 u m) z')
      rw [c0]
      refine ⟨(fun j t hj => absurd hj (Nat.not_lt_zero _)), fun j t _ e z => ?_⟩
      have m := List.mem_of_getElem? e
      rcases List.mem_cons.mp m with e | m
      · rw [e] at z; exact c z
      · exact c (rlt_trans sy (h'.2 t m) sr (hp.1 t m) z)
section
variable {P : Program} {w : World} {K : PySem.W.Frag} {mg : Str → Option Value} {base : Heap} {C : Addr}
theorem ok_sorted {f : Addr} {fd : FuncData} (F0 : Fun K "_law_sorted" "_law_sorted" s_law_sorted f fd) (T : Bl mg)
    (D_law_order : Kn P w K mg base 2 "_law_order" ["first", "second"] (spOrder K)) :
    FnOk P w K mg base CX0 3 f fd ["rows"] (spSorted K) := by
  refine F0.ok sc_law_sorted (fun vs H Q E h => ?_) (fun cdv A outer s H vs Q E hr h => ?_)
  · obtain ⟨a, rs, rfl, _⟩ := h
    rfl
  · obtain ⟨a, rs, rfl, ha, ro, lr, q⟩ := h
    refine ⟨_, (pss_cons (ps_set (i := 1) sc_law_sorted.nd rfl (.inl rfl) (pe_lst pa_nil))
      (pss_cons (ps_for PassesOwn.never rfl (pi_list (pv 0)) (pg_name (i := 2) sc_law_sorted.nd rfl (.inl rfl)) (pss_cons (ps_set (i := 3) sc_law_sorted.nd rfl (.inl rfl) pe_int)
      (pss_cons (ps_for PassesOwn.never rfl (pi_list (pv 1)) (pg_name (i := 4) sc_law_sorted.nd rfl (.inl rfl)) (pss_one (ps_set (i := 3) sc_law_sorted.nd rfl (.inl rfl) (pe_op op_add (pv 3) (pe_callTy call_int1 (by rfl) T.int (by decide +kernel) (pa_cons (pe_cmpR op_lt (pe_kn D_law_order hr (pa_cons (pv 4) (pa_cons (pv 2) pa_nil))) pe_int (nomark _)) pa_nil))))))
      (pss_one (ps_if (pt_cmpR (op_notInD (hu65 hr)) (pv 2) (pv 1) (by rfl)) (pss_one (ps_expr (pe_bm PySem.F.plainAttrs_list PySem.F.slot_list_insert PySem.F.type_list_insert mt_insert (pv 1) (pa_cons (pv 3) (pa_cons (pv 2) pa_nil))))) pss_nil)))))
      (pss_one (ps_ret (pv 1))))), ?_⟩
    refine ⟨sz 0, fun o no => ?_⟩
    refine ⟨_, rfl, a, rfl, ⟨_, (Same.new no).seq ha⟩, for_list (K := K) (a := a) (xs := rrefs rs) (fun i σ H4 => ∃ (y2 y3 y4 : Option V) (ts : List (Addr × List V)), σ = [some (.ref a), some (.ref o), y2, y3, y4] ∧ Same H H4 ∧ H4 o = some (.lst (rrefs ts)) ∧ RowsOk K H4 ts ∧ ts.length ≤ i ∧ Srt ts ∧ ∀ t ∈ ts, t ∈ rs)
      ⟨none, none, none, [], rfl, Same.new no, upd_same, (fun _ m => nomatch m), Nat.le_refl _, .nil, fun _ m => nomatch m⟩ (fun i σ H4 _ hP => ?_) (fun i y σ H4 hy hP => ?_) (fun σ H4 hP => ?_)⟩
    · obtain ⟨_, _, _, _, _, s4, _⟩ := hP
      exact s4.seq ha
    · obtain ⟨y2, y3, y4, ts, rfl, s4, eo, rt, lt, srt, sub⟩ := hP
      obtain ⟨t, et, rfl⟩ := rrefs_get hy
      have mt := List.mem_of_getElem? et
      have il : i < rs.length := (List.getElem?_eq_some_iff.mp et).1
      obtain ⟨ht, st, l10⟩ := (ro.same s4) t mt
      refine ⟨_, rfl, o, rfl, ⟨_, SqL.of eo⟩, for_list (K := K) (a := o) (xs := rrefs ts) (fun j σ H5 => ∃ (n : Nat) (y4 : Option V), σ = [some (.ref a), some (.ref o), some (.ref t.1), some (.int (n : Int)), y4] ∧ n = (ts.take j).countP (fun u => decide (orderV u.2 t.2 < 0)) ∧ H5 = H4)
        ⟨0, y4, rfl, rfl, rfl⟩ (fun j σ H5 _ hP => ?_) (fun j y σ H5 hy hP => ?_) (fun σ H5 hP => ?_)⟩
      · obtain ⟨_, _, _, _, rfl⟩ := hP
        exact SqL.of eo
      · obtain ⟨n, y4, rfl, ln, rfl⟩ := hP
        obtain ⟨u, eu, rfl⟩ := rrefs_get hy
        obtain ⟨hu, su, lu⟩ := rt u (List.mem_of_getElem? eu)
        refine ⟨_, rfl, _, rfl, _, rfl, u.1, t.1, u.2, t.2, rfl, hu, ht, by omega, su, st, _, _, rfl, rfl, .inr ⟨_, rfl, _, _, rfl, rfl, ?_⟩⟩
        by_cases e : orderV u.2 t.2 < 0
        · exact ⟨n + 1, some (V.ref u.1), by rw [if_pos (decide_eq_true e)]; rfl, by rw [take_snoc' eu, List.countP_append, List.countP_cons, List.countP_nil, if_pos (decide_eq_true e), ln], rfl⟩
        · exact ⟨n, some (V.ref u.1), by rw [if_neg (fun z => e (of_decide_eq_true z))]; simp, by rw [take_snoc' eu, List.countP_append, List.countP_cons, List.countP_nil, if_neg (fun z => e (of_decide_eq_true z)), ln]; rfl, rfl⟩
      · obtain ⟨n, y4, rfl, ln, rfl⟩ := hP
        rw [rrefs_len, List.take_length] at ln
        have pl := count_place ⟨srt, fun u m => (rt u m).2.1⟩ st
        rw [← ln] at pl
        have lnt : n ≤ ts.length := by rw [ln]; exact List.countP_le_length
        have shl : SeqAt.shaped (.list (ts.map fun t => rowD t.2)) = true := rws_shaped fun u m => (rt u m).2.1
        refine ⟨_, rfl, _, rfl, rowD t.2, ts.map (fun (t : Addr × List V) => rowD t.2), .tup ht (sc_dp st), .lst (SqL.of eo) (rws_dp rt), row_shaped st, shl, _, rfl, ?_⟩
        refine ite2 (fun e => ?_) (fun e => ?_)
        · refine ⟨_, rfl, .inl ⟨rfl, _, .inl (.inl eo)⟩, _, rfl, _, rfl, o, rrefs ts, (n : Int), .ref t.1, rfl, rfl, eo, ?_, by omega, by omega, ?_⟩
          · rw [rrefs_len]
            exact small (m := 1000) (by omega) (by decide)
          · have er : (rrefs ts).take (n : Int).toNat ++ [V.ref t.1] ++ (rrefs ts).drop (n : Int).toNat = rrefs (ts.take n ++ [t] ++ ts.drop n) := by
              unfold rrefs
              rw [List.map_append, List.map_append, List.map_take, List.map_drop]
              rfl
            rw [er]
            have tk := Tk.put (K := K) (o := .lst (rrefs (ts.take n ++ [t] ++ ts.drop n))) eo
            have nk : ∀ t', ts[n]? = some t' → t'.2 ≠ t.2 := fun t' e' z => by
              have ma : (ts.map fun (t : Addr × List V) => rowD t.2).any (fun z => PyData.eqv z (rowD t.2)) = true := by
                rw [List.any_eq_true]
                refine ⟨_, List.mem_map.mpr ⟨t', List.mem_of_getElem? e', rfl⟩, ?_⟩
                rw [z, eqv_row st st]
                exact decide_eq_true rfl
              rw [ma] at e
              cases e
            have ps := place_srt (r := t.1) ⟨srt, fun u m => (rt u m).2.1⟩ st lnt pl nk
            refine ⟨_, _, _, ts.take n ++ [t] ++ ts.drop n, rfl, Same.over s4 no, upd_same, fun u m => ?_, ?_, ps.1, fun u m => ?_⟩
            · rcases List.mem_append.mp m with m | m
              · rcases List.mem_append.mp m with m | m
                · exact rt.tk tk u (List.mem_of_mem_take m)
                · rw [List.mem_singleton.mp m]
                  exact ⟨tk _ _ ht, st, l10⟩
              · exact rt.tk tk u (List.mem_of_mem_drop m)
            · rw [List.length_append, List.length_append, List.length_take, List.length_drop]
              show min n ts.length + 1 + (ts.length - n) ≤ i + 1
              omega
            · rcases mem_cut.mp m with e | m
              · rw [e]; exact mt
              · exact sub u m
        · exact ⟨_, _, _, ts, rfl, s4, eo, rt, by omega, srt, sub⟩
    · obtain ⟨y2, y3, y4, ts, rfl, s4, eo, rt, lt, srt, sub⟩ := hP
      rw [rrefs_len] at lt
      exact ⟨_, rfl, q ts o _ s4 no eo rt lt ⟨srt, fun u m => (rt u m).2.1⟩ sub⟩
end
end K1
namespace K1
open PySem PySem.Spec PyProof.Rows L2 Ow Tlz
def RelC (R : Tb) : Prop := ∀ e ∈ R, ∃ c r, e.2.2 = [c, .int r]
def StrC (S : Tb) : Prop := ∀ e ∈ S, ∃ u v b s, e.2.2 = [u, v, .int b, .int s] ∧ 0 ≤ b ∧ b ≤ 1000
def CN (cols : List V) : Prop := 0 < cols.length ∧ cols.length ≤ 10
/-- the three tables of a shelf -/
structure ShAt (K : PySem.W.Frag) (H : Hp) (dr df ds : Addr) (R : Tb) (F : Fb) (S : Tb) : Prop where
  r : H dr = some (.dK (kvR R))
  rt : ∀ e ∈ R, SqT K H e.2.1 e.2.2
  rc : ∀ e ∈ R, ∃ c cols r, e.2.2 = [.ref c, .int r] ∧ SqT K H c cols ∧ CN cols
  f : H df = some (.dK (kvF F))
  ft : ∀ e ∈ F, H e.2.1 = some (.lst (rrefs e.2.2)) ∧ RowsOk K H e.2.2 ∧ e.2.2.length ≤ 40
  s : H ds = some (.dK (kvR S))
  st : ∀ e ∈ S, SqT K H e.2.1 e.2.2
  sc : StrC S
  rn : (R.map (·.1)).Nodup
  fn : (F.map (·.1)).Nodup
  sn : (S.map (·.1)).Nodup
  ne : dr ≠ df ∧ dr ≠ ds ∧ df ≠ ds
def colsV (w : Nat) : List V := [V.str "x", .str "y", .str "z", .str "w"].take w
theorem colsV_len {w : Nat} (h : w ≤ 4) : (colsV w).length = w := by
  unfold colsV
  rw [List.length_take]
  show min w 4 = w
  omega
theorem colsV_strs (w : Nat) : ∀ x ∈ colsV w, ∃ z, x = V.str z ∧ Pr z := fun x m => by
  have m2 := List.mem_of_mem_take m
  simp only [List.mem_cons, List.not_mem_nil, or_false] at m2
  rcases m2 with rfl | rfl | rfl | rfl <;> exact ⟨_, rfl, by decide +kernel⟩
/-- what the tables of a shelf have -/
structure ShX (K : PySem.W.Frag) (H : Hp) (R : Tb) (F : Fb) (S : Tb) : Prop where
  rc : ∀ n q c, valG R n = some (q, c) → ∃ (cc : Addr) (w : Nat) (r : Int), c = [.ref cc, .int r] ∧ FT H cc (colsV w) ∧ 1 ≤ w ∧ w ≤ 4 ∧ 1 ≤ r ∧ r ≤ 40
  fw : ∀ n q rs, valG F n = some (q, rs) → SrtS rs ∧ rs.length ≤ 30 ∧ ∃ (q' cc : Addr) (w : Nat) (r : Int), valG R n = some (q', [.ref cc, .int r]) ∧ FT H cc (colsV w) ∧ w ≤ 4 ∧ ∀ t ∈ rs, t.2.length = w
  sc : ∀ n q c, valG S n = some (q, c) → ∃ (rn : Str) (cc : Addr) (cs : List V) (b s : Int) (q' cr : Addr) (w : Nat) (r : Int), c = [.str rn, .ref cc, .int b, .int s] ∧ SqT K H cc cs ∧ cs ≠ [] ∧ cs.length ≤ 4 ∧ (∀ x ∈ cs, x ∈ colsV w) ∧
    valG R rn = some (q', [.ref cr, .int r]) ∧ FT H cr (colsV w) ∧ w ≤ 4 ∧ 1 ≤ b ∧ b ≤ 16 ∧ 1 ≤ s ∧ s ≤ 8
theorem ShX.tk {K : PySem.W.Frag} {H H' : Hp} {R S : Tb} {F : Fb} (t : Tk K H H') (h : ShX K H R F S) : ShX K H' R F S := by
  refine ⟨fun n q c e => ?_, fun n q rs e => ?_, fun n q c e => ?_⟩
  · obtain ⟨cc, w, r, h1, h2, h3⟩ := h.rc n q c e
    exact ⟨cc, w, r, h1, t.x _ _ h2, h3⟩
  · obtain ⟨h1, h2, q', cc, w, r, h3, h4, h5⟩ := h.fw n q rs e
    exact ⟨h1, h2, q', cc, w, r, h3, t.x _ _ h4, h5⟩
  · obtain ⟨rn, cc, cs, b, s, q', cr, w, r, h1, h2, h3, h4, h5, h6, h7, h8⟩ := h.sc n q c e
    exact ⟨rn, cc, cs, b, s, q', cr, w, r, h1, t _ _ h2, h3, h4, h5, h6, t.x _ _ h7, h8⟩
theorem ShX.rel {K : PySem.W.Frag} {H : Hp} {R S : Tb} {F : Fb} {n : Str} {q cc : Addr} {w : Nat} {r : Int} (h : ShX K H R F S) (hn : valG R n = none) (hc : FT H cc (colsV w)) (w1 : 1 ≤ w) (w4 : w ≤ 4) (r1 : 1 ≤ r) (r40 : r ≤ 40) : ShX K H (putG R n (q, [.ref cc, .int r])) F S := by
  have keep : ∀ {m : Str} {b : Addr × List V}, valG R m = some b → valG (putG R n (q, [.ref cc, .int r])) m = some b := fun {m b} e => by
    rw [valG_put, if_neg (fun z => by rw [z, hn] at e; cases e)]
    exact e
  refine ⟨fun m q' c e => ?_, fun m q' rs e => ?_, fun m q' c e => ?_⟩
  · rw [valG_put] at e
    split at e
    · cases e
      exact ⟨cc, w, r, rfl, hc, w1, w4, r1, r40⟩
    · exact h.rc m q' c e
  · obtain ⟨h1, h2, q', cc, w, r, h3, h4, h5⟩ := h.fw m q' rs e
    exact ⟨h1, h2, q', cc, w, r, keep h3, h4, h5⟩
  · obtain ⟨rn, cc, cs, b, s, q', cr, w, r, h1, h2, h3, h4, h5, h6, h7, h8⟩ := h.sc m q' c e
    exact ⟨rn, cc, cs, b, s, q', cr, w, r, h1, h2, h3, h4, h5, keep h6, h7, h8⟩
theorem ShX.fac {K : PySem.W.Frag} {H : Hp} {R S : Tb} {F : Fb} {n : Str} {q q' cc : Addr} {w : Nat} {r : Int} {rs : List (Addr × List V)} (h : ShX K H R F S) (hn : valG R n = some (q', [.ref cc, .int r])) (hc : FT H cc (colsV w)) (w4 : w ≤ 4) (so : SrtS rs) (l : rs.length ≤ 30) (hw : ∀ t ∈ rs, t.2.length = w) :
    ShX K H R (putG F n (q, rs)) S := by
  refine ⟨h.rc, fun m q2 rs2 e => ?_, h.sc⟩
  rw [valG_put] at e
  split at e
  · rename_i z
    cases e
    rw [z]
    exact ⟨so, l, q', cc, w, r, hn, hc, w4, hw⟩
  · exact h.fw m q2 rs2 e
theorem ShX.stru {K : PySem.W.Frag} {H : Hp} {R S : Tb} {F : Fb} {n rn : Str} {q cc q' cr : Addr} {cs : List V} {b s : Int} {w : Nat} {r : Int} (h : ShX K H R F S) (h2 : SqT K H cc cs) (h3 : cs ≠ []) (h4 : cs.length ≤ 4) (h5 : ∀ x ∈ cs, x ∈ colsV w)
    (h6 : valG R rn = some (q', [.ref cr, .int r])) (h7 : FT H cr (colsV w)) (w4 : w ≤ 4) (b1 : 1 ≤ b) (b2 : b ≤ 16) (s1 : 1 ≤ s) (s2 : s ≤ 8) : ShX K H R F (putG S n (q, [.str rn, .ref cc, .int b, .int s])) := by
  refine ⟨h.rc, h.fw, fun m q2 c e => ?_⟩
  rw [valG_put] at e
  split at e
  · cases e
    exact ⟨rn, cc, cs, b, s, q', cr, w, r, rfl, h2, h3, h4, h5, h6, h7, w4, b1, b2, s1, s2⟩
  · exact h.sc m q2 c e
theorem rrefs_rng {rs : List (Addr × List V)} {d : Addr} {k : Int} (h : rrefs rs = [.ref d, .int k]) : False := by
  unfold rrefs at h
  match rs, h with
  | [_, b], h =>
    rw [List.map_cons, List.map_cons] at h
    injection h with _ h
    injection h with h _
    cases h
section
variable {K : PySem.W.Frag} {H H' : Hp} {dr df ds p d : Addr} {R S : Tb} {F : Fb}
theorem ShAt.same (h : ShAt K H dr df ds R F S) (s : Same H H') : ShAt K H' dr df ds R F S := by
  obtain ⟨r, rt, rc, f, ft, s', st, sc, rn, fn, sn, ne⟩ := h
  exact ⟨s _ _ r, fun e m => Tk.same s _ _ (rt e m), fun e m => let ⟨c, cols, r, h1, h2, h3⟩ := rc e m; ⟨c, cols, r, h1, Tk.same s _ _ h2, h3⟩, s _ _ f, fun e m => ⟨s _ _ (ft e m).1, (ft e m).2.1.same s, (ft e m).2.2⟩,
    s _ _ s', fun e m => Tk.same s _ _ (st e m), sc, rn, fn, sn, ne⟩
theorem ShAt.gw (h : ShAt K H dr df ds R F S) (rg : Rng d H p) (g : Gw p H H') : ShAt K H' dr df ds R F S := by
  obtain ⟨r, rt, rc, f, ft, s', st, sc, rn, fn, sn, ne⟩ := h
  have tk := Rng.tk (K := K) rg g
  obtain ⟨ns, k, hp, _, _⟩ := rg
  have no : ∀ (a : Addr) (kvs : List (Key × V)), H a = some (.dK kvs) → a ≠ p := fun a kvs e w => by rw [w, hp] at e; cases e
  refine ⟨g _ _ (no _ _ r) r, fun e m => tk _ _ (rt e m), fun e m => let ⟨c, cols, r, h1, h2, h3⟩ := rc e m; ⟨c, cols, r, h1, tk _ _ h2, h3⟩, g _ _ (no _ _ f) f, fun e m => ⟨g _ _ (fun w => ?_) (ft e m).1, (ft e m).2.1.tk tk, (ft e m).2.2⟩,
    g _ _ (no _ _ s') s', fun e m => tk _ _ (st e m), sc, rn, fn, sn, ne⟩
  have h1 := (ft e m).1
  rw [w, hp] at h1
  injection h1 with h1
  injection h1 with h1
  exact rrefs_rng h1.symm
theorem ShAt.rel {n : Str} {q c : Addr} {cols : List V} {r : Int} (h : ShAt K H dr df ds R F S) (hq : SqT K H q [.ref c, .int r]) (hc : SqT K H c cols) (hn : CN cols) :
    ShAt K (upd H dr (.dK (putK (kvR R) (Sum.inr n) (.ref q)))) dr df ds (putG R n (q, [.ref c, .int r])) F S := by
  obtain ⟨r', rt, rc, f, ft, s', st, sc, rn, fn, sn, ne⟩ := h
  have tk : Tk K H (upd H dr (.dK (putK (kvR R) (Sum.inr n) (.ref q)))) := Tk.dK r'
  refine ⟨?_, fun e m => ?_, fun e m => ?_, by rw [upd_ne ne.1.symm]; exact f, fun e m => ⟨?_, (ft e m).2.1.tk tk, (ft e m).2.2⟩, by rw [upd_ne ne.2.1.symm]; exact s', fun e m => tk _ _ (st e m), sc, putG_nodup rn, fn, sn, ne⟩
  · rw [upd_same]
    exact congrArg (fun t => some (HO.dK t)) (kvG_put (fun b : Addr × List V => V.ref b.1) R n (q, [.ref c, .int r]))
  · rcases putG_mem m with w | ⟨w, _⟩
    · rw [w]; exact tk _ _ hq
    · exact tk _ _ (rt e w)
  · rcases putG_mem m with w | ⟨w, _⟩
    · rw [w]; exact ⟨c, cols, r, rfl, tk _ _ hc, hn⟩
    · obtain ⟨c, cols, r, h1, h2, h3⟩ := rc e w
      exact ⟨c, cols, r, h1, tk _ _ h2, h3⟩
  · rw [upd_ne (fun w => by have := (ft e m).1; rw [w, r'] at this; cases this)]
    exact (ft e m).1
theorem ShAt.fac {n : Str} {q : Addr} {rs : List (Addr × List V)} (h : ShAt K H dr df ds R F S) (hq : H q = some (.lst (rrefs rs))) (ro : RowsOk K H rs) (lr : rs.length ≤ 40) :
    ShAt K (upd H df (.dK (putK (kvF F) (Sum.inr n) (.ref q)))) dr df ds R (putG F n (q, rs)) S := by
  obtain ⟨r', rt, rc, f, ft, s', st, sc, rn, fn, sn, ne⟩ := h
  have tk : Tk K H (upd H df (.dK (putK (kvF F) (Sum.inr n) (.ref q)))) := Tk.dK f
  refine ⟨by rw [upd_ne ne.1]; exact r', fun e m => tk _ _ (rt e m), fun e m => let ⟨c, cols, r, h1, h2, h3⟩ := rc e m; ⟨c, cols, r, h1, tk _ _ h2, h3⟩, ?_, fun e m => ?_, by rw [upd_ne ne.2.2.symm]; exact s', fun e m => tk _ _ (st e m), sc, rn, putG_nodup fn, sn, ne⟩
  · rw [upd_same]
    exact congrArg (fun t => some (HO.dK t)) (kvG_put (fun b : Addr × List (Addr × List V) => V.ref b.1) F n (q, rs))
  · rcases putG_mem m with w | ⟨w, _⟩
    · rw [w]
      exact ⟨by rw [upd_ne (show q ≠ df from fun w => by rw [w, f] at hq; cases hq)]; exact hq, ro.tk tk, lr⟩
    · refine ⟨?_, (ft e w).2.1.tk tk, (ft e w).2.2⟩
      rw [upd_ne (fun z => by have := (ft e w).1; rw [z, f] at this; cases this)]
      exact (ft e w).1
theorem ShAt.stru {n : Str} {q : Addr} {u v : V} {b s : Int} (h : ShAt K H dr df ds R F S) (hq : SqT K H q [u, v, .int b, .int s]) (b0 : 0 ≤ b) (b1 : b ≤ 1000) :
    ShAt K (upd H ds (.dK (putK (kvR S) (Sum.inr n) (.ref q)))) dr df ds R F (putG S n (q, [u, v, .int b, .int s])) := by
  obtain ⟨r', rt, rc, f, ft, s', st, sc, rn, fn, sn, ne⟩ := h
  have tk : Tk K H (upd H ds (.dK (putK (kvR S) (Sum.inr n) (.ref q)))) := Tk.dK s'
  refine ⟨by rw [upd_ne ne.2.1]; exact r', fun e m => tk _ _ (rt e m), fun e m => let ⟨c, cols, r, h1, h2, h3⟩ := rc e m; ⟨c, cols, r, h1, tk _ _ h2, h3⟩, by rw [upd_ne ne.2.2]; exact f, fun e m => ⟨?_, (ft e m).2.1.tk tk, (ft e m).2.2⟩, ?_, fun e m => ?_, fun e m => ?_, rn, fn, putG_nodup sn, ne⟩
  · rw [upd_ne (fun w => by have := (ft e m).1; rw [w, s'] at this; cases this)]
    exact (ft e m).1
  · rw [upd_same]
    exact congrArg (fun t => some (HO.dK t)) (kvG_put (fun b : Addr × List V => V.ref b.1) S n (q, [u, v, .int b, .int s]))
  · rcases putG_mem m with w | ⟨w, _⟩
    · rw [w]; exact tk _ _ hq
    · exact tk _ _ (st e w)
  · rcases putG_mem m with w | ⟨w, _⟩
    · rw [w]; exact ⟨u, v, b, s, rfl, b0, b1⟩
    · exact sc e w
end
theorem cutV_all {xs : List V} {lo hi : Option Int} (h : HT.sIx xs.length 0 lo = 0 ∧ HT.sIx xs.length xs.length hi = xs.length) : cutV xs lo hi = xs := by
  unfold cutV
  rw [h.1, h.2, List.drop_zero, Nat.sub_zero, List.take_length]
def spShelf (K : PySem.W.Frag) : Sp := fun vs H Q _ => ∃ (p d : Addr) (m : Nat), vs = [.ref p, .int (m : Int)] ∧ m ≤ 30 ∧ Rng d H p ∧
  Drw p d H Q fun x H' => ∃ (ls dr df ds : Addr) (R S : Tb) (F : Fb), x = .ref ls ∧ H' ls = some (.lst [.ref dr, .ref df, .ref ds]) ∧ ShAt K H' dr df ds R F S ∧ R.length ≤ 3 ∧ F.length ≤ 3 ∧ S.length ≤ 3 ∧ ShX K H' R F S ∧ F.map (·.1) = R.map (·.1) ∧ (∀ n ∈ R.map (·.1), Pr n) ∧ ∀ n ∈ S.map (·.1), Pr n
abbrev s_law_shelf : Stmt := topS 48
abbrev N_law_shelf : List Str := ["state", "most", "relations", "facts", "structures", "name", "width", "count", "relation", "columns", "column", "j", "k"]
theorem sc_law_shelf : FnScope N_law_shelf ["state", "most"] (defScope s_law_shelf) := ⟨rfl, rfl, rfl, by decide +kernel, rfl, by decide +kernel, by decide +kernel⟩
abbrev scJ : Scope := { kind := .function, names := [(".0", .local), ("j", .local), ("tuple", .globalImplicit), ("range", .globalImplicit), ("state", .cell), ("width", .cell)], isGenerator := false, isCoroutine := false, more := [] }
def K3 : List Str := ["r", "s", "t2"]
theorem K3_nd : K3.Nodup := by decide +kernel
theorem nd_take {xs : List Str} (nd : xs.Nodup) {i : Nat} {n : Str} (h : xs[i]? = some n) : n ∉ xs.take i := by
  intro m
  obtain ⟨j, hj, ej⟩ := List.mem_iff_getElem.mp m
  rw [List.length_take] at hj
  obtain ⟨hi, ei⟩ := List.getElem?_eq_some_iff.mp h
  rw [List.getElem_take] at ej
  exact (List.pairwise_iff_getElem.mp nd) j i (by omega) hi (by omega) (by rw [ej, ei])
theorem valG_not {β : Type} {l : List (Str × β)} {n : Str} (h : n ∉ l.map (·.1)) : valG l n = none := by
  cases e : valG l n with
  | none => rfl
  | some b => exact absurd (List.mem_map.mpr ⟨_, valG_mem e, rfl⟩) h
theorem putG_take {β : Type} {l : List (Str × β)} {xs : List Str} {i : Nat} {n : Str} {b : β} (nd : xs.Nodup) (e : l.map (·.1) = xs.take i) (h : xs[i]? = some n) : (putG l n b).map (·.1) = xs.take (i + 1) := by
  have hn : valG l n = none := valG_not (by rw [e]; exact nd_take nd h)
  rw [putG_new b hn, List.map_append, e, List.take_add_one, h]
  rfl
section
variable {P : Program} {w : World} {K : PySem.W.Frag} {mg : Str → Option Value} {base : Heap} {C : Addr}
theorem ok_shelf {f : Addr} {fd : FuncData} (F0 : Fun K "_law_shelf" "_law_shelf" s_law_shelf f fd) (T : Bl mg)
    (D_law_next : Kn P w K mg base 3 "_law_next" ["state", "limit"] spNext)
    (D_law_small : Kn P w K mg base 6 "_law_small" ["state"] spValue)
    (D_law_sorted : Kn P w K mg base 3 "_law_sorted" ["rows"] (spSorted K)) :
    FnOk P w K mg base CX0 7 f fd ["state", "most"] (spShelf K) := by
  refine F0.ok sc_law_shelf (fun vs H Q E h => ?_) (fun cdv A outer s H vs Q E hr h => ?_)
  · obtain ⟨p, d, m, rfl, _⟩ := h
    rfl
  · obtain ⟨p, d, m, rfl, lm, rg, q⟩ := h
    have hu := hu_of hr
    refine ⟨_, (pss_cons (ps_set (i := 2) sc_law_shelf.nd rfl (.inl rfl) pe_dnewK)
      (pss_cons (ps_set (i := 3) sc_law_shelf.nd rfl (.inl rfl) pe_dnewK)
      (pss_cons (ps_set (i := 4) sc_law_shelf.nd rfl (.inl rfl) pe_dnewK)
      (pss_mid (ps_for PassesOwn.never rfl (pi_list (pe_slice sl_list (pe_lst (pa_cons pe_str (pa_cons pe_str (pa_cons pe_str pa_nil)))) po_none (po_some (pe_kn D_law_next hr (pa_cons (pv 0) (pa_cons pe_int pa_nil)))))) (pg_name (i := 5) sc_law_shelf.nd rfl (.inl rfl)) (pss_cons (ps_set (i := 6) sc_law_shelf.nd rfl (.inr rfl) (pe_op op_add pe_int (pe_kn D_law_next hr (pa_cons (pv 0) (pa_cons pe_int pa_nil)))))
      (pss_cons (ps_dput hu (pv 2) (pv 5) (pe_tup (pa_cons (pe_slice sl_tupF (pe_tupF (pa_cons pe_str (pa_cons pe_str (pa_cons pe_str (pa_cons pe_str pa_nil))))) po_none (po_some (pv 6))) (pa_cons (pe_ix ix_list (pe_lst (pa_cons pe_int (pa_cons pe_int (pa_cons (pe_op op_add pe_int (pe_kn D_law_next hr (pa_cons (pv 0) (pa_cons pe_int pa_nil)))) pa_nil)))) (pe_kn D_law_next hr (pa_cons (pv 0) (pa_cons pe_int pa_nil))) (fun _ _ => rfl)) pa_nil))) rfl)
      (pss_cons (ps_set (i := 7) sc_law_shelf.nd rfl (.inl rfl) (pe_kn D_law_next hr (pa_cons (pv 0) (pa_cons (pe_op op_add (pv 1) pe_int) pa_nil))))
      (pss_one (ps_dput hu (pv 3) (pv 5) (pe_kn D_law_sorted hr (pa_cons (pe_lc (own := [("j", 11)]) (g := gName 11) rfl sc_law_shelf.nd (pi_range1 (by rfl) T.range (pa_cons (pv 7) pa_nil)) (blkOk_by (own := [("j", 11)]) (N := N_law_shelf) (sc := defScope s_law_shelf) (by decide +kernel)) (fun _ _ _ _ _ => pg_name (i := 11) sc_law_shelf.nd rfl (Or.inl rfl)) (fun _ _ _ _ _ => pts_nil) (fun _ _ _ _ _ => (pe_callTy (call_tuple_K (K := K) rfl) (by rfl) T.tuple (by decide +kernel) (pa_cons (pe_lc (own := [("k", 12)]) (g := gName 12) rfl sc_law_shelf.nd (pi_range1 (by rfl) T.range (pa_cons (pv 6) pa_nil)) (blkOk_by (own := [("k", 12)]) (N := N_law_shelf) (sc := scJ) (by decide +kernel)) (fun _ _ _ _ _ => pg_name (i := 12) sc_law_shelf.nd rfl (Or.inl rfl)) (fun _ _ _ _ _ => pts_nil) (fun _ _ _ _ _ => (pe_kn D_law_small hr (pa_cons (pv 0) pa_nil)))) pa_nil)))) pa_nil)) rfl))))))
      (pss_cons (ps_for PassesOwn.never rfl (pi_list (pe_slice sl_list (pe_lst (pa_cons pe_str (pa_cons pe_str (pa_cons pe_str pa_nil)))) po_none (po_some (pe_op op_mul (pe_kn D_law_next hr (pa_cons (pv 0) (pa_cons pe_int pa_nil))) (pe_callTy call_int1 (by rfl) T.int (by decide +kernel) (pa_cons (pe_cmpR op_gt (pe_callB call_lenD (by rfl) T.len PySem.boot_len (pa_cons (pv 2) pa_nil)) pe_int (nomark _)) pa_nil)))))) (pg_name (i := 5) sc_law_shelf.nd rfl (.inl rfl)) (pss_cons (ps_set (i := 8) sc_law_shelf.nd rfl (.inl rfl) (pe_ix ix_list (pe_lst (pa_cons pe_str (pa_cons pe_str (pa_cons pe_str pa_nil)))) (pe_kn D_law_next hr (pa_cons (pv 0) (pa_cons (pe_callB call_lenD (by rfl) T.len PySem.boot_len (pa_cons (pv 2) pa_nil)) pa_nil))) (fun _ _ => rfl)))
      (pss_cons (ps_set (i := 9) sc_law_shelf.nd rfl (.inl rfl) (pe_lst pa_nil))
      (pss_cons (ps_for PassesOwn.never rfl (pi_tup (pe_ix ix_tup (pe_dget hu (pv 2) (pv 8) (fun _ _ => rfl)) pe_int (fun _ _ => rfl))) (pg_name (i := 10) sc_law_shelf.nd rfl (.inl rfl)) (pss_one (ps_if (pt_cmpR op_eq (pe_kn D_law_next hr (pa_cons (pv 0) (pa_cons pe_int pa_nil))) pe_int (nomark _)) (pss_one (ps_expr (pe_bm PySem.F.plainAttrs_list PySem.F.slot_list_insert PySem.F.type_list_insert mt_insert (pv 9) (pa_cons (pe_kn D_law_next hr (pa_cons (pv 0) (pa_cons (pe_op op_add (pe_callB call_len_seq (by rfl) T.len PySem.boot_len (pa_cons (pv 9) pa_nil)) pe_int) pa_nil))) (pa_cons (pv 10) pa_nil))))) pss_nil)))
      (pss_mid (ps_if (pt_cmpR op_eq (pe_callB call_len_seq (by rfl) T.len PySem.boot_len (pa_cons (pv 9) pa_nil)) pe_int (nomark _)) (pss_one (ps_set (i := 9) sc_law_shelf.nd rfl (.inl rfl) (pe_lst (pa_cons (pe_ix ix_tup (pe_ix ix_tup (pe_dget hu (pv 2) (pv 8) (fun _ _ => rfl)) pe_int (fun _ _ => rfl)) pe_int (fun _ _ => rfl)) pa_nil)))) pss_nil)
      (pss_one (ps_dput hu (pv 4) (pv 5) (pe_tup (pa_cons (pv 8) (pa_cons (pe_callTy call_tuple_of (by rfl) T.tuple (by decide +kernel) (pa_cons (pv 9) pa_nil)) (pa_cons (pe_op op_add pe_int (pe_kn D_law_next hr (pa_cons (pv 0) (pa_cons (pe_ix ix_list (pe_lst (pa_cons pe_int (pa_cons pe_int pa_nil))) (pe_kn D_law_next hr (pa_cons (pv 0) (pa_cons pe_int pa_nil))) (fun _ _ => rfl)) pa_nil)))) (pa_cons (pe_op op_add pe_int (pe_kn D_law_next hr (pa_cons (pv 0) (pa_cons pe_int pa_nil)))) pa_nil))))) rfl)))))))
      (pss_one (ps_ret (pe_lst (pa_cons (pv 2) (pa_cons (pv 3) (pa_cons (pv 4) pa_nil))))))))))), ?_⟩
    refine fun dr nr => ?_
    have s1 := Same.new (o := .dK []) nr
    have r1 := upd_same (H := H) (a := dr) (o := .dK [])
    generalize (upd H dr (.dK [])) = H1 at *
    refine fun df nf => ?_
    have s2 := Same.new (o := .dK []) nf
    have f2 := upd_same (H := H1) (a := df) (o := .dK [])
    have nrf : dr ≠ df := ne_of_none r1 nf
    have nfH : H df = none := s1.free nf
    generalize (upd H1 df (.dK [])) = H2 at *
    refine fun ds ns => ?_
    have s3 := Same.new (o := .dK []) ns
    have e3 := upd_same (H := H2) (a := ds) (o := .dK [])
    have nrs : dr ≠ ds := ne_of_none (s2 _ _ r1) ns
    have nfs : df ≠ ds := ne_of_none f2 ns
    have nsH : H ds = none := s1.free (s2.free ns)
    generalize (upd H2 ds (.dK [])) = H3 at *
    have s03 := (s1.trans s2).trans s3
    have sh3 : ShAt K H3 dr df ds [] [] [] := ⟨s3 _ _ (s2 _ _ r1), (fun _ m => nomatch m), (fun _ m => nomatch m), s3 _ _ f2, (fun _ m => nomatch m), e3, (fun _ m => nomatch m), (fun _ m => nomatch m), .nil, .nil, .nil, ⟨nrf, nrs, nfs⟩⟩
    have rg3 := rg.same s03
    have gw3 : Gw p H H3 := Gw.same s03
    clear s1 s2 s3 r1 f2 e3
    -- the relations
    refine ⟨fun σ H' => ∃ (n : Nat) (y5 y6 y7 : Option V) (R : Tb) (F : Fb), σ = [some (.ref p), some (.int (m : Int)), some (.ref dr), some (.ref df), some (.ref ds), y5, y6, y7, none, none, none, none, none] ∧
        ShAt K H' dr df ds R F [] ∧ R.map (·.1) = K3.take n ∧ n ≤ 3 ∧ F.length ≤ 3 ∧ Rng d H' p ∧ Gw p H H' ∧ ShX K H' R F [] ∧ F.map (·.1) = R.map (·.1), ?_, ?_⟩
    · refine ⟨sz 3, fun l0 nl0 => ⟨_, rfl, p, d, 4, rfl, by decide, rg3.same (Same.new nl0), ?_⟩⟩
      rintro x4 H4 ⟨v, rfl, v0, v1⟩ gw4 rg4
      have l0p := (rg3.free nl0).1
      have sh4 := (sh3.same (Same.new (o := .lst [V.str "r", .str "s", .str "t2"]) nl0)).gw (rg3.same (Same.new nl0)) gw4
      have gw04 : Gw p H H4 := (gw3.trans (Gw.new nl0)).trans gw4
      refine ⟨v, rfl, l0, _, rfl, SqL.of (gw4.keep upd_same l0p), fun lp nlp => ?_⟩
      have el : cutV [V.str "r", .str "s", .str "t2"] none (some v) = (K3.take v.toNat).map V.str := by
        rw [cut_take _ v0, List.map_take]
        rfl
      rw [el]
      have s5 := Same.new (o := .lst ((K3.take v.toNat).map V.str)) nlp
      have e5 := upd_same (H := H4) (a := lp) (o := .lst ((K3.take v.toNat).map V.str))
      have lpp := (rg4.free nlp).1
      have rg5 := rg4.same s5
      have sh5 := sh4.same s5
      have gw5 : Gw p H (upd H4 lp (.lst ((K3.take v.toNat).map V.str))) := gw04.trans (Gw.same s5)
      generalize (upd H4 lp (.lst ((K3.take v.toNat).map V.str))) = H5 at *
      have ltk : (K3.take v.toNat).length = v.toNat := by
        rw [List.length_take]
        show min v.toNat 3 = _
        omega
      refine ⟨lp, rfl, ⟨_, SqL.of e5⟩, for_list (K := K) (a := lp) (xs := (K3.take v.toNat).map V.str) (fun i σ H6 => ∃ (y5 y6 y7 : Option V) (R : Tb) (F : Fb), σ = [some (.ref p), some (.int (m : Int)), some (.ref dr), some (.ref df), some (.ref ds), y5, y6, y7, none, none, none, none, none] ∧
          ShAt K H6 dr df ds R F [] ∧ R.map (·.1) = K3.take i ∧ F.length ≤ i ∧ Rng d H6 p ∧ Gw p H H6 ∧ H6 lp = some (.lst ((K3.take v.toNat).map V.str)) ∧ ShX K H6 R F [] ∧ F.map (·.1) = K3.take i)
        ⟨none, none, none, [], [], rfl, sh5, rfl, Nat.le_refl _, rg5, gw5, e5, ⟨(fun n q c e => by cases e), (fun n q rs e => by cases e), fun n q c e => by cases e⟩, rfl⟩ (fun i σ H6 _ hP => ?_) (fun i y σ H6 hy hP => ?_) (fun σ H6 hP => ?_)⟩
      · obtain ⟨_, _, _, _, _, _, _, _, _, _, _, h, _⟩ := hP
        exact SqL.of h
      · obtain ⟨y5, y6, y7, R, F, rfl, sh6, eR, lF, rg6, gw6, el6, sx6, eF⟩ := hP
        obtain ⟨n, en, rfl⟩ : ∃ n, K3[i]? = some n ∧ y = V.str n := by
          rw [List.getElem?_map] at hy
          cases z : (K3.take v.toNat)[i]? with
          | none => rw [z] at hy; cases hy
          | some n =>
            rw [z] at hy
            rw [List.getElem?_take] at z
            split at z
            · exact ⟨n, z, (Option.some.inj hy).symm⟩
            · cases z
        have il : i < 3 := (List.getElem?_eq_some_iff.mp en).1
        -- width
        refine ⟨_, rfl, p, d, 4, rfl, by decide, rg6, ?_⟩
        rintro x7 H7 ⟨w7, rfl, w70, w71⟩ gw7 rg7
        have sh7 := sh6.gw rg6 gw7
        have el7 := gw7.keep el6 lpp
        refine ⟨_, _, rfl, rfl, ?_⟩
        -- relations[name] = ..
        refine ⟨sz 4, fun t0 o0 nt0 od0 oc0 => ⟨_, rfl, 1 + w7, rfl, t0, _, rfl, ⟨o0, upd_same, od0, oc0⟩, fun c H8 hc s8 => ?_⟩⟩
        rw [cut_take _ (show (0 : Int) ≤ 1 + w7 by omega)] at hc
        have s78 := (Same.new (o := .frz o0 (.tup [V.str "x", .str "y", .str "z", .str "w"])) nt0).trans s8
        have ncol : CN ([V.str "x", .str "y", .str "z", .str "w"].take (1 + w7).toNat) := by
          unfold CN
          rw [List.length_take]
          show 0 < min (1 + w7).toNat 4 ∧ min (1 + w7).toNat 4 ≤ 10
          omega
        have sh8 := sh7.same s78
        have rg8 := rg7.same s78
        refine ⟨_, rfl, p, d, 40, rfl, by decide, rg8, ?_⟩
        rintro x9 H9 ⟨w9, rfl, w90, w91⟩ gw9 rg9
        refine ⟨_, _, rfl, rfl, sz 3, fun t1 nt1 => ?_⟩
        have t1p := (rg9.free nt1).1
        refine ⟨_, rfl, p, d, 3, rfl, by decide, rg9.same (Same.new nt1), ?_⟩
        rintro x10 H10 ⟨w10, rfl, w100, w101⟩ gw10 rg10
        have gw810 : Gw p H8 H10 := (gw9.trans (Gw.new nt1)).trans gw10
        have sh10 := sh8.gw rg8 gw810
        obtain ⟨r10, hr10, mr10⟩ := at_in (xs := [V.int 1, .int 2, .int (1 + w9)]) w100 w101
        obtain ⟨room, eroom, room1, room40⟩ : ∃ room : Int, r10 = V.int room ∧ 1 ≤ room ∧ room ≤ 40 := by
          simp only [List.mem_cons, List.not_mem_nil, or_false] at mr10
          rcases mr10 with rfl | rfl | rfl
          · exact ⟨1, rfl, by decide, by decide⟩
          · exact ⟨2, rfl, by decide, by decide⟩
          · exact ⟨1 + w9, rfl, by omega, by omega⟩
        subst eroom
        refine ⟨t1, _, w10, .int room, rfl, rfl, SqL.of (gw10.keep upd_same t1p), hr10, sz 2, fun t2 nt2 => ?_⟩
        have s11 := Same.new (o := .tup [V.ref c, .int room]) nt2
        have sh11 := sh10.same s11
        have rg11 := rg10.same s11
        have et2 := upd_same (H := H10) (a := t2) (o := .tup [V.ref c, .int room])
        have gw811 : Gw p H8 (upd H10 t2 (.tup [V.ref c, .int room])) := gw810.trans (Gw.same s11)
        have hc11 := (Rng.tk (K := K) rg8 gw811).x _ _ hc
        have el11 := gw811.keep (s78 _ _ el7) lpp
        have gw011 : Gw p H (upd H10 t2 (.tup [V.ref c, .int room])) := ((gw6.trans gw7).trans (Gw.same s78)).trans gw811
        generalize (upd H10 t2 (.tup [V.ref c, .int room])) = H11 at *
        have lkR : (kvR R).length ≤ 1000 := by
          have := congrArg List.length eR
          rw [List.length_map, List.length_take] at this
          unfold kvR
          rw [kvG_len]
          omega
        refine ⟨_, rfl, _, rfl, dr, _, rfl, DPut.k (k := Sum.inr n) sh11.r (small lkR (by decide)), ?_⟩
        have sh12 := sh11.rel (n := n) (SqT.of et2) hc11.sq ncol
        have rnone : valG R n = none := valG_not (by rw [eR]; exact nd_take K3_nd en)
        have tk611 : Tk K H6 H11 := ((Rng.tk rg6 gw7).trans (Tk.same s78)).trans (Rng.tk rg8 gw811)
        have sx12 := (((sx6.tk tk611).rel (n := n) (q := t2) (w := (1 + w7).toNat) rnone hc11 (by omega) (by omega) room1 room40)).tk (Tk.dK (o := .dK (putK (kvR R) (Sum.inr n) (.ref t2))) sh11.r)
        have hc12 : FT (upd H11 dr (.dK (putK (kvR R) (Sum.inr n) (.ref t2)))) c (colsV (1 + w7).toNat) := (Tk.dK (K := K) (o := .dK (putK (kvR R) (Sum.inr n) (.ref t2))) sh11.r).x _ _ hc11
        have drp : dr ≠ p ∧ dr ≠ d := by
          have h1 := sh11.r
          obtain ⟨ns, k, hp, _, hd⟩ := rg11
          exact ⟨(fun w => by rw [w, hp] at h1; cases h1), (fun w => by rw [w, hd] at h1; cases h1)⟩
        have dfp : df ≠ p ∧ df ≠ d := by
          have h1 := sh11.f
          obtain ⟨ns, k, hp, _, hd⟩ := rg11
          exact ⟨(fun w => by rw [w, hp] at h1; cases h1), (fun w => by rw [w, hd] at h1; cases h1)⟩
        have drl : lp ≠ dr := fun w => by have h1 := sh11.r; rw [← w, el11] at h1; cases h1
        have rg12 := rg11.upd (o := .dK (putK (kvR R) (Sum.inr n) (.ref t2))) drp
        have gw12 : Gw p H (upd H11 dr (.dK (putK (kvR R) (Sum.inr n) (.ref t2)))) := Gw.over gw011 nr
        have el12 : (upd H11 dr (.dK (putK (kvR R) (Sum.inr n) (.ref t2)))) lp = some (.lst ((K3.take v.toNat).map V.str)) := by rw [upd_ne drl]; exact el11
        generalize (upd H11 dr (.dK (putK (kvR R) (Sum.inr n) (.ref t2)))) = H12 at *
        -- count
        refine ⟨_, rfl, _, rfl, (m : Int), 1, rfl, rfl, p, d, (m : Int) + 1, rfl, by omega, rg12, ?_⟩
        rintro x13 H13 ⟨ct, rfl, ct0, ct1⟩ gw13 rg13
        have sh13 := sh12.gw rg12 gw13
        have el13 := gw13.keep el12 lpp
        -- the rows
        refine ⟨_, rfl, ct, rfl, by omega, by omega, fun D nD => lc_range (lo := 0) (n := ct.toNat) (fun j H14 => ∃ rs : List (Addr × List V), H14 D = some (.lst (rrefs rs)) ∧ rs.length = j ∧ RowsOk K H14 rs ∧ Gw p H13 H14 ∧ Rng d H14 p ∧ ∀ t ∈ rs, t.2.length = (1 + w7).toNat)
          ⟨[], upd_same, rfl, (fun _ z => nomatch z), Gw.new nD, rg13.same (Same.new nD), fun _ z => nomatch z⟩ (fun j H14 hj hP => ?_) (fun H14 hP => ?_)⟩
        · obtain ⟨rs, eD, lrs, ro, gw14, rg14, wid⟩ := hP
          have nDp := rg13.free nD
          refine ⟨rfl, ?_⟩
          refine ⟨_, rfl, 1 + w7, rfl, by omega, by omega, fun G nG => lc_range (lo := 0) (n := (1 + w7).toNat) (fun k H15 => ∃ us : List V, H15 G = some (.lst us) ∧ us.length = k ∧ (∀ y ∈ us, Scal y) ∧ Gw p H14 H15 ∧ Rng d H15 p)
            ⟨[], upd_same, rfl, (fun _ z => nomatch z), Gw.new nG, rg14.same (Same.new nG)⟩ (fun k H15 hk hP => ?_) (fun H15 hP => ?_)⟩
          · obtain ⟨us, eG, lus, su, gw15, rg15⟩ := hP
            have nGp := rg14.free nG
            refine ⟨rfl, ?_⟩
            refine ⟨_, rfl, p, d, rfl, rg15, ?_⟩
            rintro x H16 sx gw16 rg16
            refine ⟨us, gw16.keep eG nGp.1, small (m := 1000) (by omega) (by decide), us ++ [x], upd_same, by rw [List.length_append, lus]; rfl, fun y hy => ?_, Gw.over (gw15.trans gw16) nG, rg16.upd nGp⟩
            rcases List.mem_append.mp hy with h | h
            · exact su y h
            · rw [List.mem_singleton.mp h]
              exact sx
          · obtain ⟨us, eG, lus, su, gw15, rg15⟩ := hP
            refine ⟨G, us, rfl, .inl ⟨SqL.of eG, fun l nl => ?_⟩⟩
            have gw16 : Gw p H14 (upd H15 l (.tup us)) := gw15.trans (Gw.new nl)
            have eD16 := gw16.keep eD nDp.1
            have tk16 := Rng.tk (K := K) rg14 gw16
            have tkD : Tk K (upd H15 l (.tup us)) (upd (upd H15 l (.tup us)) D (.lst (rrefs rs ++ [.ref l]))) := Tk.put eD16
            refine ⟨rrefs rs, eD16, ?_, rs ++ [(l, us)], by rw [upd_same, rrefs_snoc], by rw [List.length_append, lrs]; rfl, ((ro.tk tk16).tk tkD).snoc (tkD _ _ (SqT.of upd_same)) su (by omega), Gw.over (gw14.trans gw16) nD, (rg15.same (Same.new nl)).upd nDp, fun u mu => by
              rcases List.mem_append.mp mu with mu | mu
              · exact wid u mu
              · rw [List.mem_singleton.mp mu]; exact lus⟩
            rw [rrefs_len]
            exact small (m := 1000) (by omega) (by decide)
        · obtain ⟨rs, eD, lrs, ro, gw14, rg14, wid⟩ := hP
          refine ⟨D, rs, rfl, SqL.of eD, ro, by omega, fun rs' l' H15 s15 nl' el' ro' lrs' so' sub' => ?_⟩
          have sh15 := (sh13.gw rg13 gw14).same s15
          have rg15 := rg14.same s15
          have el15 := s15 _ _ (gw14.keep el13 lpp)
          have gw15 : Gw p H H15 := ((gw12.trans gw13).trans gw14).trans (Gw.same s15)
          have lkF : (kvF F).length ≤ 1000 := by
            unfold kvF
            rw [kvG_len]
            omega
          refine ⟨_, rfl, _, rfl, df, _, rfl, DPut.k (k := Sum.inr n) sh15.f (small lkF (by decide)), ?_⟩
          have sh16 := sh15.fac (n := n) el' ro' (by omega)
          have dfl : lp ≠ df := fun w => by have h1 := sh15.f; rw [← w, el15] at h1; cases h1
          have tk15 : Tk K H12 H15 := ((Rng.tk rg12 gw13).trans (Rng.tk rg13 gw14)).trans (Tk.same s15)
          have sx16 := ((sx12.tk tk15).fac (n := n) (q := l') (w := (1 + w7).toNat) (rs := rs') (by rw [valG_put, if_pos rfl]) (tk15.x _ _ hc12) (by omega) so' (by omega) fun t m => wid t (sub' t m)).tk (Tk.dK (o := .dK (putK (kvF F) (Sum.inr n) (.ref l'))) sh15.f)
          refine ⟨_, _, _, _, _, rfl, sh16, putG_take K3_nd eR en, ?_, rg15.upd dfp, Gw.over gw15 nfH, by rw [upd_ne dfl]; exact el15, sx16, putG_take K3_nd eF en⟩
          have := putG_len F n (l', rs')
          omega
      · obtain ⟨y5, y6, y7, R, F, rfl, sh6, eR, lF, rg6, gw6, el6, sx6, eF⟩ := hP
        rw [List.length_map, ltk] at eR lF eF
        exact ⟨v.toNat, y5, y6, y7, R, F, rfl, sh6, eR, by omega, by omega, rg6, gw6, sx6, by rw [eF, eR]⟩
    clear gw3 rg3 sh3 s03 ns nf H1 H2 H3
    rintro σ H4 ⟨n, y5, y6, y7, R, F, rfl, sh4, eR, ln, lF, rg4, gw4, sx4, eF⟩
    have lR : R.length = n := by
      have := congrArg List.length eR
      rw [List.length_map, List.length_take] at this
      have k3 : K3.length = 3 := rfl
      omega
    have lk : (kvR R).length = n := by
      unfold kvR
      rw [kvG_len, lR]
    -- the structures
    refine ⟨sz 3, fun l0 nl0 => ⟨_, rfl, p, d, 4, rfl, by decide, rg4.same (Same.new nl0), ?_⟩⟩
    rintro x5 H5 ⟨v, rfl, v0, v1⟩ gw5 rg5
    have l0p := (rg4.free nl0).1
    have sh5 := (sh4.same (Same.new (o := .lst [V.str "b1", .str "a", .str "c_3"]) nl0)).gw (rg4.same (Same.new nl0)) gw5
    have gw05 : Gw p H H5 := (gw4.trans (Gw.new nl0)).trans gw5
    have sx5 := (sx4.tk (Tk.same (Same.new (o := .lst [V.str "b1", .str "a", .str "c_3"]) nl0))).tk (Rng.tk (rg4.same (Same.new nl0)) gw5)
    obtain ⟨t, et⟩ : ∃ t : Int, t = v * (if decide ((0 : Int) < ((kvR R).length : Int)) = true then 1 else 0) := ⟨_, rfl⟩
    have t0 : 0 ≤ t ∧ t ≤ 3 ∧ (0 < t → 0 < n) := by
      rw [et, lk]
      by_cases z : (0 : Int) < (n : Int)
      · rw [if_pos (decide_eq_true z)]
        omega
      · rw [if_neg (fun w => z (of_decide_eq_true w))]
        omega
    refine ⟨_, rfl, dr, kvR R, rfl, sh5.r, _, _, rfl, rfl, .inr ⟨_, rfl, _, _, rfl, rfl, .inl ⟨by omega, by omega⟩, t, congrArg V.int et.symm, l0, _, rfl, SqL.of (gw5.keep upd_same l0p), fun lp nlp => ?_⟩⟩
    have el : cutV [V.str "b1", .str "a", .str "c_3"] none (some t) = ((["b1", "a", "c_3"] : List Str).take t.toNat).map V.str := by
      rw [cut_take _ t0.1, List.map_take]
      rfl
    rw [el]
    have s6 := Same.new (o := .lst (((["b1", "a", "c_3"] : List Str).take t.toNat).map V.str)) nlp
    have e6 := upd_same (H := H5) (a := lp) (o := .lst (((["b1", "a", "c_3"] : List Str).take t.toNat).map V.str))
    have lpp := (rg5.free nlp).1
    have rg6 := rg5.same s6
    have sh6 := sh5.same s6
    have sx6 := sx5.tk (Tk.same s6)
    have gw06 : Gw p H (upd H5 lp (.lst (((["b1", "a", "c_3"] : List Str).take t.toNat).map V.str))) := gw05.trans (Gw.same s6)
    generalize (upd H5 lp (.lst (((["b1", "a", "c_3"] : List Str).take t.toNat).map V.str))) = H6 at *
    refine ⟨lp, rfl, ⟨_, SqL.of e6⟩, for_list (K := K) (a := lp) (xs := ((["b1", "a", "c_3"] : List Str).take t.toNat).map V.str) (fun i σ H7 => ∃ (y5 y8 y9 y10 : Option V) (S : Tb), σ = [some (.ref p), some (.int (m : Int)), some (.ref dr), some (.ref df), some (.ref ds), y5, y6, y7, y8, y9, y10, none, none] ∧
        ShAt K H7 dr df ds R F S ∧ ShX K H7 R F S ∧ (∀ n ∈ S.map (·.1), Pr n) ∧ S.length ≤ i ∧ Rng d H7 p ∧ Gw p H H7 ∧ H7 lp = some (.lst (((["b1", "a", "c_3"] : List Str).take t.toNat).map V.str)))
      ⟨y5, none, none, none, [], rfl, sh6, sx6, (fun _ m => nomatch m), Nat.le_refl _, rg6, gw06, e6⟩ (fun i σ H7 _ hP => ?_) (fun i y σ H7 hy hP => ?_) (fun σ H7 hP => ?_)⟩
    · obtain ⟨_, _, _, _, _, _, _, _, _, _, _, _, h⟩ := hP
      exact SqL.of h
    · obtain ⟨y5, y8, y9, y10, S, rfl, sh7, sx7, pS, lS, rg7, gw7, el7⟩ := hP
      have p3 : ∀ w ∈ (["b1", "a", "c_3"] : List Str), Pr w := by decide +kernel
      obtain ⟨nm, rfl, tpos, pnm⟩ : ∃ nm : Str, y = V.str nm ∧ 0 < t ∧ Pr nm := by
        rw [List.getElem?_map] at hy
        cases z : ((["b1", "a", "c_3"] : List Str).take t.toNat)[i]? with
        | none => rw [z] at hy; cases hy
        | some nm =>
          rw [z] at hy
          refine ⟨nm, (Option.some.inj hy).symm, ?_⟩
          refine ⟨?_, p3 nm (List.mem_of_mem_take (List.mem_of_getElem? z))⟩
          have := (List.getElem?_eq_some_iff.mp z).1
          rw [List.length_take] at this
          omega
      have i3 : i < 3 := by
        have := (List.getElem?_eq_some_iff.mp hy).1
        rw [List.length_map, List.length_take] at this
        omega
      have npos := t0.2.2 tpos
      -- relation
      refine ⟨sz 3, fun l1 nl1 => ⟨_, rfl, _, rfl, dr, kvR R, rfl, (Same.new nl1) _ _ sh7.r, p, d, ((kvR R).length : Int), rfl, by omega, rg7.same (Same.new nl1), ?_⟩⟩
      rintro x8 H8 ⟨v2, rfl, v20, v21⟩ gw8 rg8
      have l1p := (rg7.free nl1).1
      have sh8 := (sh7.same (Same.new (o := .lst [V.str "r", .str "s", .str "t2"]) nl1)).gw (rg7.same (Same.new nl1)) gw8
      have gw78 : Gw p H7 H8 := (Gw.new nl1).trans gw8
      have sx8 := sx7.tk (Rng.tk rg7 gw78)
      have v2n : v2.toNat < n := by omega
      have v23 : v2.toNat < K3.length := by show v2.toNat < 3; omega
      have en := List.getElem?_eq_getElem v23
      generalize hrn : K3[v2.toNat] = rn at en
      have mrn : rn ∈ R.map (·.1) := by
        rw [eR]
        refine List.mem_of_getElem? (i := v2.toNat) ?_
        rw [List.getElem?_take, if_pos v2n]
        exact en
      have gn : [V.str "r", .str "s", .str "t2"][v2.toNat]? = some (V.str rn) := by
        show (K3.map V.str)[v2.toNat]? = _
        rw [List.getElem?_map, en]
        rfl
      refine ⟨l1, _, v2, .str rn, rfl, rfl, SqL.of (gw8.keep upd_same l1p), at_of (j := v2.toNat) (by omega) gn, ?_⟩
      obtain ⟨qa, cc, ec, mc⟩ := mem_val mrn
      obtain ⟨c, w0, r, erc, hx8, w01, w04, r01, r40⟩ := sx8.rc rn qa cc ec
      have hc8 : SqT K H8 c (colsV w0) := hx8.sq
      obtain ⟨cols, ecols⟩ : ∃ cols, cols = colsV w0 := ⟨_, rfl⟩
      rw [← ecols] at hc8
      have hn : CN cols := by
        unfold CN
        rw [ecols, colsV_len w04]
        omega
      have hn4 : cols.length ≤ 4 := by rw [ecols, colsV_len w04]; exact w04
      have erc' : cc = [.ref c, .int r] := erc
      subst erc'
      have hqa8 : SqT K H8 qa [.ref c, .int r] := sh8.rt _ mc
      have hn2 := hn.2
      have hn1 := hn.1
      -- columns
      refine ⟨sz 0, fun cl ncl => ?_⟩
      have s9 := Same.new (o := .lst []) ncl
      have e9 := upd_same (H := H8) (a := cl) (o := .lst [])
      have clp := rg8.free ncl
      have rg9 := rg8.same s9
      have gw89 : Gw p H8 (upd H8 cl (.lst [])) := Gw.new ncl
      have sh9 := sh8.same s9
      generalize (upd H8 cl (.lst [])) = H9 at *
      refine ⟨_, rfl, _, rfl, dr, _, rfl, dget_n (.inl sh9.r) ec, qa, _, 0, .ref c, rfl, rfl, Tk.same s9 _ _ hqa8, at_of (j := 0) rfl rfl, c, rfl, ⟨_, Tk.same s9 _ _ hc8⟩, for_tup (K := K) (a := c) (xs := cols) (fun j σ H10 => ∃ (y10 : Option V) (cs : List V),
          σ = [some (.ref p), some (.int (m : Int)), some (.ref dr), some (.ref df), some (.ref ds), some (.str nm), y6, y7, some (.str rn), some (.ref cl), y10, none, none] ∧ H10 cl = some (.lst cs) ∧ cs.length ≤ j ∧ Gw p H8 H10 ∧ Rng d H10 p ∧ ∀ x ∈ cs, x ∈ cols)
        ⟨y10, [], rfl, e9, Nat.le_refl _, gw89, rg9, fun _ m => nomatch m⟩ (fun j σ H10 _ hP => ?_) (fun j y σ H10 hy hP => ?_) (fun σ H10 hP => ?_)⟩
      · obtain ⟨_, _, _, _, _, gw10, rg10, _⟩ := hP
        exact Rng.tk (K := K) rg8 gw10 _ _ hc8
      · obtain ⟨y10, cs, rfl, ecl, lcs, gw10, rg10, sub⟩ := hP
        have jl : j < cols.length := (List.getElem?_eq_some_iff.mp hy).1
        refine ⟨_, rfl, p, d, 2, rfl, by decide, rg10, ?_⟩
        rintro x11 H11 ⟨v3, rfl, v30, v31⟩ gw11 rg11
        have ecl11 := gw11.keep ecl clp.1
        refine ⟨rfl, _, rfl, ite2 (fun e => ?_) (fun e => ?_)⟩
        · refine ⟨_, rfl, .inl ⟨rfl, _, .inl (.inl ecl11)⟩, _, rfl, _, rfl, cl, cs, rfl, .inl (SqL.of ecl11), _, _, rfl, rfl, p, d, (cs.length : Int) + 1, rfl, by omega, rg11, ?_⟩
          rintro x12 H12 ⟨v4, rfl, v40, v41⟩ gw12 rg12
          have ecl12 := gw12.keep ecl11 clp.1
          refine ⟨_, rfl, cl, cs, v4, y, rfl, rfl, ecl12, small (m := 1000) (by omega) (by decide), v40, by omega, _, _, rfl, upd_same, ?_, Gw.over ((gw10.trans gw11).trans gw12) ncl, rg12.upd clp, fun x mx => ?_⟩
          · rw [List.length_append, List.length_append, List.length_take, List.length_drop]
            show min v4.toNat cs.length + 1 + (cs.length - v4.toNat) ≤ j + 1
            omega
          · rcases mem_cut.mp mx with e | mx
            · rw [e]; exact List.mem_of_getElem? hy
            · exact sub x mx
        · exact ⟨_, cs, rfl, ecl11, by omega, gw10.trans gw11, rg11, sub⟩
      · obtain ⟨y10, cs, rfl, ecl, lcs, gw10, rg10, sub⟩ := hP
        have sh10 := sh8.gw rg8 gw10
        have tk10 := Rng.tk (K := K) rg8 gw10
        refine ⟨fun σ H' => ∃ (cl : Addr) (cs : List V), σ = [some (.ref p), some (.int (m : Int)), some (.ref dr), some (.ref df), some (.ref ds), some (.str nm), y6, y7, some (.str rn), some (.ref cl), y10, none, none] ∧ H' cl = some (.lst cs) ∧ Gw p H8 H' ∧ Rng d H' p ∧ cs ≠ [] ∧ cs.length ≤ 4 ∧ ∀ x ∈ cs, x ∈ cols, ?_, ?_⟩
        · refine ⟨_, rfl, cl, cs, rfl, .inl (SqL.of ecl), rfl, _, rfl, ite2 (fun e => ?_) (fun e => ?_)⟩
          · refine ⟨_, rfl, _, rfl, dr, _, rfl, dget_n (.inl sh10.r) ec, qa, _, 0, .ref c, rfl, rfl, tk10 _ _ hqa8, at_of (j := 0) rfl rfl, c, cols, 0, cols[0], rfl, rfl, tk10 _ _ hc8, at_of (j := 0) rfl (List.getElem?_eq_getElem hn1), sz 1, fun cl2 ncl2 => ?_⟩
            exact ⟨cl2, _, rfl, upd_same, gw10.trans (Gw.new ncl2), rg10.same (Same.new ncl2), (by simp), (by show 1 ≤ 4; decide), fun x mx => by rw [List.mem_singleton.mp mx]; exact List.getElem_mem hn1⟩
          · exact ⟨cl, cs, rfl, ecl, gw10, rg10, (fun z => by subst z; exact e (by decide)), by omega, sub⟩
        clear ecl lcs sh10 tk10 gw10 rg10 e9 rg9 gw89 sh9 s9
        rintro σ H11 ⟨cl2, cs2, rfl, ecl, gw11, rg11, nn2, l42, sub2⟩
        refine ⟨_, rfl, _, rfl, cl2, cs2, rfl, .inl ⟨SqL.of ecl, fun tl ntl => ?_⟩⟩
        have s12 := Same.new (o := .tup cs2) ntl
        have etl := upd_same (H := H11) (a := tl) (o := .tup cs2)
        refine ⟨_, rfl, sz 2, fun l2 nl2 => ⟨_, rfl, p, d, 2, rfl, by decide, (rg11.same s12).same (Same.new nl2), ?_⟩⟩
        rintro x13 H13 ⟨v5, rfl, v50, v51⟩ gw13 rg13
        have l2p := ((rg11.same s12).free nl2).1
        obtain ⟨r13, hr13, mr13⟩ := at_in (xs := [V.int 3, .int 16]) v50 v51
        obtain ⟨lim, rfl, lim0, lim1⟩ : ∃ lim : Int, r13 = V.int lim ∧ 0 < lim ∧ lim ≤ 16 := by
          simp only [List.mem_cons, List.not_mem_nil, or_false] at mr13
          rcases mr13 with rfl | rfl
          · exact ⟨3, rfl, by decide, by decide⟩
          · exact ⟨16, rfl, by decide, by decide⟩
        have gw1113 : Gw p H11 H13 := ((Gw.same s12).trans (Gw.new nl2)).trans gw13
        have htl13 : SqT K H13 tl cs2 := Rng.tk ((rg11.same s12).same (Same.new nl2)) gw13 _ _ (Tk.same (Same.new nl2) _ _ (SqT.of etl))
        refine ⟨l2, _, v5, .int lim, rfl, rfl, SqL.of (gw13.keep upd_same l2p), hr13, p, d, lim, rfl, lim0, rg13, ?_⟩
        rintro x14 H14 ⟨v6, rfl, v60, v61⟩ gw14 rg14
        refine ⟨_, _, rfl, rfl, _, rfl, p, d, 8, rfl, by decide, rg14, ?_⟩
        rintro x15 H15 ⟨v7, rfl, v70, v71⟩ gw15 rg15
        refine ⟨_, _, rfl, rfl, sz 4, fun t3 nt3 => ?_⟩
        have s16 := Same.new (o := .tup [V.str rn, .ref tl, .int (1 + v6), .int (1 + v7)]) nt3
        have e16 := upd_same (H := H15) (a := t3) (o := .tup [V.str rn, .ref tl, .int (1 + v6), .int (1 + v7)])
        have gw816 : Gw p H8 (upd H15 t3 (.tup [V.str rn, .ref tl, .int (1 + v6), .int (1 + v7)])) := (((gw11.trans gw1113).trans gw14).trans gw15).trans (Gw.same s16)
        have rg16 := rg15.same s16
        have sh16 := sh8.gw rg8 gw816
        have gw016 : Gw p H (upd H15 t3 (.tup [V.str rn, .ref tl, .int (1 + v6), .int (1 + v7)])) := (gw7.trans gw78).trans gw816
        have el16 := gw816.keep (gw78.keep el7 lpp) lpp
        generalize (upd H15 t3 (.tup [V.str rn, .ref tl, .int (1 + v6), .int (1 + v7)])) = H16 at *
        have htl16 : SqT K H16 tl cs2 := (((Rng.tk rg13 gw14).trans (Rng.tk rg14 gw15)).trans (Tk.same s16)) _ _ htl13
        have tk816 : Tk K H8 H16 := Rng.tk rg8 gw816
        have sx17 := ((sx8.tk tk816).stru (n := nm) (q := t3) (s := 1 + v7) (w := w0) htl16 nn2 l42 (fun x mx => by rw [← ecols]; exact sub2 x mx) ec (tk816.x _ _ hx8) w04 (show 1 ≤ 1 + v6 by omega) (by omega) (by omega) (by omega)).tk (Tk.dK (o := .dK (putK (kvR S) (Sum.inr nm) (.ref t3))) sh16.s)
        have lkS : (kvR S).length ≤ 1000 := by
          unfold kvR
          rw [kvG_len]
          omega
        refine ⟨_, rfl, _, rfl, ds, _, rfl, DPut.k (k := Sum.inr nm) sh16.s (small lkS (by decide)), ?_⟩
        have dsp : ds ≠ p ∧ ds ≠ d := by
          have h1 := sh16.s
          obtain ⟨nn, k, hp, _, hd⟩ := rg16
          exact ⟨(fun w => by rw [w, hp] at h1; cases h1), (fun w => by rw [w, hd] at h1; cases h1)⟩
        have dsl : lp ≠ ds := fun w => by have h1 := sh16.s; rw [← w, el16] at h1; cases h1
        refine ⟨_, _, _, _, _, rfl, sh16.stru (SqT.of e16) (by omega) (by omega), sx17, fun x mx => ?_, ?_, rg16.upd dsp, Gw.over gw016 nsH, by rw [upd_ne dsl]; exact el16⟩
        · obtain ⟨u, mu, eu⟩ := List.mem_map.mp mx
          rcases putG_mem mu with w | ⟨w, _⟩
          · rw [← eu, w]; exact pnm
          · exact pS x (List.mem_map.mpr ⟨u, w, eu⟩)
        have := putG_len S nm (t3, [V.str rn, .ref tl, .int (1 + v6), .int (1 + v7)])
        omega
    · obtain ⟨y5, y8, y9, y10, S, rfl, sh7, sx7, pS, lS, rg7, gw7, el7⟩ := hP
      refine ⟨_, rfl, _, rfl, _, rfl, sz 3, fun ls nls => ?_⟩
      have l3 : S.length ≤ 3 := by
        rw [List.length_map, List.length_take] at lS
        have := t0.2.1
        omega
      have p0 : ∀ w ∈ K3, Pr w := by decide +kernel
      exact q _ _ ⟨ls, dr, df, ds, R, S, F, rfl, upd_same, sh7.same (Same.new nls), by omega, lF, l3, sx7.tk (Tk.same (Same.new nls)), eF, (fun x mx => p0 x (by rw [eR] at mx; exact List.mem_of_mem_take mx)), pS⟩ (gw7.trans (Gw.new nls)) (rg7.same (Same.new nls))
end
end K1
namespace K1
open PySem PySem.Spec PyProof.Rows L2 Ow Tlz
abbrev s_law_shelf_items : Stmt := topS 49
abbrev N_law_shelf_items : List Str := ["shelf", "name", "items", "row"]
theorem sc_law_shelf_items : FnScope N_law_shelf_items ["shelf"] (defScope s_law_shelf_items) := ⟨rfl, rfl, rfl, by decide +kernel, rfl, by decide +kernel, by decide +kernel⟩
def spShItems (K : PySem.W.Frag) : Sp := fun vs H Q _ => ∃ (ls dr df ds : Addr) (R S : Tb) (F : Fb), vs = [.ref ls] ∧ SqL K H ls [.ref dr, .ref df, .ref ds] ∧ ShAt K H dr df ds R F S ∧ TabG K H R F S [] ∧ R.length ≤ 10 ∧ F.length ≤ 3 ∧ S.length ≤ 10 ∧
  ∀ (its : Its) (p : Addr) (ys fs zs : List Str) H', Same H H' → H p = none → H' p = some (.lst (irf its)) → ItsG K H' its → its.length ≤ 150 → ys.Perm (R.map (·.1)) → sortedS ys = true → fs.Perm (F.map (·.1)) → sortedS fs = true → zs.Perm (S.map (·.1)) → sortedS zs = true →
    its.map te = allE R F S [] ys fs zs [] → Q (.ref p) H'
theorem memF_val {F : Fb} {n : Str} (h : n ∈ F.map (·.1)) : ∃ q c, valG F n = some (q, c) ∧ (n, q, c) ∈ F := by
  cases e : valG F n with
  | none =>
    obtain ⟨x, mx, ex⟩ := List.mem_map.mp h
    exact absurd ex (valG_none e x mx)
  | some b => exact ⟨b.1, b.2, rfl, valG_mem e⟩
theorem ShX.tg {K : PySem.W.Frag} {H : Hp} {R S : Tb} {F : Fb} (h : ShX K H R F S) (ek : F.map (·.1) = R.map (·.1)) (pr : ∀ n ∈ R.map (·.1), Pr n) (ps : ∀ n ∈ S.map (·.1), Pr n) : TabG K H R F S [] := by
  refine ⟨fun n q c e => ?_, fun n q c e => ?_, (fun n v e => by cases e), fun n e => pr n ?_⟩
  · obtain ⟨cc, w, r, h1, h2, h3⟩ := h.rc n q c e
    subst h1
    exact ⟨pr n (valG_key.mpr (by rw [e]; rfl)), rfl, CD.strs h2.sq (colsV_strs w) (by rw [colsV_len h3.2.1]; omega) (CD.int CD.nil)⟩
  · obtain ⟨rn, cc, cs, b, s, q', cr, w, r, h1, h2, h3, h4, h5, h6, h7⟩ := h.sc n q c e
    subst h1
    exact ⟨ps n (valG_key.mpr (by rw [e]; rfl)), rfl, CD.str (pr rn (valG_key.mpr (by rw [h6]; rfl))) (CD.strs h2 (fun x m => colsV_strs w x (h5 x m)) (by omega) (CD.int (CD.int CD.nil)))⟩
  · rw [← ek]
    exact valG_key.mpr e
section
variable {P : Program} {w : World} {K : PySem.W.Frag} {mg : Str → Option Value} {base : Heap} {C : Addr}
theorem ok_items {f : Addr} {fd : FuncData} (F0 : Fun K "_law_shelf_items" "_law_shelf_items" s_law_shelf_items f fd) (T : Bl mg) :
    FnOk P w K mg base CX0 1 f fd ["shelf"] (spShItems K) := by
  refine F0.ok sc_law_shelf_items (fun vs H Q E h => ?_) (fun cdv A outer s H vs Q E hr h => ?_)
  · obtain ⟨ls, dr, df, ds, R, S, F, rfl, _⟩ := h
    rfl
  · obtain ⟨ls, dr, df, ds, R, S, F, rfl, hls, sh, tg, lR, lF, lS, q⟩ := h
    have hu := hu_of hr
    refine ⟨_, (pss_cons (ps_setLc (i := 2) (own := [("name", 1)]) (g := gName 1) rfl sc_law_shelf_items.nd rfl rfl (sw_true rfl rfl rfl (by decide +kernel)) (pi_list (pe_callB cr_sortedS (by rfl) T.sorted (by decide +kernel) (pa_cons (pe_callTy (call_listD rfl) (by rfl) T.list (by decide +kernel) (pa_cons (pe_ix ix_list (pv 0) pe_int (fun _ _ => rfl)) pa_nil)) pa_nil))) (blkOk_by (own := [("name", 1)]) (N := N_law_shelf_items) (sc := defScope s_law_shelf_items) (by decide +kernel)) (fun _ _ _ _ _ => pg_name (i := 1) sc_law_shelf_items.nd rfl (Or.inl rfl)) (fun _ _ _ _ _ => pts_nil) (fun _ _ _ _ _ => (pe_op (op_catA_K (K := K) rfl) (pe_tup (pa_cons pe_str (pa_cons (pv 1) pa_nil))) (pe_dget hu (pe_ix (ix_list_K (K := K) rfl) (pv 0) pe_int (fun _ _ => rfl)) (pv 1) (fun _ _ => rfl)))))
      (pss_cons (ps_for PassesOwn.never rfl (pi_list (pe_callB cr_sortedS (by rfl) T.sorted (by decide +kernel) (pa_cons (pe_callTy (call_listD rfl) (by rfl) T.list (by decide +kernel) (pa_cons (pe_ix ix_list (pv 0) pe_int (fun _ _ => rfl)) pa_nil)) pa_nil))) (pg_name (i := 1) sc_law_shelf_items.nd rfl (.inr rfl)) (pss_one (ps_set (i := 2) sc_law_shelf_items.nd rfl (.inl rfl) (pe_op op_cat (pv 2) (pe_lc (own := [("row", 3)]) (g := gName 3) rfl sc_law_shelf_items.nd (pi_list (pe_dget hu (pe_ix ix_list (pv 0) pe_int (fun _ _ => rfl)) (pv 1) (fun _ _ => rfl))) (blkOk_by (own := [("row", 3)]) (N := N_law_shelf_items) (sc := defScope s_law_shelf_items) (by decide +kernel)) (fun _ _ _ _ _ => pg_name (i := 3) sc_law_shelf_items.nd rfl (Or.inl rfl)) (fun _ _ _ _ _ => pts_nil) (fun _ _ _ _ _ => (pe_tup (pa_cons pe_str (pa_cons (pv 1) (pa_cons (pv 3) pa_nil))))))))))
      (pss_one (ps_ret (pe_op op_cat (pv 2) (pe_lc (own := [("name", 1)]) (g := gName 1) rfl sc_law_shelf_items.nd (pi_list (pe_callB cr_sortedS (by rfl) T.sorted (by decide +kernel) (pa_cons (pe_callTy (call_listD rfl) (by rfl) T.list (by decide +kernel) (pa_cons (pe_ix ix_list (pv 0) pe_int (fun _ _ => rfl)) pa_nil)) pa_nil))) (blkOk_by (own := [("name", 1)]) (N := N_law_shelf_items) (sc := defScope s_law_shelf_items) (by decide +kernel)) (fun _ _ _ _ _ => pg_name (i := 1) sc_law_shelf_items.nd rfl (Or.inl rfl)) (fun _ _ _ _ _ => pts_nil) (fun _ _ _ _ _ => (pe_op (op_catA_K (K := K) rfl) (pe_tup (pa_cons pe_str (pa_cons (pv 1) pa_nil))) (pe_dget hu (pe_ix (ix_list_K (K := K) rfl) (pv 0) pe_int (fun _ _ => rfl)) (pv 1) (fun _ _ => rfl)))))))))), ?_⟩
    -- the relations
    refine ⟨_, rfl, ls, _, 0, .ref dr, rfl, rfl, hls, at_of (j := 0) rfl rfl, dr, kvR R, rfl, .inl sh.r, fun l0 nl0 => ?_⟩
    rw [kv_names]
    have s1 := Same.new (o := .lst ((R.map (·.1)).map V.str)) nl0
    have e1 := upd_same (H := H) (a := l0) (o := .lst ((R.map (·.1)).map V.str))
    generalize (upd H l0 (.lst ((R.map (·.1)).map V.str))) = H1 at *
    refine ⟨l0, R.map (·.1), rfl, SqL.of e1, by rw [List.length_map]; omega, fun ys yp py sy nyp => ?_⟩
    have s2 := s1.trans (Same.new (o := .lst (ys.map V.str)) nyp)
    have e2 := upd_same (H := H1) (a := yp) (o := .lst (ys.map V.str))
    generalize (upd H1 yp (.lst (ys.map V.str))) = H2 at *
    have lys : ys.length ≤ 10 := by rw [py.length_eq, List.length_map]; exact lR
    refine ⟨yp, rfl, ⟨_, SqL.of e2⟩, fun D nD => lc_list (K := K) (a := yp) (xs := ys.map V.str) (fun i H4 => ∃ its : List (Addr × It), Same H2 H4 ∧ H4 D = some (.lst (irf its)) ∧ ItsG K H4 its ∧ its.length = i ∧
        its.map te = (ys.take i).map fun n => ier (.rel n (cOf R n)))
      ⟨[], Same.new nD, upd_same, (fun _ m => nomatch m), rfl, rfl⟩ (fun i H4 _ hP => ?_) (fun i y H4 hy hP => ?_) (fun H4 hP => ?_)⟩
    · obtain ⟨_, s4, _⟩ := hP
      exact SqL.of (s4 _ _ e2)
    · obtain ⟨its, s4, eD, io, li, er⟩ := hP
      obtain ⟨n, en, rfl⟩ := strs_get hy
      have il : i < ys.length := (List.getElem?_eq_some_iff.mp en).1
      have mn : n ∈ R.map (·.1) := py.mem_iff.mp (List.mem_of_getElem? en)
      obtain ⟨qa, c, ec, m⟩ := mem_val mn
      have sh4 := sh.same (s2.trans s4)
      obtain ⟨cc, cols, r, erc, _, _⟩ := sh.rc _ m
      obtain ⟨pn, lc, cd⟩ := tg.r n qa c ec
      have erc' : c = [.ref cc, .int r] := erc
      subst erc'
      refine ⟨rfl, ?_⟩
      refine ⟨_, rfl, sz 2, fun t nt => ?_⟩
      have s5 := Same.new (o := .tup [V.str "relation", .str n]) nt
      have sh5 := sh4.same s5
      refine ⟨_, rfl, ls, _, 0, .ref dr, rfl, rfl, ((s2.trans s4).trans s5).seq hls, at_of (j := 0) rfl rfl, _, rfl, dr, _, rfl, dget_n (.inl sh5.r) ec, t, qa, _, _, rfl, rfl, SqT.of upd_same, sh5.rt _ m, sz 4, (fun z => by cases z), (fun _ z => by cases z), fun _ _ u nu => ?_⟩
      have s6 := s5.trans (Same.new (o := .tup ([V.str "relation", .str n] ++ [V.ref cc, .int r])) nu)
      have e6 := upd_same (H := upd H4 t (.tup [V.str "relation", .str n])) (a := u) (o := .tup ([V.str "relation", .str n] ++ [V.ref cc, .int r]))
      generalize (upd (upd H4 t (.tup [V.str "relation", .str n])) u (.tup ([V.str "relation", .str n] ++ [V.ref cc, .int r]))) = H6 at *
      have eD6 := s6 _ _ eD
      have tD : Tk K H6 (upd H6 D (.lst (irf its ++ [.ref u]))) := Tk.put eD6
      refine ⟨irf its, eD6, by rw [irf_len]; exact small (m := 1000) (by omega) (by decide), its ++ [(u, .rel n [.ref cc, .int r])], Same.over (s4.trans s6) nD, by rw [upd_same, irf_app]; rfl, ((io.tk (Tk.same s6)).tk tD).app (ItsG.one (t := (u, It.rel n [V.ref cc, .int r])) ⟨tD _ _ (SqT.of e6), pn, ((cd.same (s2.trans s4)).same s6).tk tD, rfl⟩), by rw [List.length_append, li]; rfl, ?_⟩
      rw [te_app, take_snoc' en, List.map_append, ← er]
      show _ = _ ++ [ier (.rel n (cOf R n))]
      rw [cOf_eq ec]
      rfl
    obtain ⟨its, s4, eD, io, li, er⟩ := hP
    rw [List.length_map] at li
    rw [List.length_map, List.take_length] at er
    have s04 := s2.trans s4
    have sh4 := sh.same s04
    have nDH : H D = none := s2.free nD
    clear e2 s1 e1 nl0
    -- the facts
    refine ⟨_, rfl, ls, _, 1, .ref df, rfl, rfl, s04.seq hls, at_of (j := 1) rfl rfl, df, kvF F, rfl, .inl sh4.f, fun l1 nl1 => ?_⟩
    rw [kvF_names]
    have s5 := s04.trans (Same.new (o := .lst ((F.map (·.1)).map V.str)) nl1)
    have e5 := upd_same (H := H4) (a := l1) (o := .lst ((F.map (·.1)).map V.str))
    have eD5 := (Same.new (o := .lst ((F.map (·.1)).map V.str)) nl1) _ _ eD
    have io5 := io.tk (Tk.same (K := K) (Same.new (o := .lst ((F.map (·.1)).map V.str)) nl1))
    generalize (upd H4 l1 (.lst ((F.map (·.1)).map V.str))) = H5 at *
    refine ⟨l1, F.map (·.1), rfl, SqL.of e5, by rw [List.length_map]; omega, fun fs fp pf sf nfp => ?_⟩
    have s6 := s5.trans (Same.new (o := .lst (fs.map V.str)) nfp)
    have e6 := upd_same (H := H5) (a := fp) (o := .lst (fs.map V.str))
    have eD6 := (Same.new (o := .lst (fs.map V.str)) nfp) _ _ eD5
    have io6 := io5.tk (Tk.same (K := K) (Same.new (o := .lst (fs.map V.str)) nfp))
    generalize (upd H5 fp (.lst (fs.map V.str))) = H6 at *
    have lfs : fs.length ≤ 3 := by rw [pf.length_eq, List.length_map]; exact lF
    clear sh4 s04 e5 eD5 io5 s5
    refine ⟨fp, rfl, ⟨_, SqL.of e6⟩, for_list (K := K) (a := fp) (xs := fs.map V.str) (fun i σ H7 => ∃ (D : Addr) (y1 : Option V) (its : List (Addr × It)), σ = [some (.ref ls), y1, some (.ref D), none] ∧ Same H6 H7 ∧ H D = none ∧ H7 D = some (.lst (irf its)) ∧ ItsG K H7 its ∧ its.length ≤ 10 + 40 * i ∧
        its.map te = ys.map (fun n => ier (.rel n (cOf R n))) ++ (fs.take i).flatMap fun n => (rOf F n).map fun t => ier (.fact n t.1 t.2))
      ⟨D, none, its, rfl, Same.refl _, nDH, eD6, io6, by omega, by rw [List.take_zero, List.flatMap_nil, List.append_nil]; exact er⟩ (fun i σ H7 _ hP => ?_) (fun i y σ H7 hy hP => ?_) (fun σ H7 hP => ?_)⟩
    · obtain ⟨_, _, _, _, s7, _⟩ := hP
      exact SqL.of (s7 _ _ e6)
    · obtain ⟨D, y1, its, rfl, s7, nDH, eD, io, li, er⟩ := hP
      obtain ⟨n, en, rfl⟩ := strs_get hy
      have il : i < fs.length := (List.getElem?_eq_some_iff.mp en).1
      have mn : n ∈ F.map (·.1) := pf.mem_iff.mp (List.mem_of_getElem? en)
      obtain ⟨qa, rs, ec, m⟩ := memF_val mn
      have s07 := s6.trans s7
      have sh7 := sh.same s07
      obtain ⟨hqa, ro, lrs⟩ := sh7.ft _ m
      have hqa' : H7 qa = some (.lst (rrefs rs)) := hqa
      have ro' : RowsOk K H7 rs := ro
      have lrs' : rs.length ≤ 40 := lrs
      have pn := tg.f n (by rw [ec]; rfl)
      refine ⟨_, rfl, _, rfl, ls, _, 1, .ref df, rfl, rfl, s07.seq hls, at_of (j := 1) rfl rfl, _, rfl, df, _, rfl, dgetF (.inl sh7.f) ec, qa, rfl, ⟨_, SqL.of hqa'⟩, fun E2 nE => lc_list (K := K) (a := qa) (xs := rrefs rs) (fun j H8 => ∃ jts : List (Addr × It), Same H7 H8 ∧ H8 E2 = some (.lst (irf jts)) ∧ ItsG K H8 jts ∧ jts.length = j ∧ jts.map te = (rs.take j).map fun t => ier (.fact n t.1 t.2))
        ⟨[], Same.new nE, upd_same, (fun _ m => nomatch m), rfl, rfl⟩ (fun j H8 _ hP => ?_) (fun j y H8 hy hP => ?_) (fun H8 hP => ?_)⟩
      · obtain ⟨_, s8, _⟩ := hP
        exact SqL.of (s8 _ _ hqa')
      · obtain ⟨jts, s8, eE, jo, lj, jr⟩ := hP
        obtain ⟨t, et, rfl⟩ := rrefs_get hy
        obtain ⟨ht, st, lt⟩ := (ro'.same s8) t (List.mem_of_getElem? et)
        have jl : j < rs.length := (List.getElem?_eq_some_iff.mp et).1
        refine ⟨rfl, ?_⟩
        refine ⟨_, rfl, _, rfl, sz 3, fun u nu => ?_⟩
        have s9 := Same.new (o := .tup [V.str "fact", .str n, .ref t.1]) nu
        have e9 := upd_same (H := H8) (a := u) (o := .tup [V.str "fact", .str n, .ref t.1])
        generalize (upd H8 u (.tup [V.str "fact", .str n, .ref t.1])) = H9 at *
        have eE9 := s9 _ _ eE
        have tE : Tk K H9 (upd H9 E2 (.lst (irf jts ++ [.ref u]))) := Tk.put eE9
        refine ⟨irf jts, eE9, by rw [irf_len]; exact small (m := 1000) (by omega) (by decide), jts ++ [(u, .fact n t.1 t.2)], Same.over (s8.trans s9) nE, by rw [upd_same, irf_app]; rfl, ((jo.tk (Tk.same s9)).tk tE).app (ItsG.one (t := (u, It.fact n t.1 t.2)) ⟨⟨tE _ _ (SqT.of e9), tE _ _ (Tk.same s9 _ _ ht), st, lt⟩, pn, CD.nil, rfl⟩), by rw [List.length_append, lj]; rfl, ?_⟩
        rw [te_app, take_snoc' et, List.map_append, ← jr]
        rfl
      · obtain ⟨jts, s8, eE, jo, lj, jr⟩ := hP
        rw [rrefs_len] at lj
        rw [rrefs_len, List.take_length] at jr
        refine ⟨D, E2, _, _, rfl, rfl, s8 _ _ eD, eE, ?_, fun u nu => ?_⟩
        · rw [irf_len, irf_len]
          exact sz _ (by omega)
        have s9 := Same.new (o := .lst (irf its ++ irf jts)) nu
        refine ⟨u, some (.str n), its ++ jts, rfl, s7.trans (s8.trans s9), (s07.trans s8).free nu, by rw [upd_same, irf_app], (((io.tk (Tk.same s8)).app jo).tk (Tk.same s9)), by rw [List.length_append]; omega, ?_⟩
        rw [te_app, take_snoc' en, List.flatMap_append, er, jr, List.append_assoc]
        show _ = _ ++ (_ ++ List.flatMap _ [n])
        rw [List.flatMap_cons, List.flatMap_nil, List.append_nil, rOf_eq ec]
    clear er io li eD6 io6 nDH
    obtain ⟨D, y1, its, rfl, s7, nDH, eD, io, li, er⟩ := hP
    have s07 := s6.trans s7
    have sh7 := sh.same s07
    -- the structures
    refine ⟨_, rfl, _, rfl, ls, _, 2, .ref ds, rfl, rfl, s07.seq hls, at_of (j := 2) rfl rfl, ds, kvR S, rfl, .inl sh7.s, fun l2 nl2 => ?_⟩
    rw [kv_names]
    have s8 := s07.trans (Same.new (o := .lst ((S.map (·.1)).map V.str)) nl2)
    have e8 := upd_same (H := H7) (a := l2) (o := .lst ((S.map (·.1)).map V.str))
    have eD8 := (Same.new (o := .lst ((S.map (·.1)).map V.str)) nl2) _ _ eD
    have io8 := io.tk (Tk.same (K := K) (Same.new (o := .lst ((S.map (·.1)).map V.str)) nl2))
    generalize (upd H7 l2 (.lst ((S.map (·.1)).map V.str))) = H8 at *
    refine ⟨l2, S.map (·.1), rfl, SqL.of e8, by rw [List.length_map]; omega, fun zs zp pz sz' nzp => ?_⟩
    have s9 := s8.trans (Same.new (o := .lst (zs.map V.str)) nzp)
    have e9 := upd_same (H := H8) (a := zp) (o := .lst (zs.map V.str))
    have eD9 := (Same.new (o := .lst (zs.map V.str)) nzp) _ _ eD8
    have io9 := io8.tk (Tk.same (K := K) (Same.new (o := .lst (zs.map V.str)) nzp))
    generalize (upd H8 zp (.lst (zs.map V.str))) = H9 at *
    have lzs : zs.length ≤ 10 := by rw [pz.length_eq, List.length_map]; exact lS
    refine ⟨zp, rfl, ⟨_, SqL.of e9⟩, fun E2 nE => lc_list (K := K) (a := zp) (xs := zs.map V.str) (fun i H4 => ∃ jts : List (Addr × It), Same H9 H4 ∧ H4 E2 = some (.lst (irf jts)) ∧ ItsG K H4 jts ∧ jts.length = i ∧
        jts.map te = (zs.take i).map fun n => ier (.str n (cOf S n)))
      ⟨[], Same.new nE, upd_same, (fun _ m => nomatch m), rfl, rfl⟩ (fun i H4 _ hP => ?_) (fun i y H4 hy hP => ?_) (fun H4 hP => ?_)⟩
    · obtain ⟨_, s4, _⟩ := hP
      exact SqL.of (s4 _ _ e9)
    · obtain ⟨jts, s4, eE, jo, lj, js⟩ := hP
      obtain ⟨n, en, rfl⟩ := strs_get hy
      have il : i < zs.length := (List.getElem?_eq_some_iff.mp en).1
      have mn : n ∈ S.map (·.1) := pz.mem_iff.mp (List.mem_of_getElem? en)
      obtain ⟨qa, c, ec, m⟩ := mem_val mn
      have sh4 := sh.same (s9.trans s4)
      obtain ⟨u1, v1, b1, t1, erc, _, _⟩ := sh.sc _ m
      obtain ⟨pn, lc, cd⟩ := tg.s n qa c ec
      have erc' : c = [u1, v1, .int b1, .int t1] := erc
      subst erc'
      refine ⟨rfl, ?_⟩
      refine ⟨_, rfl, sz 2, fun t nt => ?_⟩
      have s5 := Same.new (o := .tup [V.str "structure", .str n]) nt
      have sh5 := sh4.same s5
      refine ⟨_, rfl, ls, _, 2, .ref ds, rfl, rfl, ((s9.trans s4).trans s5).seq hls, at_of (j := 2) rfl rfl, _, rfl, ds, _, rfl, dget_n (.inl sh5.s) ec, t, qa, _, _, rfl, rfl, SqT.of upd_same, sh5.st _ m, sz 6, (fun z => by cases z), (fun _ z => by cases z), fun _ _ u nu => ?_⟩
      have s6 := s5.trans (Same.new (o := .tup ([V.str "structure", .str n] ++ [u1, v1, .int b1, .int t1])) nu)
      have e6 := upd_same (H := upd H4 t (.tup [V.str "structure", .str n])) (a := u) (o := .tup ([V.str "structure", .str n] ++ [u1, v1, .int b1, .int t1]))
      generalize (upd (upd H4 t (.tup [V.str "structure", .str n])) u (.tup ([V.str "structure", .str n] ++ [u1, v1, .int b1, .int t1]))) = H6 at *
      have eE6 := s6 _ _ eE
      have tE : Tk K H6 (upd H6 E2 (.lst (irf jts ++ [.ref u]))) := Tk.put eE6
      refine ⟨irf jts, eE6, by rw [irf_len]; exact small (m := 1000) (by omega) (by decide), jts ++ [(u, .str n [u1, v1, .int b1, .int t1])], Same.over (s4.trans s6) nE, by rw [upd_same, irf_app]; rfl, ((jo.tk (Tk.same s6)).tk tE).app (ItsG.one (t := (u, It.str n [u1, v1, .int b1, .int t1])) ⟨tE _ _ (SqT.of e6), pn, ((cd.same (s9.trans s4)).same s6).tk tE, rfl⟩), by rw [List.length_append, lj]; rfl, ?_⟩
      rw [te_app, take_snoc' en, List.map_append, ← js]
      show _ = _ ++ [ier (.str n (cOf S n))]
      rw [cOf_eq ec]
      rfl
    · obtain ⟨jts, s4, eE, jo, lj, js⟩ := hP
      rw [List.length_map] at lj
      rw [List.length_map, List.take_length] at js
      rw [List.length_map] at li
      rw [List.length_map, List.take_length] at er
      refine ⟨D, E2, _, _, rfl, rfl, s4 _ _ eD9, eE, ?_, fun u nu => ?_⟩
      · rw [irf_len, irf_len]
        exact sz _ (by omega)
      have s5 := Same.new (o := .lst (irf its ++ irf jts)) nu
      refine q (its ++ jts) u ys fs zs _ ((s9.trans s4).trans s5) ((s9.trans s4).free nu) (by rw [upd_same, irf_app]) (((io9.tk (Tk.same s4)).app jo).tk (Tk.same s5)) (by rw [List.length_append]; omega) py sy pf sf pz sz' ?_
      rw [te_app, er, js]
      unfold allE
      rw [List.map_nil, List.append_nil]
end
end K1
namespace K1
open PySem PySem.Spec PyProof.Rows L2 Ow Tlz
def zero64 : List Int := List.replicate 64 0
theorem zero64_len : zero64.length = 64 := List.length_replicate
def fillO (cs : List (List Int)) (n : Nat) : Option (List (List Int)) := match packO cs with
  | none => none
  | some ss => if n < ss.length then none else some (ss ++ List.replicate (n - ss.length) zero64)
theorem fillO_len {cs : List (List Int)} {n : Nat} {ss : List (List Int)} (h : fillO cs n = some ss) : ss.length = n := by
  unfold fillO at h
  cases e : packO cs with
  | none => rw [e] at h; cases h
  | some us =>
    rw [e] at h
    have h' : (if n < us.length then none else some (us ++ List.replicate (n - us.length) zero64)) = some ss := h
    split at h'
    · cases h'
    · cases h'
      rw [List.length_append, List.length_replicate]
      omega
/-- a new list of new lists of numbers, or None -/
def ShRes (H : Hp) (x : V) (H' : Hp) : Option (List (List Int)) → Prop
  | none => x = .non
  | some ss => ∃ (p : Addr) (ts : List (Addr × List Int)), x = .ref p ∧ H p = none ∧ H' p = some (.lst (refs ts)) ∧ ts.map (·.2) = ss ∧ Parts H' ts ∧ (∀ t ∈ ts, H t.1 = none ∧ t.1 ≠ p) ∧
      ss.length ≤ 200 ∧ ∀ s ∈ ss, s.length ≤ 100
def spFilled (K : PySem.W.Frag) : Sp := fun vs H Q _ => ∃ (a : Addr) (rs : List (Addr × List V)) (n : Nat), vs = [.ref a, .int (n : Int)] ∧ SqL K H a (rrefs rs) ∧ RowsOk K H rs ∧ rs.length ≤ 99 ∧ n ≤ 50 ∧
  ∀ x H', Same H H' → ShRes H x H' (fillO (codes rs) n) → Q x H'
theorem refs_app (qs rs : List (Addr × List Int)) : refs (qs ++ rs) = refs qs ++ refs rs := by unfold refs; rw [List.map_append]
theorem refs_len (qs : List (Addr × List Int)) : (refs qs).length = qs.length := by unfold refs; rw [List.length_map]
abbrev sfilled : Stmt := topS 28
abbrev Nfilled : List Str := ["rows", "room", "used", "_"]
theorem scfilled : FnScope Nfilled ["rows", "room"] (defScope sfilled) := ⟨rfl, rfl, rfl, by decide +kernel, rfl, by decide +kernel, by decide +kernel⟩
abbrev N_law_filled : List Str := ["rows", "room", "used", "j", "k"]
abbrev scJ2 : Scope := { kind := .function, names := [(".0", .local), ("j", .local), ("range", .globalImplicit)], isGenerator := false, isCoroutine := false, more := [] }
section
variable {P : Program} {w : World} {K : PySem.W.Frag} {mg : Str → Option Value} {base : Heap}
theorem ok_filled {f : Addr} {fd : FuncData} (F : Fun K "filled" "filled" sfilled f fd) (T : Bl mg) (B : Sb mg)
    (Dpack : Kn P w K mg base 5 "pack" ["rows"] (spPack K)) :
    FnOk P w K mg base CX0 6 f fd ["rows", "room"] (spFilled K) := by
  obtain ⟨tB, TB⟩ := B.ex
  refine F.ok scfilled (fun vs H Q E h => ?_) (fun cdv A outer s H vs Q E hr h => ?_)
  · obtain ⟨a, rs, n, rfl, _⟩ := h
    rfl
  · obtain ⟨a, rs, n, rfl, ha, ro, lrs, ln, q⟩ := h
    refine ⟨_, (pss_cons (ps_set (i := 2) scfilled.nd rfl (.inl rfl) (pe_kn Dpack hr (pa_cons (pv 0) pa_nil)))
      (pss_cons (ps_if (PW.pt (pw_or (pt_cmpR op_isN (pv 2) pe_non (nomark _)) (pw_or1 (pt_cmpR op_gt (pe_callB call_len_seq (by rfl) T.len PySem.boot_len (pa_cons (pv 2) pa_nil)) (pv 1) (nomark _))))) (pss_one (ps_ret pe_non)) pss_nil)
      (pss_one (ps_ret (pe_op op_cat (pv 2) (pe_lc (own := [("_", 3)]) (g := gName 3) rfl scfilled.nd (pi_range1 (by rfl) T.range (pa_cons (pe_op op_sub (pv 1) (pe_callB call_len_seq (by rfl) T.len PySem.boot_len (pa_cons (pv 2) pa_nil))) pa_nil)) (blkOk_by (own := [("_", 3)]) (N := Nfilled) (sc := defScope sfilled) (by decide +kernel)) (fun _ _ _ _ _ => pg_name (i := 3) scfilled.nd rfl (Or.inl rfl)) (fun _ _ _ _ _ => pts_nil) (fun _ _ _ _ _ => (pe_op op_rep (pe_lst (pa_cons pe_int pa_nil)) (pe_gi (by rfl) TB))))))))), ?_⟩
    refine ⟨_, rfl, a, rs, rfl, ha, ro, lrs, fun x H1 s1 pr => ?_⟩
    cases ep : packO (codes rs) with
    | none =>
      rw [ep] at pr
      have ex : x = .non := pr
      subst ex
      refine ⟨_, rfl, rfl, _, rfl, ?_⟩
      refine ite2 (fun _ => ?_) (fun e => absurd (decide_eq_true rfl) e)
      refine q _ _ s1 ?_
      unfold fillO
      rw [ep]
      exact rfl
    | some ss =>
      rw [ep] at pr
      obtain ⟨p, ts, rfl, np, epp, es, pt, fr, lss, lps⟩ := pr
      have lts : ts.length = ss.length := by rw [← es, List.length_map]
      refine ⟨_, rfl, rfl, _, rfl, ?_⟩
      refine ite2 (fun e => absurd (of_decide_eq_true e) (fun z => by cases z)) (fun _ => ?_)
      refine ⟨_, rfl, p, _, rfl, .inl (SqL.of epp), _, rfl, _, _, rfl, rfl, _, rfl, ?_⟩
      rw [refs_len, lts]
      refine ite2 (fun e => ?_) (fun e => ?_)
      · have e' : (ss.length : Int) > (n : Int) := of_decide_eq_true e
        refine q _ _ s1 ?_
        unfold fillO
        rw [ep]
        show ShRes H _ H1 (if n < ss.length then none else _)
        rw [if_pos (by omega)]
        exact rfl
      · have e' : ¬ (ss.length : Int) > (n : Int) := fun z => e (decide_eq_true z)
        refine ⟨_, rfl, _, rfl, _, rfl, p, _, rfl, .inl (SqL.of epp), _, _, rfl, rfl, (n : Int) - (ts.length : Int), by rw [refs_len], by omega, by omega, fun D nD => lc_range (lo := 0) (n := ((n : Int) - (ts.length : Int)).toNat) (fun j H4 => ∃ zs : List (Addr × List Int), Same H1 H4 ∧ H4 D = some (.lst (refs zs)) ∧ zs.map (·.2) = List.replicate j zero64 ∧ Parts H4 zs ∧
            ∀ t ∈ zs, H1 t.1 = none ∧ t.1 ≠ D)
          ⟨[], Same.new nD, upd_same, rfl, (fun _ m => nomatch m), fun _ m => nomatch m⟩ (fun j H4 hj hP => ?_) (fun H4 hP => ?_)⟩
        · obtain ⟨zs, s4, eD, ez, pz, fz⟩ := hP
          have lz : zs.length = j := by
            have := congrArg List.length ez
            rw [List.length_map, List.length_replicate] at this
            exact this
          refine ⟨rfl, ?_⟩
          refine ⟨sz 1, fun u nu => ⟨u, 64, _, rfl, rfl, upd_same, by decide, by decide, by decide, fun v nv => ?_⟩⟩
          have s5 := Same.new (o := .lst [V.int 0]) nu
          have eD5 := s5 _ _ eD
          have ev : (List.replicate (64 : Int).toNat [V.int 0]).flatten = zero64.map V.int := rep_zero 64
          rw [ev]
          generalize (upd H4 u (.lst [V.int 0])) = H5 at *
          have vD : v ≠ D := fun z => by rw [z, eD5] at nv; cases nv
          have eD6 : (upd H5 v (.lst (zero64.map V.int))) D = some (.lst (refs zs)) := by rw [upd_ne vD.symm]; exact eD5
          refine ⟨refs zs, eD6, by rw [refs_len]; exact small (m := 1000) (by omega) (by decide), zs ++ [(v, zero64)], Same.over ((s4.trans s5).trans (Same.new nv)) nD, by rw [upd_same, refs_app]; rfl, by rw [List.map_append, ez, List.replicate_succ']; rfl, ?_, fun t m => ?_⟩
          · exact Parts.snoc (pz.same (s5.trans (Same.new nv))) (fun u m => (fz u m).2) vD upd_same _
          · rcases List.mem_append.mp m with m | m
            · exact fz t m
            · rw [List.mem_singleton.mp m]
              exact ⟨(s4.trans s5).free nv, vD⟩
        · obtain ⟨zs, s4, eD, ez, pz, fz⟩ := hP
          have lz : zs.length = ((n : Int) - (ts.length : Int)).toNat := by
            have := congrArg List.length ez
            rw [List.length_map, List.length_replicate] at this
            exact this
          refine ⟨p, D, _, _, rfl, rfl, s4 _ _ epp, eD, by rw [refs_len, refs_len]; exact sz _ (by omega), fun r nr => ?_⟩
          have s6 := s4.trans (Same.new (o := .lst (refs ts ++ refs zs)) nr)
          refine q _ _ (s1.trans s6) ?_
          unfold fillO
          rw [ep]
          show ShRes H _ _ (if n < ss.length then none else some (ss ++ List.replicate (n - ss.length) zero64))
          rw [if_neg (by omega)]
          refine ⟨r, ts ++ zs, rfl, (s1.trans s4).free nr, by rw [upd_same, refs_app], ?_, fun t m => ?_, fun t m => ?_, by rw [List.length_append, List.length_replicate]; omega, fun s m => ?_⟩
          · rw [List.map_append, es, ez]
            congr 2
            omega
          · rcases List.mem_append.mp m with m | m
            · exact s6 _ _ (pt t m)
            · exact (Same.new nr) _ _ (pz t m)
          · rcases List.mem_append.mp m with m | m
            · exact ⟨(fr t m).1, fun z => by have := s4 _ _ (pt t m); rw [z, nr] at this; cases this⟩
            · exact ⟨s1.free (fz t m).1, fun z => by have := pz t m; rw [z, nr] at this; cases this⟩
          · rcases List.mem_append.mp m with m | m
            · exact lps s m
            · rw [List.eq_of_mem_replicate m, zero64_len]
              decide
end
end K1
namespace K1
open PySem PySem.Spec PyProof.Rows L2 Ow Tlz
/-! structures: their columns and buckets -/
def colsS (w : Nat) : List Str := (["x", "y", "z", "w"] : List Str).take w
theorem colsV_S (w : Nat) : colsV w = (colsS w).map V.str := by
  unfold colsV colsS
  rw [List.map_take]
  rfl
def cix (w : Nat) (x : V) : Nat := (colsV w).findIdx fun y => decide (y = x)
theorem cix_lt {w : Nat} {x : V} (h : x ∈ colsV w) : cix w x < (colsV w).length := List.findIdx_lt_length_of_exists ⟨x, h, decide_eq_true rfl⟩
theorem cix_at {w : Nat} {x : V} (h : x ∈ colsV w) : (colsV w)[cix w x]? = some x := by
  have l := cix_lt h
  rw [List.getElem?_eq_getElem l]
  have := List.findIdx_getElem (w := l)
  exact congrArg some (of_decide_eq_true this)
theorem cix_min {w : Nat} {x : V} {m : Nat} (h : m < cix w x) : (colsV w)[m]? ≠ some x := fun e => by
  have := List.not_of_lt_findIdx h
  obtain ⟨p, e⟩ := List.getElem?_eq_some_iff.mp e
  rw [e, decide_eq_true rfl] at this
  cases this
def valsOf (cs : List V) (w : Nat) (row : List V) : List V := cs.map fun x => row.getD (cix w x) .non
def bkt (cs : List V) (w : Nat) (b : Int) (row : List V) : Int := buk (rowB (valsOf cs w row)) % b
structure SInfo (K : PySem.W.Frag) (H : Hp) (R S : Tb) (n rn : Str) (cs : List V) (w : Nat) (b s : Int) : Prop where
  ex : ∃ (q cc q' cr : Addr) (r : Int), valG S n = some (q, [.str rn, .ref cc, .int b, .int s]) ∧ SqT K H cc cs ∧ valG R rn = some (q', [.ref cr, .int r]) ∧ FT H cr (colsV w)
  nn : cs ≠ []
  l : cs.length ≤ 4
  sub : ∀ x ∈ cs, x ∈ colsV w
  w4 : w ≤ 4
  b1 : 1 ≤ b
  b2 : b ≤ 16
  s1 : 1 ≤ s
  s2 : s ≤ 8
theorem SInfo.tk {K : PySem.W.Frag} {H H' : Hp} {R S : Tb} {n rn : Str} {cs : List V} {w : Nat} {b s : Int} (t : Tk K H H') (h : SInfo K H R S n rn cs w b s) : SInfo K H' R S n rn cs w b s := by
  obtain ⟨⟨q, cc, q', cr, r, h1, h2, h3, h4⟩, a1, a2, a3, a4, a5, a6, a7, a8⟩ := h
  exact ⟨⟨q, cc, q', cr, r, h1, t _ _ h2, h3, t.x _ _ h4⟩, a1, a2, a3, a4, a5, a6, a7, a8⟩
section
variable {K : PySem.W.Frag} {H : Hp} {R S : Tb} {n rn : Str} {cs : List V} {w : Nat} {b s : Int}
theorem vals_at (h : SInfo K H R S n rn cs w b s) {row : List V} (lr : row.length = w) {x : V} (m : x ∈ cs) : ∃ y, row[cix w x]? = some y ∧ y ∈ row ∧ row.getD (cix w x) .non = y := by
  have l0 := cix_lt (h.sub x m)
  rw [colsV_len h.w4] at l0
  have l : cix w x < row.length := by rw [lr]; exact l0
  have e := List.getElem?_eq_getElem l
  exact ⟨_, e, List.getElem_mem l, by rw [List.getD_eq_getElem?_getD, e]; rfl⟩
theorem vals_scal (h : SInfo K H R S n rn cs w b s) {row : List V} (lr : row.length = w) (sr : ∀ x ∈ row, Scal x) : (∀ x ∈ valsOf cs w row, Scal x) ∧ (valsOf cs w row).length ≤ 10 := by
  refine ⟨fun y m => ?_, by unfold valsOf; rw [List.length_map]; have := h.l; omega⟩
  obtain ⟨x, mx, e⟩ := List.mem_map.mp m
  obtain ⟨z, _, mz, ez⟩ := vals_at h lr mx
  rw [← e, ez]
  exact sr z mz
theorem bkt_lt (h : SInfo K H R S n rn cs w b s) (row : List V) : 0 ≤ bkt cs w b row ∧ bkt cs w b row < b := by
  have := h.b1
  exact ⟨Int.emod_nonneg _ (by omega), Int.emod_lt_of_pos _ (by omega)⟩
end
/-- what is read of a State -/
structure StV (K : PySem.W.Frag) (C : Addr) (H : Hp) (x : Addr) (R : Tb) (F : Fb) (S : Tb) : Prop where
  ex : ∃ (dx dr df ds dl : Addr), H x = some (.ins C dx (flds (.ref dr) (.ref df) (.ref ds) (.ref dl))) ∧ H dr = some (.dK (kvR R)) ∧ H df = some (.dK (kvF F)) ∧ H ds = some (.dK (kvR S))
  rt : ∀ n q c, valG R n = some (q, c) → SqT K H q c
  ft : ∀ n q rs, valG F n = some (q, rs) → H q = some (.lst (rrefs rs)) ∧ RowsOk K H rs
  st : ∀ n q c, valG S n = some (q, c) → SqT K H q c
theorem StV.same {K : PySem.W.Frag} {C : Addr} {H H' : Hp} {x : Addr} {R S : Tb} {F : Fb} (h : StV K C H x R F S) (s : Same H H') : StV K C H' x R F S := by
  obtain ⟨⟨dx, dr, df, ds, dl, h1, h2, h3, h4⟩, rt, ft, st⟩ := h
  exact ⟨⟨dx, dr, df, ds, dl, s _ _ h1, s _ _ h2, s _ _ h3, s _ _ h4⟩, fun n q c e => Tk.same s _ _ (rt n q c e), fun n q rs e => ⟨s _ _ (ft n q rs e).1, (ft n q rs e).2.same s⟩, fun n q c e => Tk.same s _ _ (st n q c e)⟩
theorem StAt.v {K : PySem.W.Frag} {C x dr df ds dl : Addr} {Z : Addr → Prop} {H : Hp} {R S : Tb} {F : Fb} {L : List (Str × V)} {b : Nat} (h : StAt K C Z H x dr df ds dl R F S L b) : StV K C H x R F S := by
  obtain ⟨dx, ob⟩ := h.ob
  exact ⟨⟨dx, dr, df, ds, dl, ob, h.r, h.f, h.s⟩, fun n q c e => h.rt _ (valG_mem e), fun n q rs e => ⟨(h.ft _ (valG_mem e)).1, (h.ft _ (valG_mem e)).2.1⟩, fun n q c e => h.st _ (valG_mem e)⟩
def spColPl (K : PySem.W.Frag) (C : Addr) : Sp := fun vs H Q _ => ∃ (x : Addr) (n rn : Str) (R S : Tb) (F : Fb) (cs : List V) (w : Nat) (b s : Int), vs = [.ref x, .str n] ∧ StV K C H x R F S ∧ SInfo K H R S n rn cs w b s ∧ MkL H Q (cs.map fun x => ((cix w x : Nat) : Int))
def spBucket (K : PySem.W.Frag) (C : Addr) : Sp := fun vs H Q _ => ∃ (x r : Addr) (n rn : Str) (R S : Tb) (F : Fb) (cs : List V) (w : Nat) (b s : Int) (row : List V), vs = [.ref x, .str n, .ref r] ∧ StV K C H x R F S ∧ SInfo K H R S n rn cs w b s ∧
  SqT K H r row ∧ (∀ v ∈ row, Scal v) ∧ row.length = w ∧ ∀ H', Same H H' → Q (.int (bkt cs w b row)) H'
abbrev scolumn_places : Stmt := topS 30
abbrev Ncolumn_places : List Str := ["state", "structure", "relation", "columns", "names", "column"]
theorem sccolumn_places : FnScope Ncolumn_places ["state", "structure"] (defScope scolumn_places) := ⟨rfl, rfl, rfl, by decide +kernel, rfl, by decide +kernel, by decide +kernel⟩
abbrev sbucket : Stmt := topS 31
abbrev Nbucket : List Str := ["state", "structure", "row", "values", "at"]
theorem scbucket : FnScope Nbucket ["state", "structure", "row"] (defScope sbucket) := ⟨rfl, rfl, rfl, by decide +kernel, rfl, by decide +kernel, by decide +kernel⟩
section
variable {P : Program} {w : World} {K : PySem.W.Frag} {mg : Str → Option Value} {base : Heap} {C : Addr}
theorem ok_colpl {f : Addr} {fd : FuncData} (F0 : Fun K "column_places" "column_places" scolumn_places f fd) (X : Txt K mg C) :
    FnOk P w K mg base CX0 1 f fd ["state", "structure"] (spColPl K C) := by
  refine F0.ok sccolumn_places (fun vs H Q E h => ?_) (fun cdv A outer s0 H vs Q E hr h => ?_)
  · obtain ⟨x, n, rn, R, S, F, cs, w, b, s, rfl, _⟩ := h
    rfl
  · obtain ⟨x, n, rn, R, S, F, cs, wd, b, s, rfl, sv, si, q⟩ := h
    have hu := hu_of hr
    refine ⟨_, (pss_cons (ps_set (i := 2) sccolumn_places.nd rfl (.inl rfl) (pe_ix ix_tup (pe_dget hu (pe_fld (pv 0) rfl) (pv 1) (fun _ _ => rfl)) pe_int (fun _ _ => rfl)))
      (pss_cons (ps_set (i := 3) sccolumn_places.nd rfl (.inl rfl) (pe_ix ix_tup (pe_dget hu (pe_fld (pv 0) rfl) (pv 1) (fun _ _ => rfl)) pe_int (fun _ _ => rfl)))
      (pss_cons (ps_set (i := 4) sccolumn_places.nd rfl (.inr rfl) (pe_ix ix_tup (pe_dget hu (pe_fld (pv 0) rfl) (pv 2) (fun _ _ => rfl)) pe_int (fun _ _ => rfl)))
      (pss_one (ps_ret (pe_lc (own := [("column", 5)]) (g := gName 5) rfl sccolumn_places.nd (pi_tup (pv 3)) (blkOk_by (own := [("column", 5)]) (N := Ncolumn_places) (sc := defScope scolumn_places) (by decide +kernel)) (fun _ _ _ _ _ => pg_name (i := 5) sccolumn_places.nd rfl (Or.inl rfl)) (fun _ _ _ _ _ => pts_nil) (fun _ _ _ _ _ => (pe_bmT PySem.F.plainAttrs_tuple PySem.F.slot_tuple_index PySem.F.type_tuple_index (mt_tup_ix_K (K := K) rfl) (pv 4) (pa_cons (pv 5) pa_nil))))))))), ?_⟩
    obtain ⟨⟨dx, dr, df, ds, dl, ob, hr', hf, hs⟩, rt, ft, st⟩ := sv
    obtain ⟨qa, cc, qb, cr, r, e1, hcc, e2, hcr⟩ := si.ex
    have ht := st _ _ _ e1
    have ht2 := rt _ _ _ e2
    refine ⟨_, rfl, x, C, dx, _, _, rfl, ob, X.cl, X.nS, flds_s _ _ _ _, _, rfl, ds, _, rfl, dget_n (.inl hs) e1, qa, _, 0, .str rn, rfl, rfl, ht, at_of (j := 0) rfl rfl, ?_⟩
    refine ⟨_, rfl, x, C, dx, _, _, rfl, ob, X.cl, X.nS, flds_s _ _ _ _, _, rfl, ds, _, rfl, dget_n (.inl hs) e1, qa, _, 1, .ref cc, rfl, rfl, ht, at_of (j := 1) rfl rfl, ?_⟩
    refine ⟨_, rfl, x, C, dx, _, _, rfl, ob, X.cl, X.nR, flds_r _ _ _ _, _, rfl, dr, _, rfl, dget_n (.inl hr') e2, qb, _, 0, .ref cr, rfl, rfl, ht2, at_of (j := 0) rfl rfl, ?_⟩
    refine ⟨_, rfl, cc, rfl, ⟨_, hcc⟩, fun D nD => lc_tup (K := K) (a := cc) (xs := cs) (fun i H4 => Same H H4 ∧ H4 D = some (.lst (((cs.take i).map fun x => ((cix wd x : Nat) : Int)).map V.int)))
      ⟨Same.new nD, upd_same⟩ (fun i H4 _ hP => Tk.same hP.1 _ _ hcc) (fun i y H4 hy hP => ?_) (fun H4 hP => ?_)⟩
    · obtain ⟨s4, eD⟩ := hP
      have my := List.mem_of_getElem? hy
      have il : i < cs.length := (List.getElem?_eq_some_iff.mp hy).1
      have msub := si.sub y my
      obtain ⟨z, rfl, _⟩ := colsV_strs wd y msub
      have lcs := si.l
      refine ⟨rfl, ?_⟩
      refine ⟨_, rfl, ⟨cr, _, rfl, (Tk.same (K := K) s4).x _ _ hcr⟩, _, rfl, cr, colsS wd, z, cix wd (.str z), rfl, rfl, by rw [← colsV_S]; exact Tk.same s4 _ _ hcr.sq, ?_, fun m hm e => ?_, _, eD, ?_, Same.over s4 nD, ?_⟩
      · have := cix_at msub
        rw [colsV_S, List.getElem?_map] at this
        cases c : (colsS wd)[cix wd (V.str z)]? with
        | none => rw [c] at this; cases this
        | some u => rw [c] at this; rw [V.str.inj (Option.some.inj this)]
      · refine cix_min hm ?_
        rw [colsV_S, List.getElem?_map, e]
        rfl
      · rw [List.length_map, List.length_map, List.length_take]
        exact small (m := 1000) (by omega) (by decide)
      · rw [upd_same, take_snoc' hy, List.map_append, List.map_append]
        rfl
    · obtain ⟨s4, eD⟩ := hP
      rw [List.take_length] at eD
      exact q _ _ s4 nD eD
theorem ok_bucket {f : Addr} {fd : FuncData} (F0 : Fun K "bucket" "bucket" sbucket f fd) (T : Bl mg) (X : Txt K mg C)
    (Dcolumn_places : Kn P w K mg base 1 "column_places" ["state", "structure"] (spColPl K C))
    (Dbucket_of_values : Kn P w K mg base 5 "bucket_of_values" ["values", "buckets"] (spBuck K)) :
    FnOk P w K mg base CX0 6 f fd ["state", "structure", "row"] (spBucket K C) := by
  refine F0.ok scbucket (fun vs H Q E h => ?_) (fun cdv A outer s0 H vs Q E hr h => ?_)
  · obtain ⟨x, r, n, rn, R, S, F, cs, w, b, s, row, rfl, _⟩ := h
    rfl
  · obtain ⟨x, r, n, rn, R, S, F, cs, wd, b, s, row, rfl, sv, si, hrow, srow, lrow, q⟩ := h
    have hu := hu_of hr
    refine ⟨_, (pss_cons (ps_set (i := 3) scbucket.nd rfl (.inl rfl) (pe_callTy call_tuple_of (by rfl) T.tuple (by decide +kernel) (pa_cons (pe_lc (own := [("at", 4)]) (g := gName 4) rfl scbucket.nd (pi_list (pe_kn Dcolumn_places hr (pa_cons (pv 0) (pa_cons (pv 1) pa_nil)))) (blkOk_by (own := [("at", 4)]) (N := Nbucket) (sc := defScope sbucket) (by decide +kernel)) (fun _ _ _ _ _ => pg_name (i := 4) scbucket.nd rfl (Or.inl rfl)) (fun _ _ _ _ _ => pts_nil) (fun _ _ _ _ _ => (pe_ix (ix_tup_K (K := K) rfl) (pv 2) (pv 4) (fun _ _ => rfl)))) pa_nil)))
      (pss_one (ps_ret (pe_kn Dbucket_of_values hr (pa_cons (pv 3) (pa_cons (pe_ix ix_tup (pe_dget hu (pe_fld (pv 0) rfl) (pv 1) (fun _ _ => rfl)) pe_int (fun _ _ => rfl)) pa_nil)))))), ?_⟩
    refine ⟨_, rfl, _, rfl, x, n, rn, R, S, F, cs, wd, b, s, rfl, sv, si, fun H1 lp s1 nlp elp => ?_⟩
    refine ⟨lp, rfl, ⟨_, SqL.of elp⟩, fun D nD => lc_list (K := K) (a := lp) (xs := (cs.map fun x => ((cix wd x : Nat) : Int)).map V.int) (fun i H4 => Same H1 H4 ∧ H4 D = some (.lst (valsOf (cs.take i) wd row)))
      ⟨Same.new nD, upd_same⟩ (fun i H4 _ hP => SqL.of (hP.1 _ _ elp)) (fun i y H4 hy hP => ?_) (fun H4 hP => ?_)⟩
    · obtain ⟨s4, eD⟩ := hP
      rw [List.getElem?_map, List.getElem?_map] at hy
      cases ec : cs[i]? with
      | none => rw [ec] at hy; cases hy
      | some c =>
        rw [ec] at hy
        have ey : V.int ((cix wd c : Nat) : Int) = y := Option.some.inj hy
        subst ey
        obtain ⟨v, hv, mv, ev⟩ := vals_at si lrow (List.mem_of_getElem? ec)
        have il : i < cs.length := (List.getElem?_eq_some_iff.mp ec).1
        have lcs := si.l
        refine ⟨rfl, ?_⟩
        refine ⟨_, rfl, _, rfl, r, row, _, v, rfl, rfl, Tk.same (s1.trans s4) _ _ hrow, at_of (j := cix wd c) rfl hv, _, eD, ?_, Same.over s4 nD, ?_⟩
        · unfold valsOf
          rw [List.length_map, List.length_take]
          exact small (m := 1000) (by omega) (by decide)
        · rw [upd_same, take_snoc' ec]
          unfold valsOf
          rw [List.map_append]
          show _ = some (HO.lst (_ ++ [row.getD (cix wd c) .non]))
          rw [ev]
    obtain ⟨s4, eD⟩ := hP
    rw [List.length_map, List.length_map, List.take_length] at eD
    refine ⟨D, _, rfl, .inl ⟨SqL.of eD, fun tl ntl => ?_⟩⟩
    have s5 := (s1.trans s4).trans (Same.new (o := .tup (valsOf cs wd row)) ntl)
    have e5 := upd_same (H := H4) (a := tl) (o := .tup (valsOf cs wd row))
    generalize (upd H4 tl (.tup (valsOf cs wd row))) = H5 at *
    obtain ⟨⟨dx, dr, df, ds, dl, ob, hr', hf, hs⟩, rt, ft, st⟩ := sv.same s5
    obtain ⟨qa, cc, qb, cr, r', e1, hcc, e2, hcr⟩ := si.ex
    obtain ⟨sc, lc⟩ := vals_scal si lrow srow
    have := si.b1
    refine ⟨_, rfl, _, rfl, x, C, dx, _, _, rfl, ob, X.cl, X.nS, flds_s _ _ _ _, _, rfl, ds, _, rfl, dget_n (.inl hs) e1, qa, _, 2, .int b, rfl, rfl, st _ _ _ e1, at_of (j := 2) rfl rfl, tl, _, b, rfl, SqT.of e5, sc, lc, by omega, fun H6 s6 => ?_⟩
    exact q _ (s5.trans s6)
end
end K1
namespace K1
open PySem PySem.Spec PyProof.Rows L2 Ow Tlz
abbrev Rw := List (Addr × List V)
def grp (cs : List V) (w : Nat) (b : Int) (rs : Rw) : List Rw := (List.range b.toNat).map fun (k : Nat) => rs.filter fun t => decide (bkt cs w b t.2 = (k : Int))
theorem grp_len (cs : List V) (w : Nat) (b : Int) (rs : Rw) : (grp cs w b rs).length = b.toNat := by unfold grp; rw [List.length_map, List.length_range]
theorem grp_at {cs : List V} {w : Nat} {b : Int} {rs : Rw} {k : Nat} (h : k < b.toNat) : (grp cs w b rs)[k]? = some (rs.filter fun t => decide (bkt cs w b t.2 = (k : Int))) := by
  unfold grp
  rw [List.getElem?_map, List.getElem?_range h]
  rfl
theorem grp_nil (cs : List V) (w : Nat) (b : Int) : grp cs w b [] = List.replicate b.toNat [] := by
  unfold grp
  refine List.ext_getElem? fun k => ?_
  rw [List.getElem?_map, List.getElem?_replicate]
  by_cases h : k < b.toNat
  · rw [List.getElem?_range h, if_pos h]
    rfl
  · rw [List.getElem?_eq_none (by rw [List.length_range]; omega), if_neg h]
    rfl
theorem grp_snoc {cs : List V} {w : Nat} {b : Int} {rs : Rw} {t : Addr × List V} {k : Nat} (e : bkt cs w b t.2 = (k : Int)) (h : k < b.toNat) : grp cs w b (rs ++ [t]) = (grp cs w b rs).set k ((rs.filter fun t => decide (bkt cs w b t.2 = (k : Int))) ++ [t]) := by
  refine List.ext_getElem? fun j => ?_
  rw [List.getElem?_set]
  by_cases hj : k = j
  · subst hj
    rw [if_pos rfl, grp_len, if_pos h, grp_at h, List.filter_append, List.filter_cons, List.filter_nil, if_pos (decide_eq_true e)]
  · rw [if_neg hj]
    by_cases hl : j < b.toNat
    · rw [grp_at hl, grp_at hl, List.filter_append, List.filter_cons, List.filter_nil, if_neg (fun z => hj (by have := of_decide_eq_true z; rw [e] at this; omega)), List.append_nil]
    · rw [List.getElem?_eq_none (by rw [grp_len]; omega), List.getElem?_eq_none (by rw [grp_len]; omega)]
abbrev Bk := List (Addr × Rw)
def brefs (bs : Bk) : List V := bs.map fun t => .ref t.1
theorem brefs_get {bs : Bk} {i : Nat} {x : V} (h : (brefs bs)[i]? = some x) : ∃ t, bs[i]? = some t ∧ x = .ref t.1 := by
  unfold brefs at h
  rw [List.getElem?_map] at h
  cases e : bs[i]? with
  | none => rw [e] at h; cases h
  | some t => rw [e] at h; exact ⟨t, rfl, (Option.some.inj h).symm⟩
theorem brefs_len (bs : Bk) : (brefs bs).length = bs.length := by unfold brefs; rw [List.length_map]
def catO : List (Option (List (List Int))) → Option (List (List Int))
  | [] => some []
  | none :: _ => none
  | some x :: r => (catO r).map (x ++ ·)
theorem catO_none : ∀ {xs : List (Option (List (List Int)))}, none ∈ xs → catO xs = none
  | none :: _, _ => rfl
  | some x :: r, h => by
    rcases List.mem_cons.mp h with e | h
    · cases e
    · show (catO r).map (x ++ ·) = none
      rw [catO_none h]
      rfl
theorem catO_app : ∀ {xs : List (Option (List (List Int)))} {a x : List (List Int)}, catO xs = some a → catO (xs ++ [some x]) = some (a ++ x)
  | [], a, x, h => by
    cases h
    show (catO []).map (x ++ ·) = some ([] ++ x)
    show some (x ++ []) = _
    rw [List.append_nil, List.nil_append]
  | none :: _, a, x, h => by cases h
  | some y :: r, a, x, h => by
    have h' : (catO r).map (y ++ ·) = some a := h
    cases e : catO r with
    | none => rw [e] at h'; cases h'
    | some c =>
      rw [e] at h'
      have h2 : y ++ c = a := Option.some.inj h'
      show (catO (r ++ [some x])).map (y ++ ·) = _
      rw [catO_app e, ← h2]
      show some (y ++ (c ++ x)) = _
      rw [List.append_assoc]
def strO (cs : List V) (w : Nat) (b s : Int) (rs : Rw) : Option (List (List Int)) := catO ((grp cs w b rs).map fun r => fillO (codes r) s.toNat)
def spRBB (K : PySem.W.Frag) (C : Addr) : Sp := fun vs H Q _ => ∃ (x : Addr) (n rn : Str) (R S : Tb) (F : Fb) (cs : List V) (w : Nat) (b s : Int) (qf : Addr) (rs : Rw), vs = [.ref x, .str n] ∧ StV K C H x R F S ∧ SInfo K H R S n rn cs w b s ∧
  valG F rn = some (qf, rs) ∧ rs.length ≤ 90 ∧ (∀ t ∈ rs, t.2.length = w) ∧
  ∀ (p : Addr) (bs : Bk) H', Same H H' → H p = none → H' p = some (.lst (brefs bs)) → (∀ t ∈ bs, H' t.1 = some (.lst (rrefs t.2)) ∧ H t.1 = none) → bs.map (·.2) = grp cs w b rs → Q (.ref p) H'
abbrev srows_by_bucket : Stmt := topS 32
abbrev Nrows_by_bucket : List Str := ["state", "structure", "relation", "lists", "row", "_"]
theorem scrows_by_bucket : FnScope Nrows_by_bucket ["state", "structure"] (defScope srows_by_bucket) := ⟨rfl, rfl, rfl, by decide +kernel, rfl, by decide +kernel, by decide +kernel⟩
abbrev srelation_shape : Stmt := topS 33
abbrev Nrelation_shape : List Str := ["state", "name"]
theorem screlation_shape : FnScope Nrelation_shape ["state", "name"] (defScope srelation_shape) := ⟨rfl, rfl, rfl, by decide +kernel, rfl, by decide +kernel, by decide +kernel⟩
abbrev sstructure_shape : Stmt := topS 34
abbrev Nstructure_shape : List Str := ["state", "name", "room", "sectors", "rows", "part"]
theorem scstructure_shape : FnScope Nstructure_shape ["state", "name"] (defScope sstructure_shape) := ⟨rfl, rfl, rfl, by decide +kernel, rfl, by decide +kernel, by decide +kernel⟩
def spRelSh (K : PySem.W.Frag) (C : Addr) : Sp := fun vs H Q _ => ∃ (x : Addr) (n : Str) (R S : Tb) (F : Fb) (q q' c : Addr) (r : Int) (rs : Rw), vs = [.ref x, .str n] ∧ StV K C H x R F S ∧ valG R n = some (q, [.ref c, .int r]) ∧ valG F n = some (q', rs) ∧ 1 ≤ r ∧ r ≤ 40 ∧ rs.length ≤ 90 ∧
  ∀ y H', Same H H' → ShRes H y H' (fillO (codes rs) r.toNat) → Q y H'
def spStrSh (K : PySem.W.Frag) (C : Addr) : Sp := fun vs H Q _ => ∃ (x : Addr) (n rn : Str) (R S : Tb) (F : Fb) (cs : List V) (w : Nat) (b s : Int) (qf : Addr) (rs : Rw), vs = [.ref x, .str n] ∧ StV K C H x R F S ∧ SInfo K H R S n rn cs w b s ∧
  valG F rn = some (qf, rs) ∧ rs.length ≤ 90 ∧ (∀ t ∈ rs, t.2.length = w) ∧ ∀ y H', Same H H' → ShRes H y H' (strO cs w b s rs) → Q y H'
section
variable {P : Program} {w : World} {K : PySem.W.Frag} {mg : Str → Option Value} {base : Heap} {C : Addr}
theorem ok_rbb {f : Addr} {fd : FuncData} (F0 : Fun K "rows_by_bucket" "rows_by_bucket" srows_by_bucket f fd) (T : Bl mg) (X : Txt K mg C)
    (Dbucket : Kn P w K mg base 6 "bucket" ["state", "structure", "row"] (spBucket K C)) :
    FnOk P w K mg base CX0 7 f fd ["state", "structure"] (spRBB K C) := by
  refine F0.ok scrows_by_bucket (fun vs H Q E h => ?_) (fun cdv A outer s0 H vs Q E hr h => ?_)
  · obtain ⟨x, n, rn, R, S, F, cs, w, b, s, qf, rs, rfl, _⟩ := h
    rfl
  · obtain ⟨x, n, rn, R, S, F, cs, wd, b, s, qf, rs, rfl, sv, si, ef, lrs, wid, q⟩ := h
    have hu := hu_of hr
    refine ⟨_, (pss_cons (ps_set (i := 2) scrows_by_bucket.nd rfl (.inl rfl) (pe_ix ix_tup (pe_dget hu (pe_fld (pv 0) rfl) (pv 1) (fun _ _ => rfl)) pe_int (fun _ _ => rfl)))
      (pss_cons (ps_setLc (i := 3) (own := [("_", 5)]) (g := gName 5) rfl scrows_by_bucket.nd rfl rfl (sw_true rfl rfl rfl (by decide +kernel)) (pi_range1 (by rfl) T.range (pa_cons (pe_ix ix_tup (pe_dget hu (pe_fld (pv 0) rfl) (pv 1) (fun _ _ => rfl)) pe_int (fun _ _ => rfl)) pa_nil)) (blkOk_by (own := [("_", 5)]) (N := Nrows_by_bucket) (sc := defScope srows_by_bucket) (by decide +kernel)) (fun _ _ _ _ _ => pg_name (i := 5) scrows_by_bucket.nd rfl (Or.inl rfl)) (fun _ _ _ _ _ => pts_nil) (fun _ _ _ _ _ => (pe_lst pa_nil)))
      (pss_cons (ps_for PassesOwn.never rfl (pi_list (pe_dget hu (pe_fld (pv 0) rfl) (pv 2) (fun _ _ => rfl))) (pg_name (i := 4) scrows_by_bucket.nd rfl (.inl rfl)) (pss_one (ps_expr (pe_bm PySem.F.plainAttrs_list PySem.F.slot_list_append PySem.F.type_list_append mt_append (pe_ix ix_list (pv 3) (pe_kn Dbucket hr (pa_cons (pv 0) (pa_cons (pv 1) (pa_cons (pv 4) pa_nil)))) (fun _ _ => rfl)) (pa_cons (pv 4) pa_nil)))))
      (pss_one (ps_ret (pv 3)))))), ?_⟩
    obtain ⟨⟨dx, dr, df, ds, dl, ob, hr', hf, hs⟩, rt, ft, st⟩ := id sv
    obtain ⟨qa, cc, qb, cr, r, e1, hcc, e2, hcr⟩ := si.ex
    have ht := st _ _ _ e1
    have b1 := si.b1
    have b2 := si.b2
    obtain ⟨hqf, ro⟩ := ft _ _ _ ef
    refine ⟨_, rfl, x, C, dx, _, _, rfl, ob, X.cl, X.nS, flds_s _ _ _ _, _, rfl, ds, _, rfl, dget_n (.inl hs) e1, qa, _, 0, .str rn, rfl, rfl, ht, at_of (j := 0) rfl rfl, ?_⟩
    refine ⟨_, rfl, x, C, dx, _, _, rfl, ob, X.cl, X.nS, flds_s _ _ _ _, _, rfl, ds, _, rfl, dget_n (.inl hs) e1, qa, _, 2, .int b, rfl, rfl, ht, at_of (j := 2) rfl rfl, b, rfl, by omega, by omega, fun D nD => lc_range (lo := 0) (n := b.toNat) (fun i H4 => ∃ bs : Bk, Same H H4 ∧ H4 D = some (.lst (brefs bs)) ∧ bs.map (·.2) = List.replicate i [] ∧ (∀ t ∈ bs, H4 t.1 = some (.lst (rrefs t.2)) ∧ H t.1 = none ∧ t.1 ≠ D) ∧ bs.Pairwise fun a b => a.1 ≠ b.1)
      ⟨[], Same.new nD, upd_same, rfl, (fun _ m => nomatch m), .nil⟩ (fun i H4 hi hP => ?_) (fun H4 hP => ?_)⟩
    · obtain ⟨bs, s4, eD, eb, hb, pw⟩ := hP
      have lb : bs.length = i := by
        have := congrArg List.length eb
        rw [List.length_map, List.length_replicate] at this
        exact this
      refine ⟨rfl, ?_⟩
      refine ⟨sz 0, fun u nu => ?_⟩
      have s5 := Same.new (o := .lst []) nu
      have uD : u ≠ D := fun z => by rw [z, eD] at nu; cases nu
      refine ⟨brefs bs, s5 _ _ eD, by rw [brefs_len]; exact small (m := 1000) (by omega) (by decide), bs ++ [(u, [])], Same.over (s4.trans s5) nD, by rw [upd_same]; unfold brefs; rw [List.map_append]; rfl, by rw [List.map_append, eb, List.replicate_succ']; rfl, fun t m => ?_, ?_⟩
      · rcases List.mem_append.mp m with m | m
        · obtain ⟨h1, h2, h3⟩ := hb t m
          exact ⟨by rw [upd_ne h3]; exact s5 _ _ h1, h2, h3⟩
        · rw [List.mem_singleton.mp m]
          exact ⟨by rw [upd_ne uD]; exact upd_same, s4.free nu, uD⟩
      · rw [List.pairwise_append]
        refine ⟨pw, List.pairwise_singleton _ _, fun a ma c mc => ?_⟩
        rw [List.mem_singleton.mp mc]
        exact ne_of_none (hb a ma).1 nu
    obtain ⟨bs0, s4, eD, eb, hb, pw⟩ := hP
    rw [← grp_nil cs wd b] at eb
    refine ⟨_, rfl, x, C, dx, _, _, rfl, s4 _ _ ob, X.cl, X.nF, flds_f _ _ _ _, _, rfl, df, _, rfl, dgetF (.inl (s4 _ _ hf)) ef, qf, rfl, ⟨_, SqL.of (s4 _ _ hqf)⟩, for_list (K := K) (a := qf) (xs := rrefs rs) (fun i σ H5 => ∃ (y4 : Option V) (bs : Bk), σ = [some (.ref x), some (.str n), some (.str rn), some (.ref D), y4, none] ∧ Same H H5 ∧ H5 D = some (.lst (brefs bs)) ∧ bs.map (·.2) = grp cs wd b (rs.take i) ∧
        (∀ t ∈ bs, H5 t.1 = some (.lst (rrefs t.2)) ∧ H t.1 = none ∧ t.1 ≠ D) ∧ bs.Pairwise fun a b => a.1 ≠ b.1)
      ⟨none, bs0, rfl, s4, eD, eb, hb, pw⟩ (fun i σ H5 _ hP => ?_) (fun i y σ H5 hy hP => ?_) (fun σ H5 hP => ?_)⟩
    · obtain ⟨_, _, _, s5, _⟩ := hP
      exact SqL.of (s5 _ _ hqf)
    · obtain ⟨y4, bs, rfl, s5, eD, eb, hb, pw⟩ := hP
      obtain ⟨t, et, rfl⟩ := rrefs_get hy
      have mt := List.mem_of_getElem? et
      have il : i < rs.length := (List.getElem?_eq_some_iff.mp et).1
      obtain ⟨htt, stt, ltt⟩ := ro t mt
      obtain ⟨k0, k1⟩ := bkt_lt si t.2
      refine ⟨_, rfl, _, rfl, _, rfl, _, rfl, x, t.1, n, rn, R, S, F, cs, wd, b, s, t.2, rfl, sv.same s5, si.tk (Tk.same s5), Tk.same s5 _ _ htt, stt, wid t mt, fun H6 s6 => ?_⟩
      obtain ⟨k, ek⟩ : ∃ k : Nat, bkt cs wd b t.2 = (k : Int) := ⟨(bkt cs wd b t.2).toNat, by omega⟩
      have lb : bs.length = b.toNat := by
        have := congrArg List.length eb
        rw [List.length_map, grp_len] at this
        exact this
      have kb : k < b.toNat := by omega
      have kl : k < bs.length := by omega
      have ebk : bs[k]? = some bs[k] := List.getElem?_eq_getElem kl
      have mb := List.getElem_mem kl
      have er : bs[k].2 = (rs.take i).filter fun t => decide (bkt cs wd b t.2 = (k : Int)) := by
        have h1 := grp_at (cs := cs) (w := wd) (rs := rs.take i) kb
        rw [← eb, List.getElem?_map, ebk] at h1
        exact Option.some.inj h1
      obtain ⟨h1, h2, h3⟩ := hb _ mb
      have lfl : bs[k].2.length ≤ 90 := by
        rw [er]
        have := List.length_filter_le (fun t => decide (bkt cs wd b t.2 = (k : Int))) (rs.take i)
        rw [List.length_take] at this
        omega
      rw [ek]
      have eD6 := s6 _ _ eD
      have h16 := s6 _ _ h1
      refine ⟨D, _, _, .ref bs[k].1, rfl, rfl, SqL.of eD6, at_of (j := k) rfl (by unfold brefs; rw [List.getElem?_map, ebk]; rfl), .inl ⟨rfl, _, SqL.of h16⟩, _, rfl, bs[k].1, _, _, rfl, rfl, h16, by rw [rrefs_len]; exact small (m := 1000) (by omega) (by decide), ?_⟩
      refine ⟨some (.ref t.1), bs.set k (bs[k].1, bs[k].2 ++ [t]), rfl, Same.over (s5.trans s6) h2, ?_, ?_, fun u mu => ?_, ?_⟩
      · rw [upd_ne h3.symm, eD6]
        unfold brefs
        rw [List.map_set]
        congr 2
        refine List.ext_getElem? fun j => ?_
        rw [List.getElem?_set]
        by_cases hj : k = j
        · subst hj
          rw [if_pos rfl, List.length_map, if_pos kl, List.getElem?_map, ebk]
          rfl
        · rw [if_neg hj]
      · rw [List.map_set, eb, take_snoc' et, grp_snoc ek kb, ← er]
      · rcases List.mem_or_eq_of_mem_set mu with m | m
        · by_cases z : u.1 = bs[k].1
          · obtain ⟨j, hj, ej⟩ := List.mem_iff_getElem.mp mu
            rw [List.length_set] at hj
            rw [List.getElem_set] at ej
            by_cases hjk : k = j
            · rw [if_pos hjk] at ej
              rw [← ej]
              exact ⟨by rw [upd_same]; show _ = some (HO.lst (rrefs (bs[k].2 ++ [t]))); rw [rrefs_snoc], h2, h3⟩
            · rw [if_neg hjk] at ej
              rw [← ej] at z
              rcases Nat.lt_or_gt_of_ne hjk with c | c
              · exact absurd z.symm (List.pairwise_iff_getElem.mp pw k j kl hj c)
              · exact absurd z (List.pairwise_iff_getElem.mp pw j k hj kl c)
          · obtain ⟨g1, g2, g3⟩ := hb u m
            exact ⟨by rw [upd_ne z]; exact s6 _ _ g1, g2, g3⟩
        · rw [m]
          exact ⟨by rw [upd_same]; show _ = some (HO.lst (rrefs (bs[k].2 ++ [t]))); rw [rrefs_snoc], h2, h3⟩
      · refine List.pairwise_iff_getElem.mpr fun i1 i2 h1' h2' hlt => ?_
        rw [List.length_set] at h1' h2'
        have key : ∀ j (hj : j < (bs.set k (bs[k].1, bs[k].2 ++ [t])).length), ((bs.set k (bs[k].1, bs[k].2 ++ [t]))[j]).1 = (bs[j]'(by rw [List.length_set] at hj; exact hj)).1 := fun j hj => by
          rw [List.getElem_set]
          split
          · rename_i z; subst z; rfl
          · rfl
        rw [key, key]
        exact List.pairwise_iff_getElem.mp pw i1 i2 h1' h2' hlt
    · obtain ⟨y4, bs, rfl, s5, eD, eb, hb, pw⟩ := hP
      rw [rrefs_len, List.take_length] at eb
      exact ⟨_, rfl, q D bs _ s5 nD eD (fun t m => ⟨(hb t m).1, (hb t m).2.1⟩) eb⟩
theorem ok_relsh {f : Addr} {fd : FuncData} (F0 : Fun K "relation_shape" "relation_shape" srelation_shape f fd) (X : Txt K mg C)
    (Dfilled : Kn P w K mg base 6 "filled" ["rows", "room"] (spFilled K)) :
    FnOk P w K mg base CX0 7 f fd ["state", "name"] (spRelSh K C) := by
  refine F0.ok screlation_shape (fun vs H Q E h => ?_) (fun cdv A outer s0 H vs Q E hr h => ?_)
  · obtain ⟨x, n, R, S, F, q, q', c, r, rs, rfl, _⟩ := h
    rfl
  · obtain ⟨x, n, R, S, F, qa, qb, c, r, rs, rfl, sv, eR, eF, r1, r2, lrs, q⟩ := h
    have hu := hu_of hr
    refine ⟨_, (pss_one (ps_ret (pe_kn Dfilled hr (pa_cons (pe_dget hu (pe_fld (pv 0) rfl) (pv 1) (fun _ _ => rfl)) (pa_cons (pe_ix ix_tup (pe_dget hu (pe_fld (pv 0) rfl) (pv 1) (fun _ _ => rfl)) pe_int (fun _ _ => rfl)) pa_nil))))), ?_⟩
    obtain ⟨⟨dx, dr, df, ds, dl, ob, hr', hf, hs⟩, rt, ft, st⟩ := sv
    obtain ⟨hq, ro⟩ := ft _ _ _ eF
    refine ⟨_, rfl, x, C, dx, _, _, rfl, ob, X.cl, X.nF, flds_f _ _ _ _, _, rfl, df, _, rfl, dgetF (.inl hf) eF, ?_⟩
    refine ⟨_, rfl, x, C, dx, _, _, rfl, ob, X.cl, X.nR, flds_r _ _ _ _, _, rfl, dr, _, rfl, dget_n (.inl hr') eR, qa, _, 1, .int r, rfl, rfl, rt _ _ _ eR, at_of (j := 1) rfl rfl, ?_⟩
    exact ⟨qb, rs, r.toNat, by rw [Int.toNat_of_nonneg (by omega)]; rfl, SqL.of hq, ro, by omega, by omega, q⟩
theorem ok_strsh {f : Addr} {fd : FuncData} (F0 : Fun K "structure_shape" "structure_shape" sstructure_shape f fd) (X : Txt K mg C)
    (Drows_by_bucket : Kn P w K mg base 7 "rows_by_bucket" ["state", "structure"] (spRBB K C))
    (Dfilled : Kn P w K mg base 6 "filled" ["rows", "room"] (spFilled K)) :
    FnOk P w K mg base CX0 8 f fd ["state", "name"] (spStrSh K C) := by
  refine F0.ok scstructure_shape (fun vs H Q E h => ?_) (fun cdv A outer s0 H vs Q E hr h => ?_)
  · obtain ⟨x, n, rn, R, S, F, cs, w, b, s, qf, rs, rfl, _⟩ := h
    rfl
  · obtain ⟨x, n, rn, R, S, F, cs, wd, b, s, qf, rs, rfl, sv, si, ef, lrs, wid, q⟩ := h
    have hu := hu_of hr
    refine ⟨_, (pss_cons (ps_set (i := 2) scstructure_shape.nd rfl (.inl rfl) (pe_ix ix_tup (pe_dget hu (pe_fld (pv 0) rfl) (pv 1) (fun _ _ => rfl)) pe_int (fun _ _ => rfl)))
      (pss_cons (ps_set (i := 3) scstructure_shape.nd rfl (.inl rfl) (pe_lst pa_nil))
      (pss_cons (ps_for PassesOwn.never rfl (pi_list (pe_kn Drows_by_bucket hr (pa_cons (pv 0) (pa_cons (pv 1) pa_nil)))) (pg_name (i := 4) scstructure_shape.nd rfl (.inl rfl)) (pss_cons (ps_set (i := 5) scstructure_shape.nd rfl (.inl rfl) (pe_kn Dfilled hr (pa_cons (pv 4) (pa_cons (pv 2) pa_nil))))
      (pss_cons (ps_if (pt_cmpR op_isN (pv 5) pe_non (nomark _)) (pss_one (ps_ret pe_non)) pss_nil)
      (pss_one (ps_expr (pe_bm PySem.F.plainAttrs_list PySem.F.slot_list_extend PySem.F.type_list_extend mt_extend (pv 3) (pa_cons (pv 5) pa_nil)))))))
      (pss_one (ps_ret (pv 3)))))), ?_⟩
    obtain ⟨⟨dx, dr, df, ds, dl, ob, hr', hf, hs⟩, rt, ft, st⟩ := id sv
    obtain ⟨qa, cc, qb, cr, r, e1, hcc, e2, hcr⟩ := si.ex
    have b1 := si.b1
    have b2 := si.b2
    have s1' := si.s1
    have s2' := si.s2
    obtain ⟨hqf, ro⟩ := ft _ _ _ ef
    refine ⟨_, rfl, x, C, dx, _, _, rfl, ob, X.cl, X.nS, flds_s _ _ _ _, _, rfl, ds, _, rfl, dget_n (.inl hs) e1, qa, _, 3, .int s, rfl, rfl, st _ _ _ e1, at_of (j := 3) rfl rfl, ?_⟩
    refine ⟨sz 0, fun D nD => ?_⟩
    have s1 := Same.new (o := .lst []) nD
    have eD := upd_same (H := H) (a := D) (o := .lst [])
    generalize (upd H D (.lst [])) = H1 at *
    refine ⟨_, rfl, _, rfl, x, n, rn, R, S, F, cs, wd, b, s, qf, rs, rfl, sv.same s1, si.tk (Tk.same s1), ef, lrs, wid, fun lp bs H2 s2 nlp elp hb eb => ?_⟩
    have lb : bs.length = b.toNat := by
      have := congrArg List.length eb
      rw [List.length_map, grp_len] at this
      exact this
    have eD2 := s2 _ _ eD
    have lD : lp ≠ D := fun z => by rw [z, eD] at nlp; cases nlp
    have bD : ∀ t ∈ bs, t.1 ≠ D ∨ True := fun t m => .inr trivial
    have s12 := s1.trans s2
    refine ⟨lp, rfl, ⟨_, SqL.of elp⟩, for_list (K := K) (a := lp) (xs := brefs bs) (fun i σ H4 => ∃ (y4 y5 : Option V) (ts : List (Addr × List Int)), σ = [some (.ref x), some (.str n), some (.int s), some (.ref D), y4, y5] ∧ Same H H4 ∧ H4 lp = some (.lst (brefs bs)) ∧ (∀ t ∈ bs, t.1 = D ∨ H4 t.1 = some (.lst (rrefs t.2))) ∧ H4 D = some (.lst (refs ts)) ∧ Parts H4 ts ∧ (∀ t ∈ ts, H t.1 = none ∧ t.1 ≠ D) ∧
        catO (((grp cs wd b rs).take i).map fun r => fillO (codes r) s.toNat) = some (ts.map (·.2)) ∧ ts.length = i * s.toNat ∧ ∀ t ∈ ts, t.2.length ≤ 100)
      ⟨none, none, [], rfl, s12, elp, fun t m => .inr (hb t m).1, eD2, (fun _ m => nomatch m), (fun _ m => nomatch m), rfl, by simp, fun _ m => nomatch m⟩ (fun i σ H4 _ hP => ?_) (fun i y σ H4 hy hP => ?_) (fun σ H4 hP => ?_)⟩
    · obtain ⟨_, _, _, _, _, h, _⟩ := hP
      exact SqL.of h
    · obtain ⟨y4, y5, ts, rfl, s4, el4, hb4, eD4, pt, fr, ec, lt, l1⟩ := hP
      obtain ⟨t, et, rfl⟩ := brefs_get hy
      have mt := List.mem_of_getElem? et
      have il : i < bs.length := (List.getElem?_eq_some_iff.mp et).1
      have eg : (grp cs wd b rs)[i]? = some t.2 := by rw [← eb, List.getElem?_map, et]; rfl
      have et2 : t.2 = rs.filter fun t => decide (bkt cs wd b t.2 = (i : Int)) := by
        rw [grp_at (by omega)] at eg
        exact (Option.some.inj eg).symm
      have tD : t.1 ≠ D := fun z => by
        have h1 := (hb t mt).2
        rw [z, eD] at h1
        cases h1
      have ht := (hb4 t mt).resolve_left tD
      have rok : RowsOk K H4 t.2 := fun u mu => by
        rw [et2] at mu
        exact (ro.same s4) u (List.mem_filter.mp mu).1
      have lt2 : t.2.length ≤ 90 := by
        rw [et2]
        exact Nat.le_trans (List.length_filter_le _ _) lrs
      refine ⟨_, rfl, _, rfl, t.1, t.2, s.toNat, by rw [Int.toNat_of_nonneg (by omega)]; rfl, SqL.of ht, rok, by omega, by omega, fun y H5 s5 pr => ?_⟩
      have ec2 : ((grp cs wd b rs).take (i + 1)).map (fun r => fillO (codes r) s.toNat) = ((grp cs wd b rs).take i).map (fun r => fillO (codes r) s.toNat) ++ [fillO (codes t.2) s.toNat] := by
        rw [take_snoc' eg, List.map_append]
        rfl
      cases ef2 : fillO (codes t.2) s.toNat with
      | none =>
        rw [ef2] at pr
        have ey : y = .non := pr
        subst ey
        refine ⟨_, rfl, rfl, _, rfl, ite2 (fun _ => ?_) (fun e => absurd (decide_eq_true rfl) e)⟩
        refine q _ _ (s4.trans s5) ?_
        have : strO cs wd b s rs = none := catO_none (List.mem_map.mpr ⟨t.2, List.mem_of_getElem? eg, ef2⟩)
        rw [this]
        exact rfl
      | some ss =>
        rw [ef2] at pr
        have lss := fillO_len ef2
        obtain ⟨p, us, rfl, np, ep, es, pu, fu, _, ls100⟩ := pr
        have eD5 := s5 _ _ eD4
        have lus : us.length = s.toNat := by rw [← lss, ← es, List.length_map]
        have pD : p ≠ D := fun z => by rw [z, eD4] at np; cases np
        refine ⟨_, rfl, rfl, _, rfl, ite2 (fun e => absurd (of_decide_eq_true e) (fun z => by cases z)) (fun _ => ?_)⟩
        have li : i * s.toNat ≤ 128 := Nat.le_trans (Nat.mul_le_mul (show i ≤ 16 by omega) (show s.toNat ≤ 8 by omega)) (by decide)
        refine ⟨_, rfl, .inl ⟨rfl, _, SqL.of eD5⟩, _, rfl, D, p, _, _, rfl, rfl, eD5, ep, by rw [refs_len, refs_len]; exact sz _ (by omega), ?_⟩
        refine ⟨_, _, ts ++ us, rfl, Same.over (s4.trans s5) nD, by rw [upd_ne lD]; exact s5 _ _ el4, fun u mu => ?_, by rw [upd_same, refs_app], fun u mu => ?_, fun u mu => ?_, ?_, by rw [List.length_append, lt, lus, Nat.succ_mul], fun u mu => ?_⟩
        · rcases hb4 u mu with h | h
          · exact .inl h
          · by_cases z : u.1 = D
            · exact .inl z
            · exact .inr (by rw [upd_ne z]; exact s5 _ _ h)
        · rcases List.mem_append.mp mu with mu | mu
          · rw [upd_ne (fr u mu).2]; exact s5 _ _ (pt u mu)
          · rw [upd_ne (fun z => by have := pu u mu; have h9 := (fu u mu).1; rw [z, eD4] at h9; cases h9)]; exact pu u mu
        · rcases List.mem_append.mp mu with mu | mu
          · exact fr u mu
          · exact ⟨s4.free (fu u mu).1, fun z => by have h9 := (fu u mu).1; rw [z, eD4] at h9; cases h9⟩
        · rw [ec2, ef2, catO_app ec, List.map_append, es]
        · rcases List.mem_append.mp mu with mu | mu
          · exact l1 u mu
          · exact ls100 _ (by rw [← es]; exact List.mem_map.mpr ⟨u, mu, rfl⟩)
    · obtain ⟨y4, y5, ts, rfl, s4, el4, hb4, eD4, pt, fr, ec, lt, l1⟩ := hP
      rw [brefs_len] at ec lt
      rw [lb, ← grp_len cs wd b rs, List.take_length] at ec
      have li : bs.length * s.toNat ≤ 128 := Nat.le_trans (Nat.mul_le_mul (show bs.length ≤ 16 by omega) (show s.toNat ≤ 8 by omega)) (by decide)
      refine ⟨_, rfl, q _ _ s4 ?_⟩
      have : strO cs wd b s rs = some (ts.map (·.2)) := ec
      rw [this]
      exact ⟨D, ts, rfl, nD, eD4, rfl, pt, fr, by rw [List.length_map]; omega, fun s m => by obtain ⟨u, mu, e⟩ := List.mem_map.mp m; rw [← e]; exact l1 u mu⟩
end
end K1
namespace K1
open PySem PySem.Spec PyProof.Rows L2 Ow Tlz
theorem mt_index_K {X : Cx} {K : PySem.W.Frag} (e : X.K = K) : MtR X "list.index" (rIndex K) := by
  subst e
  exact mt_index
theorem pe_bm_K {X : Cx} {K : PySem.W.Frag} (eK : X.K = K) {o e : Expr} {es : List Expr} {to : TE} {t : TA} {name : Str} {apos cpos : Pos} {T id : String} {r : V → List V → Hp → VK → Prop}
    (pa : PlainAttrs T) (slot : Slot T name id) (hty : typeOf (.builtin id) = pure (.type "method_descriptor")) (hm : MtR X id r) (ho : PE X o to) (ha : PA X (e :: es) t)
    (hbase : attributeBase o name X.env (eval o X.env) = eval o X.env := by rfl)
    (hfew : ((backTo cpos (starEach (e :: es) X.env)).all (fun x => !x.1) && (backToKw cpos (keywordEach [] X.env)).all (fun x => x.1.isSome)
      && decide ((e :: es).length + ([] : List Keyword).length + (if ([] : List Keyword).isEmpty then 0 else 1) < 30)) = true := by rfl)
    (hline : (apos.endLine == cpos.line) = true := by rfl) (hs : starEach (e :: es) X.env = (false, eval e X.env) :: starEach es X.env := by rfl) (hplain : (backTo cpos (starEach es X.env)).any (·.1) = false := by rfl) :
    PE X (.Call (.Attribute o name apos) (e :: es) [] cpos) (tBM K T r to t) := by
  subst eK
  exact pe_bm pa slot hty hm ho ha hbase hfew hline hs hplain
/-- what is read of a shelf -/
structure ShV (K : PySem.W.Frag) (H : Hp) (ls : Addr) (R : Tb) (F : Fb) (S : Tb) : Prop where
  ex : ∃ (dr df ds : Addr), SqL K H ls [.ref dr, .ref df, .ref ds] ∧ Rd H dr (.dK (kvR R)) ∧ Rd H df (.dK (kvF F)) ∧ Rd H ds (.dK (kvR S))
  rt : ∀ n q c, valG R n = some (q, c) → SqT K H q c
  ft : ∀ n q rs, valG F n = some (q, rs) → H q = some (.lst (rrefs rs)) ∧ RowsOk K H rs
  st : ∀ n q c, valG S n = some (q, c) → SqT K H q c
theorem Rd.sm {H H' : Hp} {a : Addr} {u : HO} (s : Same H H') (h : Rd H a u) : Rd H' a u := by
  rcases h with h | ⟨o, h⟩
  · exact .inl (s _ _ h)
  · exact .inr ⟨o, s _ _ h⟩
theorem ShV.same {K : PySem.W.Frag} {H H' : Hp} {ls : Addr} {R S : Tb} {F : Fb} (h : ShV K H ls R F S) (s : Same H H') : ShV K H' ls R F S := by
  obtain ⟨⟨dr, df, ds, h1, h2, h3, h4⟩, rt, ft, st⟩ := h
  exact ⟨⟨dr, df, ds, s.seq h1, Rd.sm s h2, Rd.sm s h3, Rd.sm s h4⟩, fun n q c e => Tk.same s _ _ (rt n q c e), fun n q rs e => ⟨s _ _ (ft n q rs e).1, (ft n q rs e).2.same s⟩, fun n q c e => Tk.same s _ _ (st n q c e)⟩
def spValsOf (K : PySem.W.Frag) : Sp := fun vs H Q _ => ∃ (ls r : Addr) (n rn : Str) (R S : Tb) (F : Fb) (cs : List V) (w : Nat) (b s : Int) (row : List V), vs = [.ref ls, .str n, .ref r] ∧ ShV K H ls R F S ∧ SInfo K H R S n rn cs w b s ∧
  SqT K H r row ∧ row.length = w ∧ ∀ t H', Same H H' → SqT K H' t (valsOf cs w row) → Q (.ref t) H'
def spLStrSh (K : PySem.W.Frag) : Sp := fun vs H Q _ => ∃ (ls : Addr) (n rn : Str) (R S : Tb) (F : Fb) (cs : List V) (w : Nat) (b s : Int) (qf : Addr) (rs : Rw), vs = [.ref ls, .str n] ∧ ShV K H ls R F S ∧ SInfo K H R S n rn cs w b s ∧
  valG F rn = some (qf, rs) ∧ rs.length ≤ 90 ∧ (∀ t ∈ rs, t.2.length = w) ∧ ∀ y H', Same H H' → ShRes H y H' (strO cs w b s rs) → Q y H'
abbrev s_law_values_of : Stmt := topS 50
abbrev N_law_values_of : List Str := ["shelf", "name", "row", "relation", "columns", "buckets", "sectors", "names", "column"]
theorem sc_law_values_of : FnScope N_law_values_of ["shelf", "name", "row"] (defScope s_law_values_of) := ⟨rfl, rfl, rfl, by decide +kernel, rfl, by decide +kernel, by decide +kernel⟩
abbrev N_law_structure_shape : List Str := ["shelf", "name", "relation", "columns", "buckets", "sectors", "shape", "k", "rows", "filled_v", "row"]
theorem all_flat (w : Nat) : (colsV w).all flatV = true := List.all_eq_true.mpr fun x m => by
  obtain ⟨z, rfl, _⟩ := colsV_strs w x m
  rfl
section
variable {P : Program} {w : World} {K : PySem.W.Frag} {mg : Str → Option Value} {base : Heap} {C : Addr}
theorem ok_valsof {f : Addr} {fd : FuncData} (F0 : Fun K "_law_values_of" "_law_values_of" s_law_values_of f fd) (T : Bl mg) :
    FnOk P w K mg base CX0 1 f fd ["shelf", "name", "row"] (spValsOf K) := by
  refine F0.ok sc_law_values_of (fun vs H Q E h => ?_) (fun cdv A outer s0 H vs Q E hr h => ?_)
  · obtain ⟨ls, r, n, rn, R, S, F, cs, w, b, s, row, rfl, _⟩ := h
    rfl
  · obtain ⟨ls, r, n, rn, R, S, F, cs, wd, b, s, row, rfl, sv, si, hrow, lrow, q⟩ := h
    have hu := hu_of hr
    refine ⟨_, (pss_cons (ps_asg (pe_dget hu (pe_ix ix_list (pv 0) pe_int (fun _ _ => rfl)) (pv 1) (fun _ _ => rfl)) (pg_tup rfl (pgs_cons (pg_name (i := 3) sc_law_values_of.nd rfl (.inl rfl)) (pgs_cons (pg_name (i := 4) sc_law_values_of.nd rfl (.inl rfl)) (pgs_cons (pg_name (i := 5) sc_law_values_of.nd rfl (.inl rfl)) (pgs_cons (pg_name (i := 6) sc_law_values_of.nd rfl (.inl rfl)) pgs_nil))))))
      (pss_cons (ps_set (i := 7) sc_law_values_of.nd rfl (.inr rfl) (pe_callTy call_list_of (by rfl) T.list (by decide +kernel) (pa_cons (pe_ix ix_tup (pe_dget hu (pe_ix ix_list (pv 0) pe_int (fun _ _ => rfl)) (pv 3) (fun _ _ => rfl)) pe_int (fun _ _ => rfl)) pa_nil)))
      (pss_one (ps_ret (pe_callTy call_tuple_of (by rfl) T.tuple (by decide +kernel) (pa_cons (pe_lc (own := [("column", 8)]) (g := gName 8) rfl sc_law_values_of.nd (pi_tup (pv 4)) (blkOk_by (own := [("column", 8)]) (N := N_law_values_of) (sc := defScope s_law_values_of) (by decide +kernel)) (fun _ _ _ _ _ => pg_name (i := 8) sc_law_values_of.nd rfl (Or.inl rfl)) (fun _ _ _ _ _ => pts_nil) (fun _ _ _ _ _ => (pe_ix (ix_tup_K (K := K) rfl) (pv 2) (pe_bm_K (K := K) rfl PySem.F.plainAttrs_list PySem.F.slot_list_index PySem.F.type_list_index (mt_index_K (K := K) rfl) (pv 7) (pa_cons (pv 8) pa_nil)) (fun _ _ => rfl)))) pa_nil)))))), ?_⟩
    obtain ⟨⟨dr, df, ds, hls, hr', hf, hs⟩, rt, ft, st⟩ := id sv
    obtain ⟨qa, cc, qb, cr, r', e1, hcc, e2, hcr⟩ := si.ex
    refine ⟨_, rfl, ls, _, 2, .ref ds, rfl, rfl, hls, at_of (j := 2) rfl rfl, _, rfl, ds, _, rfl, dget_n hs e1, qa, _, rfl, st _ _ _ e1, rfl, _, _, rfl, _, _, rfl, _, _, rfl, _, _, rfl, rfl, ?_⟩
    refine ⟨_, rfl, ls, _, 0, .ref dr, rfl, rfl, hls, at_of (j := 0) rfl rfl, _, rfl, dr, _, rfl, dget_n hr' e2, qb, _, 0, .ref cr, rfl, rfl, rt _ _ _ e2, at_of (j := 0) rfl rfl, cr, _, rfl, .inr hcr.sq, fun nl nnl => ?_⟩
    have s1 := Same.new (o := .lst (colsV wd)) nnl
    have e3 := upd_same (H := H) (a := nl) (o := .lst (colsV wd))
    generalize (upd H nl (.lst (colsV wd))) = H1 at *
    refine ⟨_, rfl, cc, rfl, ⟨_, Tk.same s1 _ _ hcc⟩, fun D nD => lc_tup (K := K) (a := cc) (xs := cs) (fun i H4 => Same H1 H4 ∧ H4 D = some (.lst (valsOf (cs.take i) wd row)))
      ⟨Same.new nD, upd_same⟩ (fun i H4 _ hP => Tk.same (s1.trans hP.1) _ _ hcc) (fun i y H4 hy hP => ?_) (fun H4 hP => ?_)⟩
    · obtain ⟨s4, eD⟩ := hP
      have my := List.mem_of_getElem? hy
      have il : i < cs.length := (List.getElem?_eq_some_iff.mp hy).1
      have msub := si.sub y my
      obtain ⟨v, hv, mv, ev⟩ := vals_at si lrow my
      have lcs := si.l
      have cm := fun {m : Nat} => cix_min (w := wd) (x := y) (m := m)
      have ca := cix_at msub
      obtain ⟨z, ez, _⟩ := colsV_strs wd y msub
      refine ⟨rfl, ?_⟩
      refine ⟨_, rfl, _, rfl, .inl ⟨rfl, _, SqL.of (s4 _ _ e3)⟩, _, rfl, nl, colsV wd, y, cix wd y, y, rfl, rfl, SqL.of (s4 _ _ e3), by rw [ez]; rfl, all_flat wd, ca, ?_, fun m z' hm e => ?_, r, row, _, v, rfl, rfl, Tk.same (s1.trans s4) _ _ hrow, at_of (j := cix wd y) rfl hv, _, eD, ?_, Same.over s4 nD, ?_⟩
      · rw [ez]
        show (z == z) = true
        exact beq_self_eq_true z
      · obtain ⟨z2, ez2, _⟩ := colsV_strs wd z' (List.mem_of_getElem? e)
        have ne := cm hm
        rw [e, ez2, ez] at ne
        rw [ez2, ez]
        show (z2 == z) = false
        rw [beq_eq_false_iff_ne]
        intro w2
        rw [w2] at ne
        exact ne rfl
      · unfold valsOf
        rw [List.length_map, List.length_take]
        exact small (m := 1000) (by omega) (by decide)
      · rw [upd_same, take_snoc' hy]
        unfold valsOf
        rw [List.map_append]
        show _ = some (HO.lst (_ ++ [row.getD (cix wd y) .non]))
        rw [ev]
    · obtain ⟨s4, eD⟩ := hP
      rw [List.take_length] at eD
      refine ⟨D, _, rfl, .inl ⟨SqL.of eD, fun tl ntl => ?_⟩⟩
      exact q tl _ ((s1.trans s4).trans (Same.new ntl)) (SqT.of upd_same)
end
end K1
namespace K1
open PySem PySem.Spec PyProof.Rows L2 Ow Tlz
theorem plc_last {os : Its} {t : Addr × It} (so : ScI os) (st : tSc (te t)) (h : ∀ u ∈ os, tLt (te u) (te t)) : plc os t = os ++ [t] := by
  unfold plc
  have e1 : (os.filter fun u => decide (tOrd (te u) (te t) ≠ 0)) = os := List.filter_eq_self.mpr fun u m => decide_eq_true fun z => tEq_lt st ((tOrd_zero (so u m) st).mp z) (h u m)
  have e2 : (os.countP fun u => decide (tOrd (te u) (te t) < 0)) = os.length := List.countP_eq_length.mpr fun u m => decide_eq_true (h u m)
  rw [e1, e2, List.take_length, List.drop_length, List.append_nil]
theorem plcAll_srt (its : Its) : ScI its → KSrt its → plcAll its = its := by
  refine snoc_ind (P := fun its => ScI its → KSrt its → plcAll its = its) (fun _ _ => rfl) (fun xs x ih so ks => ?_) its
  have ks' := List.pairwise_append.mp ks
  have so' : ScI xs := fun u m => so u (List.mem_append_left _ m)
  rw [plcAll_snoc, ih so' ks'.1, plc_last so' (so x (List.mem_append_right _ (List.mem_singleton.mpr rfl))) fun u m => ks'.2.2 u m x (List.mem_singleton.mpr rfl)]
theorem ier_rel {i : It} {n : Str} {c : List V} (e : ier i = ier (.rel n c)) : i = .rel n c := by
  cases i with
  | rel m d =>
    have e' : ((0 : Int), m, ([] : List V), d) = (0, n, [], c) := e
    cases e'
    rfl
  | fact m r d => exact absurd (show (1 : Int) = 0 from congrArg Prod.fst e) (by decide)
  | str m d => exact absurd (show (2 : Int) = 0 from congrArg Prod.fst e) (by decide)
  | lay m d => exact absurd (show (3 : Int) = 0 from congrArg Prod.fst e) (by decide)
theorem ier_str {i : It} {n : Str} {c : List V} (e : ier i = ier (.str n c)) : i = .str n c := by
  cases i with
  | str m d =>
    have e' : ((2 : Int), m, ([] : List V), d) = (2, n, [], c) := e
    cases e'
    rfl
  | rel m d => exact absurd (show (0 : Int) = 2 from congrArg Prod.fst e) (by decide)
  | fact m r d => exact absurd (show (1 : Int) = 2 from congrArg Prod.fst e) (by decide)
  | lay m d => exact absurd (show (3 : Int) = 2 from congrArg Prod.fst e) (by decide)
theorem ier_fact {i : It} {n : Str} {r : Addr} {c : List V} (e : ier i = ier (.fact n r c)) : ∃ r', i = .fact n r' c := by
  cases i with
  | fact m r' d =>
    have e' : ((1 : Int), m, d, ([] : List V)) = (1, n, c, []) := e
    cases e'
    exact ⟨r', rfl⟩
  | rel m d => exact absurd (show (0 : Int) = 1 from congrArg Prod.fst e) (by decide)
  | str m d => exact absurd (show (2 : Int) = 1 from congrArg Prod.fst e) (by decide)
  | lay m d => exact absurd (show (3 : Int) = 1 from congrArg Prod.fst e) (by decide)
theorem ier_lay {i : It} {n : Str} {c : V} (e : ier i = ier (.lay n c)) : (ier i).1 = 3 := by rw [e]; rfl
theorem allE_mem {R S : Tb} {F : Fb} {ys fs zs : List Str} {x : Kt} : x ∈ allE R F S [] ys fs zs [] ↔ (∃ n ∈ ys, ier (.rel n (cOf R n)) = x) ∨ (∃ n ∈ fs, ∃ t ∈ rOf F n, ier (.fact n t.1 t.2) = x) ∨ ∃ n ∈ zs, ier (.str n (cOf S n)) = x := by
  unfold allE
  rw [List.map_nil, List.append_nil, List.mem_append, List.mem_append, List.mem_map, List.mem_flatMap, List.mem_map, or_assoc]
  simp only [List.mem_map]
theorem allE_srt {R S : Tb} {F : Fb} {ys fs zs : List Str} (k1 : ys.Pairwise fun a b => a.cps.toList < b.cps.toList) (k2 : fs.Pairwise fun a b => a.cps.toList < b.cps.toList) (k3 : zs.Pairwise fun a b => a.cps.toList < b.cps.toList) (hs : ∀ n, Srt (rOf F n)) :
    (allE R F S [] ys fs zs []).Pairwise tLt := by
  have lo : ∀ (a b : Kt), a.1 < b.1 → tLt a b := fun a b l => (tLt_iff a b).mpr (.inl l)
  unfold allE
  rw [List.map_nil, List.append_nil, List.pairwise_append, List.pairwise_append]
  refine ⟨⟨?_, ?_, ?_⟩, ?_, ?_⟩
  · exact List.pairwise_map.mpr (k1.imp fun h => lt_rel h)
  · rw [List.pairwise_flatMap]
    refine ⟨fun n _ => ?_, k2.imp fun {a b} hab x mx y my => ?_⟩
    · rw [List.pairwise_map]
      exact (hs n).imp fun h => lt_fact (.inr ⟨rfl, h⟩)
    · obtain ⟨t, _, e1⟩ := List.mem_map.mp mx
      obtain ⟨u, _, e2⟩ := List.mem_map.mp my
      rw [← e1, ← e2]
      exact lt_fact (.inl hab)
  · intro a ma b mb
    obtain ⟨n, _, e⟩ := List.mem_map.mp ma
    obtain ⟨m, _, mm⟩ := List.mem_flatMap.mp mb
    obtain ⟨t, _, e'⟩ := List.mem_map.mp mm
    rw [← e, ← e']
    exact lo _ _ (by show (0 : Int) < 1; decide)
  · exact List.pairwise_map.mpr (k3.imp fun h => lt_str h)
  · intro a ma b mb
    obtain ⟨n', _, e'⟩ := List.mem_map.mp mb
    rw [← e']
    rcases List.mem_append.mp ma with ma | ma
    · obtain ⟨n, _, e⟩ := List.mem_map.mp ma
      rw [← e]
      exact lo _ _ (by show (0 : Int) < 2; decide)
    · obtain ⟨m, _, mm⟩ := List.mem_flatMap.mp ma
      obtain ⟨t, _, e⟩ := List.mem_map.mp mm
      rw [← e]
      exact lo _ _ (by show (1 : Int) < 2; decide)
/-- the shelf's tables and its items -/
theorem shelf_rep {its : Its} {R S : Tb} {F : Fb} {ys fs zs : List Str} (e : its.map te = allE R F S [] ys fs zs []) (py : ys.Perm (R.map (·.1))) (pf : fs.Perm (F.map (·.1))) (pz : zs.Perm (S.map (·.1)))
    (ek : F.map (·.1) = R.map (·.1)) (fs' : ∀ n q rs, valG F n = some (q, rs) → SrtS rs) (rn : (R.map (·.1)).Nodup) (sn : (S.map (·.1)).Nodup) (fn : (F.map (·.1)).Nodup) : Rep its R F S [] := by
  have hm : ∀ {i : It}, Has its i → ier i ∈ allE R F S [] ys fs zs [] := fun {i} ⟨a, m⟩ => by
    rw [← e]
    exact List.mem_map.mpr ⟨_, m, rfl⟩
  have mh : ∀ {x : Kt}, x ∈ allE R F S [] ys fs zs [] → ∃ i, Has its i ∧ ier i = x := fun {x} m => by
    rw [← e] at m
    obtain ⟨t, mt, et⟩ := List.mem_map.mp m
    exact ⟨t.2, ⟨t.1, mt⟩, et⟩
  have key : ∀ {β : Type} {l : List (Str × β)} {n : Str}, n ∈ l.map (·.1) → ∃ b, valG l n = some b := fun {β l n} m => by
    have := valG_key.mp m
    cases z : valG l n with
    | none => rw [z] at this; cases this
    | some b => exact ⟨b, rfl⟩
  have yk : ∀ {β : Type} {l : List (Str × β)} {n : Str} {b : β}, valG l n = some b → n ∈ l.map (·.1) := fun {β l n b} z => valG_key.mpr (by rw [z]; rfl)
  have hr : ∀ n c, (∃ q, valG R n = some (q, c)) ↔ Has its (.rel n c) := fun n c => by
    constructor
    · rintro ⟨q, z⟩
      obtain ⟨i, hi, ei⟩ := mh (allE_mem.mpr (.inl ⟨n, py.mem_iff.mpr (yk z), rfl⟩))
      rw [cOf_eq z] at ei
      rw [← ier_rel ei]
      exact hi
    · intro h
      rcases allE_mem.mp (hm h) with ⟨m, mm, z⟩ | ⟨m, mm, t, mt, z⟩ | ⟨m, mm, z⟩
      · obtain ⟨⟨q, c'⟩, ev⟩ := key (py.mem_iff.mp mm)
        rw [cOf_eq ev] at z
        cases ier_rel z
        exact ⟨q, ev⟩
      · cases ier_rel z
      · cases ier_rel z
  have hf : ∀ n row, (∃ q rs, valG F n = some (q, rs) ∧ ∃ r, (r, row) ∈ rs) ↔ ∃ r, Has its (.fact n r row) := fun n row => by
    constructor
    · rintro ⟨q, rs, z, r, mr⟩
      obtain ⟨i, hi, ei⟩ := mh (allE_mem.mpr (.inr (.inl ⟨n, pf.mem_iff.mpr (yk z), (r, row), by rw [rOf_eq z]; exact mr, rfl⟩)))
      obtain ⟨r', er⟩ := ier_fact ei
      rw [er] at hi
      exact ⟨r', hi⟩
    · rintro ⟨r, h⟩
      rcases allE_mem.mp (hm h) with ⟨m, mm, z⟩ | ⟨m, mm, t, mt, z⟩ | ⟨m, mm, z⟩
      · obtain ⟨_, er⟩ := ier_fact z
        cases er
      · obtain ⟨⟨q, rs⟩, ev⟩ := key (pf.mem_iff.mp mm)
        rw [rOf_eq ev] at mt
        obtain ⟨_, er⟩ := ier_fact z
        cases er
        exact ⟨q, rs, ev, t.1, mt⟩
      · obtain ⟨_, er⟩ := ier_fact z
        cases er
  refine ⟨hr, fun n c => ?_, fun n v => ?_, hf, fun n => ?_, fs', rn, sn, .nil, fn⟩
  · constructor
    · rintro ⟨q, z⟩
      obtain ⟨i, hi, ei⟩ := mh (allE_mem.mpr (.inr (.inr ⟨n, pz.mem_iff.mpr (yk z), rfl⟩)))
      rw [cOf_eq z] at ei
      rw [← ier_str ei]
      exact hi
    · intro h
      rcases allE_mem.mp (hm h) with ⟨m, mm, z⟩ | ⟨m, mm, t, mt, z⟩ | ⟨m, mm, z⟩
      · cases ier_str z
      · cases ier_str z
      · obtain ⟨⟨q, c'⟩, ev⟩ := key (pz.mem_iff.mp mm)
        rw [cOf_eq ev] at z
        cases ier_str z
        exact ⟨q, ev⟩
  · refine ⟨fun h => (by cases h), fun h => ?_⟩
    rcases allE_mem.mp (hm h) with ⟨m, mm, z⟩ | ⟨m, mm, t, mt, z⟩ | ⟨m, mm, z⟩
    · exact absurd (show (0 : Int) = 3 from ier_lay z) (by decide)
    · exact absurd (show (1 : Int) = 3 from ier_lay z) (by decide)
    · exact absurd (show (2 : Int) = 3 from ier_lay z) (by decide)
  · constructor
    · intro h
      have mn := valG_key.mpr h
      rw [ek] at mn
      obtain ⟨⟨q, c⟩, ev⟩ := key mn
      exact .inl ⟨c, (hr n c).mp ⟨q, ev⟩⟩
    · rintro (⟨c, h⟩ | ⟨r, row, h⟩)
      · obtain ⟨q, ev⟩ := (hr n c).mpr h
        have mn := yk ev
        rw [← ek] at mn
        exact valG_key.mp mn
      · obtain ⟨q, rs, ev, _⟩ := (hf n row).mpr ⟨r, h⟩
        rw [ev]
        rfl
theorem rows_map (p : List V → Bool) (ts : Rw) : (ts.filter fun t => p t.2).map (·.2) = (ts.map (·.2)).filter p := by rw [List.filter_map]; rfl
theorem codes_map (ts : Rw) : codes ts = (ts.map (·.2)).map rowB := by unfold codes; rw [List.map_map]; rfl
theorem codes_eq {rs rs' : Rw} (h : rs'.map (·.2) = rs.map (·.2)) : codes rs' = codes rs := by rw [codes_map, codes_map, h]
theorem strO_eq {cs : List V} {w : Nat} {b s : Int} {rs rs' : Rw} (h : rs'.map (·.2) = rs.map (·.2)) : strO cs w b s rs' = strO cs w b s rs := by
  unfold strO grp
  rw [List.map_map, List.map_map]
  congr 1
  refine List.map_congr_left fun k _ => ?_
  show fillO (codes _) _ = fillO (codes _) _
  rw [codes_eq (rs := rs.filter fun t => decide (bkt cs w b t.2 = (k : Int))) (rs' := rs'.filter fun t => decide (bkt cs w b t.2 = (k : Int)))]
  rw [rows_map (fun r => decide (bkt cs w b r = (k : Int))), rows_map (fun r => decide (bkt cs w b r = (k : Int))), h]
theorem rows_wid {rs rs' : Rw} (h : rs'.map (·.2) = rs.map (·.2)) {w : Nat} (g : ∀ t ∈ rs, t.2.length = w) : ∀ t ∈ rs', t.2.length = w := fun t m => by
  have m2 : t.2 ∈ rs.map (·.2) := by
    rw [← h]
    exact List.mem_map.mpr ⟨t, m, rfl⟩
  obtain ⟨u, mu, e⟩ := List.mem_map.mp m2
  rw [← e]
  exact g u mu
theorem rows_len {rs rs' : Rw} (h : rs'.map (·.2) = rs.map (·.2)) : rs'.length = rs.length := by
  have := congrArg List.length h
  rw [List.length_map, List.length_map] at this
  exact this
theorem pk_ist {ss : List (List Int)} (l : ss.length ≤ 200) (h : ∀ s ∈ ss, s.length ≤ 100) : ist (pkD ss) = true := by
  refine ist_lst (by rw [List.length_map]; omega) fun x m => ?_
  obtain ⟨s, ms, rfl⟩ := List.mem_map.mp m
  refine ist_lst (by rw [List.length_map]; have := h s ms; omega) fun y my => ?_
  obtain ⟨i, _, rfl⟩ := List.mem_map.mp my
  rw [ist]
/-- two results of one shape as data -/
def sdD : Option (List (List Int)) → PyData
  | none => .none
  | some ss => pkD ss
theorem sd_ist {H : Hp} {x : V} {H' : Hp} {o : Option (List (List Int))} (h : ShRes H x H' o) : ist (sdD o) = true ∧ (sdD o).depth ≤ 3 := by
  cases o with
  | none => exact ⟨by simp [sdD, ist], by simp [sdD, PyData.depth]⟩
  | some ss =>
    obtain ⟨p, ts, _, _, _, _, _, _, l1, l2⟩ := h
    exact ⟨pk_ist l1 l2, Nat.le_trans (pk_depth ss) (by decide)⟩
theorem sd_dp {K : PySem.W.Frag} {H : Hp} {x : V} {H' : Hp} {o : Option (List (List Int))} (h : ShRes H x H' o) : Dp K H' x (sdD o) := by
  cases o with
  | none =>
    have e : x = .non := h
    rw [e]
    exact .non
  | some ss =>
    obtain ⟨p, ts, rfl, _, hp, e, pt, _⟩ := h
    exact pk_dp hp pt e
end K1
/-! more of Ow: methods, makings, comprehensions -/
namespace Ow
open PySem PySem.Spec PyProof.Rows L2
def rListK (K : PySem.W.Frag) : List V → Hp → VK → Prop := fun xs H Q => ∃ p ys, xs = [V.ref p] ∧ (SqL K H p ys ∨ SqT K H p ys) ∧ ∀ l, H l = none → Q (.ref l) (upd H l (.lst ys))
theorem call_list_K {X : Cx} {K : PySem.W.Frag} (e : X.K = K) : CallR X (.type "list") (rListK K) := by
  subst e
  exact call_list_of
theorem call_min_K {X : Cx} {K : PySem.W.Frag} (e : X.K = K) (hc : X.calm = true) : CallR X (.builtin "min") (rMin K) := by
  subst e
  exact cr_min hc
theorem call_max_K {X : Cx} {K : PySem.W.Frag} (e : X.K = K) (hc : X.calm = true) : CallR X (.builtin "max") (rMax K) := by
  subst e
  exact cr_max hc
theorem call_sum_K {X : Cx} {K : PySem.W.Frag} (e : X.K = K) (hc : X.calm = true) : CallR X (.builtin "sum") (rSum K) := by
  subst e
  exact cr_sum hc
/-- a comprehension whose turns leave what was: of the turns i with p i the value ys i -/
theorem lc_fl {J : L2.It} {n : Nat} {G : Hp → Prop} {Y : Nat → Hp → V → Hp → Prop} (w : Walk J n G Y) (p : Nat → Bool) (ys : Nat → V) (hn : n < sizeLine) {g : TG} {tt : TT} {te : TE} {vs : List Nat} {σ : L2.St} {H1 : Hp} {D : Addr} {Qd : Hp → Prop} (hD : H1 D = none)
    (hG : ∀ H, Same H1 H → G H)
    (hs : ∀ i x H H' (N : VK) (M : Hp → Prop), i < n → Same H1 H → Y i H x H' → (p i = true → ∀ H4, Same H H4 → N (ys i) H4) → (p i = false → ∀ H4, Same H H4 → M H4) →
      g x (wipe σ vs) H' fun σ2 H2 => wipe σ2 vs = wipe σ vs ∧ tt σ2 H2 fun b H3 => if b = true then te σ2 H3 N else M H3)
    (hd : ∀ H, Same H1 H → H D = some (.lst (((List.range n).filter p).map ys)) → Qd H) :
    ∃ W : Nat → Nat → Hp → Prop, (∃ m, W 0 m (upd H1 D (.lst []))) ∧ ∀ i m H, W i m H →
      (J.stop i H ∧ Qd H) ∨ (J.go i H ∧ ∃ Nx : Hp → Prop, (∀ H', Nx H' → ∃ m', m' < m ∧ W (i + 1) m' H') ∧ ∀ x H', J.yld i H x H' → g x (wipe σ vs) H' fun σ2 H2 => wipe σ2 vs = wipe σ vs ∧ tt σ2 H2 fun b H3 =>
        if b = true then te σ2 H3 fun y H4 => ∃ acc, H4 D = some (.lst acc) ∧ acc.length < sizeLine ∧ Nx (upd H4 D (.lst (acc ++ [y]))) else Nx H3) := by
  have pre : ∀ i, (((List.range i).filter p).map ys).length ≤ i := fun i => by
    rw [List.length_map]
    exact Nat.le_trans (List.length_filter_le _ _) (by rw [List.length_range]; exact Nat.le_refl _)
  refine lc_it w (fun i H => Same H1 H ∧ H D = some (.lst (((List.range i).filter p).map ys))) ⟨Same.new hD, upd_same⟩ (fun i H _ h => hG H h.1) (fun i x H H' hi h y => ?_) fun H h => hd H h.1 h.2
  have st : ((List.range (i + 1)).filter p).map ys = ((List.range i).filter p).map ys ++ (if p i = true then [ys i] else []) := by
    rw [List.range_succ, List.filter_append, List.map_append]
    cases e : p i <;> simp [List.filter, e]
  refine hs i x H H' _ _ hi h.1 y (fun e H4 s4 => ?_) fun e H4 s4 => ?_
  · refine ⟨_, s4 _ _ h.2, Nat.lt_of_le_of_lt (pre i) (Nat.lt_trans hi hn), Same.over (h.1.trans s4) hD, ?_⟩
    rw [upd_same, st, if_pos e]
  · refine ⟨h.1.trans s4, ?_⟩
    rw [s4 _ _ h.2, st, e, if_neg (by decide), List.append_nil]
theorem filter_all {α : Type} (xs : List α) : xs.filter (fun _ => true) = xs := by
  induction xs with
  | nil => rfl
  | cons x r ih => simp [List.filter, ih]
/-- every turn gives a value -/
theorem lc_mk {J : L2.It} {n : Nat} {G : Hp → Prop} {Y : Nat → Hp → V → Hp → Prop} (w : Walk J n G Y) (ys : Nat → V) (hn : n < sizeLine) {g : TG} {te : TE} {vs : List Nat} {σ : L2.St} {H1 : Hp} {D : Addr} {Qd : Hp → Prop} (hD : H1 D = none)
    (hG : ∀ H, Same H1 H → G H)
    (hs : ∀ i x H H' (N : VK), i < n → Same H1 H → Y i H x H' → (∀ H4, Same H H4 → N (ys i) H4) → g x (wipe σ vs) H' fun σ2 H2 => wipe σ2 vs = wipe σ vs ∧ te σ2 H2 N)
    (hd : ∀ H, Same H1 H → H D = some (.lst ((List.range n).map ys)) → Qd H) :
    ∃ W : Nat → Nat → Hp → Prop, (∃ m, W 0 m (upd H1 D (.lst []))) ∧ ∀ i m H, W i m H →
      (J.stop i H ∧ Qd H) ∨ (J.go i H ∧ ∃ Nx : Hp → Prop, (∀ H', Nx H' → ∃ m', m' < m ∧ W (i + 1) m' H') ∧ ∀ x H', J.yld i H x H' → g x (wipe σ vs) H' fun σ2 H2 => wipe σ2 vs = wipe σ vs ∧ tYes σ2 H2 fun b H3 =>
        if b = true then te σ2 H3 fun y H4 => ∃ acc, H4 D = some (.lst acc) ∧ acc.length < sizeLine ∧ Nx (upd H4 D (.lst (acc ++ [y]))) else Nx H3) :=
  lc_fl w (fun _ => true) ys hn hD hG (fun i x H H' N M hi s y h1 _ => hs i x H H' N hi s y (h1 rfl)) (by rw [filter_all]; exact hd)
/-- every turn gives a new list, of the row i -/
theorem lc_new {J : L2.It} {n : Nat} {G : Hp → Prop} {Y : Nat → Hp → V → Hp → Prop} (w : Walk J n G Y) (row : Nat → List V) (hn : n < sizeLine) {g : TG} {te : TE} {vs : List Nat} {σ : L2.St} {H1 : Hp} {D : Addr} {Qd : Hp → Prop} (hD : H1 D = none)
    (hG : ∀ H, Same H1 H → G H)
    (hs : ∀ i x H H' (N : VK), i < n → Same H1 H → Y i H x H' → (∀ H4 q, Same H H4 → H q = none → H4 q = some (.lst (row i)) → N (.ref q) H4) → g x (wipe σ vs) H' fun σ2 H2 => wipe σ2 vs = wipe σ vs ∧ te σ2 H2 N)
    (hd : ∀ (H : Hp) (ts : List Addr), Same H1 H → H D = some (.lst (ts.map V.ref)) → ts.length = n → (∀ i t, ts[i]? = some t → H1 t = none ∧ t ≠ D ∧ H t = some (.lst (row i))) → Qd H) :
    ∃ W : Nat → Nat → Hp → Prop, (∃ m, W 0 m (upd H1 D (.lst []))) ∧ ∀ i m H, W i m H →
      (J.stop i H ∧ Qd H) ∨ (J.go i H ∧ ∃ Nx : Hp → Prop, (∀ H', Nx H' → ∃ m', m' < m ∧ W (i + 1) m' H') ∧ ∀ x H', J.yld i H x H' → g x (wipe σ vs) H' fun σ2 H2 => wipe σ2 vs = wipe σ vs ∧ tYes σ2 H2 fun b H3 =>
        if b = true then te σ2 H3 fun y H4 => ∃ acc, H4 D = some (.lst acc) ∧ acc.length < sizeLine ∧ Nx (upd H4 D (.lst (acc ++ [y]))) else Nx H3) := by
  refine lc_it w (fun i H => Same H1 H ∧ ∃ ts : List Addr, H D = some (.lst (ts.map V.ref)) ∧ ts.length = i ∧ ∀ j t, ts[j]? = some t → H1 t = none ∧ t ≠ D ∧ H t = some (.lst (row j))) ⟨Same.new hD, [], upd_same, rfl, fun j t e => by simp at e⟩ (fun i H _ h => hG H h.1) (fun i x H H' hi h y => ?_) fun H h => ?_
  · obtain ⟨s, ts, eD, el, et⟩ := h
    refine hs i x H H' _ hi s y fun H4 q s4 nq eq => ?_
    have qD : q ≠ D := fun z => by rw [z, eD] at nq; cases nq
    refine ⟨_, s4 _ _ eD, by rw [List.length_map, el]; exact Nat.lt_trans hi hn, Same.over (s.trans s4) hD, ts ++ [q], ?_, by rw [List.length_append, el]; rfl, fun j t ej => ?_⟩
    · rw [upd_same, List.map_append]
      rfl
    · rcases Nat.lt_trichotomy j ts.length with h1 | h1 | h1
      · rw [List.getElem?_append_left h1] at ej
        obtain ⟨f1, f2, f3⟩ := et j t ej
        exact ⟨f1, f2, by rw [upd_ne f2]; exact s4 _ _ f3⟩
      · subst h1
        have e2 : q = t := by simpa using ej
        subst e2
        refine ⟨?_, qD, by rw [upd_ne qD, el]; exact eq⟩
        cases z : H1 q with
        | none => rfl
        | some o => rw [s q o z] at nq; cases nq
      · rw [List.getElem?_eq_none (by rw [List.length_append, List.length_singleton]; omega)] at ej
        cases ej
  · obtain ⟨s, ts, eD, el, et⟩ := h
    exact hd H ts s eD el et
/-- the method m of the class C keeps sp, by k levels -/
structure Kmt (P : Program) (w : World) (K : PySem.W.Frag) (mg : Str → Option Value) (base : Heap) (C : Addr) (k : Nat) (m : Str) (ps : List Str) (sp : Sp) : Prop where
  ex : ∃ f fd, Meth K C m f ∧ FnOk P w K mg base CX0 k f fd ps sp ∧ Binds K fd ps []
  cl : Cls K C
theorem pe_mt {X : Cx} {k j : Nat} {C : Addr} {m : Str} {ps : List Str} {sp : Sp} {o e : Expr} {es : List Expr} {ta : TE} {t : TA} {apos pos : Pos} {pl : Sem Bool} (c : Kmt X.prog X.w X.K X.mg X.base C k m ps sp) (hr : Room j X.A) (he : PE X o ta) (ha : PA X (e :: es) t) (hk : k ≤ j := by decide)
    (hst : starEach (e :: es) X.env = (false, eval e X.env) :: starEach es X.env := by rfl) (hpl : (backTo pos (starEach es X.env)).any (·.1) = false := by rfl)
    (ht : eval (.Call (.Attribute o m apos) (e :: es) [] pos) X.env = (do
      let ov ← eval o X.env; standAt apos.atName
      let (f, first) ← holding [ov] (getMethod ov m pl)
      callWith pos f first (backTo pos (starEach (e :: es) X.env)) (backToKw pos (keywordEach [] X.env))) := by rfl) :
    PE X (.Call (.Attribute o m apos) (e :: es) [] pos) (tMeth C m sp [] E0 ta t) := by
  obtain ⟨f, fd, hm, F, b⟩ := c.ex
  exact pe_meth he c.cl hm F (hr.mono hk) b .nil pass0 ha hst hpl ht
theorem pi_list_K {X : Cx} {K : PySem.W.Frag} (eK : X.K = K) {tg l : Expr} {tl : TE} (h : PE X l tl) : PI X tg l (iList K tl) := by
  subst eK
  exact pi_list h
theorem sqt_same {K : PySem.W.Frag} {H H' : Hp} {t : Addr} {xs : List V} (s : Same H H') (e : SqT K H t xs) : SqT K H' t xs := by
  rcases e with (h | ⟨o, h⟩) | h
  · exact .inl (.inl (s _ _ h))
  · exact .inl (.inr ⟨o, s _ _ h⟩)
  · exact .inr h
theorem pe_mt0 {X : Cx} {k j : Nat} {C : Addr} {m : Str} {ps : List Str} {sp : Sp} {o : Expr} {ta : TE} {apos pos : Pos} {pl : Sem Bool} (c : Kmt X.prog X.w X.K X.mg X.base C k m ps sp) (hr : Room j X.A) (he : PE X o ta) (hk : k ≤ j := by decide)
    (ht : eval (.Call (.Attribute o m apos) [] [] pos) X.env = (do
      let ov ← eval o X.env; standAt apos.atName
      let (f, first) ← holding [ov] (getMethod ov m pl)
      callWith pos f first (backTo pos (starEach [] X.env)) (backToKw pos (keywordEach [] X.env))) := by rfl) :
    PE X (.Call (.Attribute o m apos) [] [] pos) (tMeth C m sp [] E0 ta tNil) := by
  obtain ⟨f, fd, hm, F, b⟩ := c.ex
  exact pe_meth0 he c.cl hm F (hr.mono hk) b .nil pass0 ht
/-- the class C is made by an __init__ that keeps sp, by k levels -/
structure Kmk (P : Program) (w : World) (K : PySem.W.Frag) (mg : Str → Option Value) (base : Heap) (C : Addr) (k : Nat) (ps : List Str) (sp : Sp) : Prop where
  ex : ∃ f fd, Mk K C f ∧ FnOk P w K mg base CX0 k f fd ps sp ∧ Binds K fd ps []
theorem pe_mk {X : Cx} {k j : Nat} {C : Addr} {x : Str} {ps : List Str} {sp : Sp} {e : Expr} {es : List Expr} {t : TA} {p pos : Pos} (c : Kmk X.prog X.w X.K X.mg X.base C k ps sp) (hm : X.mg x = some (.ref C)) (hr : Room j X.A) (ha : PA X (e :: es) t) (hk : k + 1 ≤ j := by decide) (hg : Gl X x := by rfl)
    (hdb : (x == ("__debug__" : Str)) = false := by decide) (he : starEach (e :: es) X.env = (false, eval e X.env) :: starEach es X.env := by rfl) (hpl : (backTo pos (starEach es X.env)).any (·.1) = false := by rfl) :
    PE X (.Call (.Name x p) (e :: es) [] pos) (tMake C sp [] E0 t) := by
  obtain ⟨f, fd, M, F, b⟩ := c.ex
  exact pe_make M F (hr.mono hk) hg hm b .nil pass0 ha hdb he hpl
end Ow
/-! the Reader: what it reads of bytes that were written -/
namespace Ow
open PySem PySem.Spec PyProof.Rows L2
def ipM : TIp := fun x y H Q => ∃ i j, x = .int i ∧ y = .int j ∧ CMul i j ∧ Q (.int (i * j)) H
theorem ip_mul {X : Cx} : PIp X .Mult ipM := by
  intro pins s σ H x y v u Q I r1 r2 h
  obtain ⟨i, j, e1, e2, hc, q⟩ := h
  subst e1; subst e2
  obtain ⟨t, rfl⟩ := r1
  obtain ⟨t', rfl⟩ := r2
  exact imul_int ⟨.int _, H, I.tok _, ⟨_, rfl⟩, q⟩ hc.ok
theorem pe_gi {X : Cx} {x : Str} {n : Int} {t : Tok} {pos : Pos} (gl : Gl X x) (top : X.mg x = some (.int n t)) (h1 : x ≠ "__name__" := by decide) (h2 : (x == ("__debug__" : Str)) = false := by decide) : PE X (.Name x pos) (tC (.int n)) := pe_glob (v := .int n) gl top ⟨_, rfl⟩ (hd := h2)
theorem pe_gs {X : Cx} {x : Str} {n : Str} {t : Tok} {pos : Pos} (gl : Gl X x) (top : X.mg x = some (.str n t)) (h1 : x ≠ "__name__" := by decide) (h2 : (x == ("__debug__" : Str)) = false := by decide) : PE X (.Name x pos) (tC (.str n)) := pe_glob (v := .str n) gl top ⟨_, rfl⟩ (hd := h2)
end Ow
namespace Bd
open PySem PySem.Spec PyProof.Rows L2 Ow K1
def CHRS : Str := PySem.Str.ofString " !\"#$&'()*+,-./0123456789:;<=>?@ABCDEFGHIJKLMNOPQRSTUVWXYZ[\\]^_`abcdefghijklmnopqrstuvwxyz{|}~"
structure Gr (mg : Str → Option Value) : Prop where
  most : ∃ t, mg "MOST_NUMBER_BYTES" = some (.int 60 t)
  first : ∃ t, mg "FIRST_CODE" = some (.int 32 t)
  last : ∃ t, mg "LAST_CODE" = some (.int 126 t)
  out : ∃ t, mg "LEFT_OUT_CODE" = some (.int 37 t)
  chars : ∃ t, mg "CHARACTERS" = some (.str CHRS t)
structure TxtR (K : PySem.W.Frag) (mg : Str → Option Value) (C : Addr) : Prop where
  cl : Cls K C
  data : NoAttr K C "data"
  at_ : NoAttr K C "at"
  mgC : mg "Reader" = some (.ref C)
/-- the reader at x, behind k of the bytes ds -/
structure RdAt (C : Addr) (H : Hp) (x da : Addr) (ds : List Int) (k : Nat) : Prop where
  ob : ∃ dx, H x = some (.ins C dx [("data", .ref da), ("at", .int (k : Nat))])
  d : H da = some (.lst (ds.map V.int))
  l : k ≤ ds.length
theorem RdAt.same {C : Addr} {H H' : Hp} {x da : Addr} {ds : List Int} {k : Nat} (h : RdAt C H x da ds k) (s : Same H H') : RdAt C H' x da ds k := by
  obtain ⟨dx, ob⟩ := h.ob
  exact ⟨⟨dx, s _ _ ob⟩, s _ _ h.d, h.l⟩
theorem RdAt.ne {C : Addr} {H : Hp} {x da : Addr} {ds : List Int} {k : Nat} (h : RdAt C H x da ds k) : da ≠ x := fun z => by
  obtain ⟨dx, ob⟩ := h.ob
  have := h.d
  rw [z, ob] at this
  cases this
/-- the def reads enc a and answers by out -/
def spRd {α : Type} (C : Addr) (ok : α → Prop) (enc : α → List Int) (out : α → V → Hp → Prop) : Sp := fun vs H Q _ => ∃ (x da : Addr) (ds : List Int) (k : Nat) (a : α) (rest : List Int), vs = [.ref x] ∧ RdAt C H x da ds k ∧ ok a ∧ ds.drop k = enc a ++ rest ∧
  ∀ v H', RdAt C H' x da ds (k + (enc a).length) → Gw x H H' → out a v H' → Q v H'
def spLeft (C : Addr) : Sp := fun vs H Q _ => ∃ (x da : Addr) (ds : List Int) (k : Nat), vs = [.ref x] ∧ RdAt C H x da ds k ∧ Q (.int ((ds.length - k : Nat) : Int)) H
def spChoice (C : Addr) : Sp := fun vs H Q _ => ∃ (x da : Addr) (ds : List Int) (k : Nat) (b m : Int) (rest : List Int), vs = [.ref x, .int m] ∧ RdAt C H x da ds k ∧ b < m ∧ ds.drop k = b :: rest ∧ ∀ H', RdAt C H' x da ds (k + 1) → Gw x H H' → Q (.int b) H'
def spLen (C : Addr) : Sp := fun vs H Q _ => ∃ (x da : Addr) (ds : List Int) (k n : Nat) (rest : List Int), vs = [.ref x] ∧ RdAt C H x da ds k ∧ n < 2 ^ 140 ∧ ds.drop k = numB n ++ rest ∧ n ≤ rest.length ∧ ∀ H', RdAt C H' x da ds (k + (numB n).length) → Gw x H H' → Q (.int (n : Nat)) H'
def outI {α : Type} (f : α → V) : α → V → Hp → Prop := fun a v _ => v = f a
def spByte (C : Addr) : Sp := spRd C (fun _ : Int => True) (fun b => [b]) (outI V.int)
def spNum (C : Addr) : Sp := spRd C (fun n : Nat => n < 2 ^ 140) numB (outI fun n => .int (n : Nat))
def spInt (C : Addr) : Sp := spRd C (fun i : Int => i.natAbs < 2 ^ 140) intB (outI V.int)
def spStr (C : Addr) : Sp := spRd C (fun z : Str => Pr z ∧ z.length ≤ 200) strB (outI V.str)
def spVal (C : Addr) : Sp := spRd C (fun v : V => Scal v) valB (outI id)
def spRdRow (C : Addr) : Sp := spRd C (fun xs : List V => (∀ x ∈ xs, Scal x) ∧ xs.length ≤ 10) rowB (fun xs v H => ∃ p, v = .ref p ∧ H p = some (.tup xs))
def spChar : Sp := fun vs H Q _ => ∃ c : Nat, vs = [.int (c : Nat)] ∧ 32 ≤ c ∧ c < 127 ∧ c ≠ 37 ∧ Q (.str ⟨#[c]⟩) H
def spRInit (K : PySem.W.Frag) (C : Addr) : Sp := fun vs H Q _ => ∃ (x a dx : Addr) (ds : List Int), vs = [.ref x, .ref a] ∧ H x = some (.ins C dx []) ∧ SqL K H a (ds.map V.int) ∧ ∀ H' da, RdAt C H' x da ds 0 → H da = none → Gw x H H' → Q .non H'
end Bd
namespace K1
open PySem PySem.Spec PyProof.Rows L2 Ow Bd
abbrev scharacter : Stmt := topS 23
abbrev Ncharacter : List Str := ["code"]
theorem sccharacter : FnScope Ncharacter ["code"] (defScope scharacter) := ⟨rfl, rfl, rfl, by decide +kernel, rfl, by decide +kernel, by decide +kernel⟩
abbrev sReader_init : Stmt := inClass (topS 24) 0
abbrev NReader_init : List Str := ["self", "data"]
theorem scReader_init : FnScope NReader_init ["self", "data"] (defScope sReader_init) := ⟨rfl, rfl, rfl, by decide +kernel, rfl, by decide +kernel, by decide +kernel⟩
abbrev sReader_left : Stmt := inClass (topS 24) 1
abbrev NReader_left : List Str := ["self"]
theorem scReader_left : FnScope NReader_left ["self"] (defScope sReader_left) := ⟨rfl, rfl, rfl, by decide +kernel, rfl, by decide +kernel, by decide +kernel⟩
abbrev sReader_read_byte : Stmt := inClass (topS 24) 2
abbrev NReader_read_byte : List Str := ["self", "byte"]
theorem scReader_read_byte : FnScope NReader_read_byte ["self"] (defScope sReader_read_byte) := ⟨rfl, rfl, rfl, by decide +kernel, rfl, by decide +kernel, by decide +kernel⟩
abbrev sReader_read_choice : Stmt := inClass (topS 24) 3
abbrev NReader_read_choice : List Str := ["self", "many", "byte"]
theorem scReader_read_choice : FnScope NReader_read_choice ["self", "many"] (defScope sReader_read_choice) := ⟨rfl, rfl, rfl, by decide +kernel, rfl, by decide +kernel, by decide +kernel⟩
abbrev sReader_read_number : Stmt := inClass (topS 24) 4
abbrev NReader_read_number : List Str := ["self", "number", "scale", "place", "byte"]
theorem scReader_read_number : FnScope NReader_read_number ["self"] (defScope sReader_read_number) := ⟨rfl, rfl, rfl, by decide +kernel, rfl, by decide +kernel, by decide +kernel⟩
abbrev sReader_read_length : Stmt := inClass (topS 24) 5
abbrev NReader_read_length : List Str := ["self", "many"]
theorem scReader_read_length : FnScope NReader_read_length ["self"] (defScope sReader_read_length) := ⟨rfl, rfl, rfl, by decide +kernel, rfl, by decide +kernel, by decide +kernel⟩
abbrev sReader_read_integer : Stmt := inClass (topS 24) 6
abbrev NReader_read_integer : List Str := ["self", "sign", "number"]
theorem scReader_read_integer : FnScope NReader_read_integer ["self"] (defScope sReader_read_integer) := ⟨rfl, rfl, rfl, by decide +kernel, rfl, by decide +kernel, by decide +kernel⟩
theorem drop_head {ds : List Int} {k : Nat} {b : Int} {rest : List Int} (h : ds.drop k = b :: rest) : ds[k]? = some b ∧ ds.drop (k + 1) = rest ∧ k < ds.length := by
  have h1 : (ds.drop k)[0]? = some b := by rw [h]; rfl
  rw [List.getElem?_drop, Nat.add_zero] at h1
  refine ⟨h1, ?_, (List.getElem?_eq_some_iff.mp h1).1⟩
  rw [← List.drop_drop, h]
  rfl
theorem drop_enc {ds enc rest : List Int} {k : Nat} (h : ds.drop k = enc ++ rest) : ds.drop (k + enc.length) = rest := by
  rw [← List.drop_drop, h, List.drop_left]
theorem drop_len {ds xs : List Int} {k : Nat} (h : ds.drop k = xs) (l : k ≤ ds.length) : ds.length - k = xs.length := by rw [← h, List.length_drop]
/-- the signs of the table -/
theorem chr_at : ∀ c : Nat, 32 ≤ c → c < 127 → c ≠ 37 → CHRS.cps.toList[if c < 37 then c - 32 else c - 33]? = some c := by
  have : ∀ c, c < 127 → (32 ≤ c → c ≠ 37 → CHRS.cps.toList[if c < 37 then c - 32 else c - 33]? = some c) := by decide +kernel
  exact fun c h1 h2 h3 => this c h2 h1 h3
section
variable {P : Program} {w : World} {K : PySem.W.Frag} {mg : Str → Option Value} {base : Heap}
theorem ok_character {f : Addr} {fd : FuncData} (F : Fun K "character" "character" scharacter f fd) (G0 : Gr mg) : FnOk P w K mg base CX0 1 f fd ["code"] spChar := by
  refine F.ok sccharacter (fun vs H Q E h => ?_) (fun cdv A outer s H vs Q E hr h => ?_)
  · obtain ⟨c, rfl, _⟩ := h
    rfl
  · obtain ⟨c, rfl, h1, h2, h3, q⟩ := h
    obtain ⟨t1, gFIRST_CODE⟩ := G0.first
    obtain ⟨t2, gLAST_CODE⟩ := G0.last
    obtain ⟨t3, gLEFT_OUT_CODE⟩ := G0.out
    obtain ⟨t4, gCHARACTERS⟩ := G0.chars
    refine ⟨_, (pss_cons (ps_if (PW.pt (pw_or (pt_cmpR op_lt (pv 0) (pe_gi (by rfl) gFIRST_CODE) (nomark _)) (pw_or (pt_cmpR op_gt (pv 0) (pe_gi (by rfl) gLAST_CODE) (nomark _)) (pw_or1 (pt_cmpR op_eq (pv 0) (pe_gi (by rfl) gLEFT_OUT_CODE) (nomark _)))))) (pss_one (ps_never)) pss_nil)
      (pss_cons (ps_if (pt_cmpR op_lt (pv 0) (pe_gi (by rfl) gLEFT_OUT_CODE) (nomark _)) (pss_one (ps_ret (pe_ix ix_str (pe_gs (by rfl) gCHARACTERS) (pe_op op_sub (pv 0) (pe_gi (by rfl) gFIRST_CODE)) (fun _ _ => rfl)))) pss_nil)
      (pss_one (ps_ret (pe_ix ix_str (pe_gs (by rfl) gCHARACTERS) (pe_op op_sub (pe_op op_sub (pv 0) (pe_gi (by rfl) gFIRST_CODE)) pe_int) (fun _ _ => rfl)))))), ?_⟩
    have e := chr_at c h1 h2 h3
    refine ⟨_, rfl, _, _, rfl, rfl, _, rfl, ?_⟩
    rw [decide_eq_false (show ¬ ((c : Nat) : Int) < 32 by omega)]
    refine iteF ⟨_, rfl, _, _, rfl, rfl, _, rfl, ?_⟩
    rw [decide_eq_false (show ¬ ((c : Nat) : Int) > 126 by omega)]
    refine iteF ⟨_, rfl, rfl, _, rfl, ?_⟩
    rw [decide_eq_false (show ¬ V.int ((c : Nat) : Int) = V.int 37 by intro z; injection z with z; omega)]
    refine iteF ⟨_, rfl, _, _, rfl, rfl, _, rfl, ?_⟩
    by_cases z : c < 37
    · rw [decide_eq_true (show ((c : Nat) : Int) < 37 by omega)]
      rw [if_pos z] at e
      refine iteT ⟨_, rfl, _, _, rfl, rfl, CHRS, _, c, rfl, rfl, by decide +kernel, ?_, q⟩
      rw [show ((c : Nat) : Int) - 32 = ((c - 32 : Nat) : Int) by omega]
      exact atI_nat e
    · rw [decide_eq_false (show ¬ ((c : Nat) : Int) < 37 by omega)]
      rw [if_neg z] at e
      refine iteF ⟨_, rfl, _, _, rfl, rfl, _, _, rfl, rfl, CHRS, _, c, rfl, rfl, by decide +kernel, ?_, q⟩
      show atI _ (((c : Nat) : Int) - 32 - 1) = _
      rw [show ((c : Nat) : Int) - 32 - 1 = ((c - 33 : Nat) : Int) by omega]
      exact atI_nat e
theorem ok_rinit {f C : Addr} {fd : FuncData} (F : Fun K "__init__" "Reader.__init__" sReader_init f fd) (T0 : Bl mg) (X : TxtR K mg C) : FnOk P w K mg base CX0 1 f fd ["self", "data"] (spRInit K C) := by
  refine F.ok scReader_init (fun vs H Q E h => ?_) (fun cdv A outer s H vs Q E hr h => ?_)
  · obtain ⟨x, a, dx, ds, rfl, _⟩ := h
    rfl
  · obtain ⟨x, a, dx, ds, rfl, ob, sq, q⟩ := h
    refine ⟨_, (pss_cons (ps_fld (pv 0) (pe_callTy call_list_of (by rfl) T0.list (by decide +kernel) (pa_cons (pv 1) pa_nil)) rfl)
      (pss_one (ps_fld (pv 0) pe_int rfl))), ?_⟩
    refine ⟨_, rfl, a, _, rfl, .inl sq, fun p np => ⟨_, rfl, x, C, dx, _, rfl, Same.new np _ _ ob, X.cl, X.data, by show 0 < 1000; decide, ?_⟩⟩
    have px : p ≠ x := fun z => by rw [z, ob] at np; cases np
    refine ⟨_, rfl, x, C, dx, _, rfl, upd_same, X.cl, X.at_, by show 1 < 1000; decide, ?_⟩
    rw [upd_upd]
    exact q _ p ⟨⟨dx, upd_same⟩, by rw [upd_ne px, upd_same], Nat.zero_le _⟩ np ((Gw.new np).trans Gw.put)
theorem ok_rleft {f C : Addr} {fd : FuncData} (F : Fun K "left" "Reader.left" sReader_left f fd) (T0 : Bl mg) (X : TxtR K mg C) : FnOk P w K mg base CX0 1 f fd ["self"] (spLeft C) := by
  refine F.ok scReader_left (fun vs H Q E h => ?_) (fun cdv A outer s H vs Q E hr h => ?_)
  · obtain ⟨x, da, ds, k, rfl, _⟩ := h
    rfl
  · obtain ⟨x, da, ds, k, rfl, R, q⟩ := h
    obtain ⟨dx, ob⟩ := R.ob
    have hk := R.l
    refine ⟨_, (pss_one (ps_ret (pe_op op_sub (pe_callB call_len_seq (by rfl) T0.len PySem.boot_len (pa_cons (pe_fld (pv 0) rfl) pa_nil)) (pe_fld (pv 0) rfl)))), ?_⟩
    refine ⟨_, rfl, x, C, dx, _, _, rfl, ob, X.cl, X.data, rfl, da, _, rfl, .inl (SqL.of R.d), _, rfl, x, C, dx, _, _, rfl, ob, X.cl, X.at_, rfl, _, _, rfl, rfl, ?_⟩
    rw [List.length_map]
    show Q (.int (((ds.length : Nat) : Int) - ((k : Nat) : Int))) H
    rw [show (((ds.length : Nat) : Int) - ((k : Nat) : Int)) = ((ds.length - k : Nat) : Int) by omega]
    exact q
theorem ok_rbyte {f C : Addr} {fd : FuncData} (F : Fun K "read_byte" "Reader.read_byte" sReader_read_byte f fd) (T0 : Bl mg) (X : TxtR K mg C) (Rleft : Kmt P w K mg base C 1 "left" ["self"] (spLeft C)) : FnOk P w K mg base CX0 2 f fd ["self"] (spByte C) := by
  refine F.ok scReader_read_byte (fun vs H Q E h => ?_) (fun cdv A outer s H vs Q E hr h => ?_)
  · obtain ⟨x, da, ds, k, b, rest, rfl, _⟩ := h
    rfl
  · obtain ⟨x, da, ds, k, b, rest, rfl, R, _, hd, q⟩ := h
    obtain ⟨dx, ob⟩ := R.ob
    obtain ⟨e1, e2, e3⟩ := drop_head hd
    refine ⟨_, (pss_cons (ps_if (pt_cmpR op_lt (pe_mt0 Rleft hr (pv 0)) pe_int (nomark _)) (pss_one (ps_never)) pss_nil)
      (pss_cons (ps_set (i := 1) scReader_read_byte.nd rfl (.inl rfl) (pe_ix ix_list (pe_fld (pv 0) rfl) (pe_fld (pv 0) rfl) (fun _ _ => rfl)))
      (pss_cons (ps_fldaug (pv 0) pe_int in_add)
      (pss_one (ps_ret (pv 1)))))), ?_⟩
    refine ⟨_, rfl, x, dx, _, rfl, ob, rfl, x, da, ds, k, rfl, R, _, _, rfl, rfl, _, rfl, ?_⟩
    rw [decide_eq_false (show ¬ ((ds.length - k : Nat) : Int) < 1 by omega)]
    refine iteF ⟨_, rfl, x, C, dx, _, _, rfl, ob, X.cl, X.data, rfl, _, rfl, x, C, dx, _, _, rfl, ob, X.cl, X.at_, rfl, da, _, _, _, rfl, rfl, SqL.of R.d, atI_nat (by rw [List.getElem?_map, e1]; rfl), ?_⟩
    refine ⟨_, rfl, x, C, dx, _, _, rfl, ob, X.cl, X.at_, rfl, _, _, rfl, rfl, dx, _, ob, by show 2 < 1000; decide, ?_⟩
    refine ⟨_, rfl, q _ _ ⟨⟨dx, upd_same⟩, by rw [upd_ne R.ne]; exact R.d, e3⟩ Gw.put rfl⟩
theorem ok_rchoice {f C : Addr} {fd : FuncData} (F : Fun K "read_choice" "Reader.read_choice" sReader_read_choice f fd) (Rbyte : Kmt P w K mg base C 2 "read_byte" ["self"] (spByte C)) : FnOk P w K mg base CX0 3 f fd ["self", "many"] (spChoice C) := by
  refine F.ok scReader_read_choice (fun vs H Q E h => ?_) (fun cdv A outer s H vs Q E hr h => ?_)
  · obtain ⟨x, da, ds, k, b, m, rest, rfl, _⟩ := h
    rfl
  · obtain ⟨x, da, ds, k, b, m, rest, rfl, R, hb, hd, q⟩ := h
    obtain ⟨dx, ob⟩ := R.ob
    refine ⟨_, (pss_cons (ps_set (i := 2) scReader_read_choice.nd rfl (.inl rfl) (pe_mt0 Rbyte hr (pv 0)))
      (pss_cons (ps_if (pt_cmpR op_ge (pv 2) (pv 1) (nomark _)) (pss_one (ps_never)) pss_nil)
      (pss_one (ps_ret (pv 2))))), ?_⟩
    refine ⟨_, rfl, x, dx, _, rfl, ob, rfl, x, da, ds, k, b, rest, rfl, R, trivial, hd, fun v H1 R1 g1 o1 => ?_⟩
    obtain rfl : v = .int b := o1
    refine ⟨_, rfl, _, rfl, _, _, rfl, rfl, _, rfl, ?_⟩
    rw [decide_eq_false (show ¬ b ≥ m by omega)]
    exact iteF ⟨_, rfl, q _ R1 g1⟩
theorem numB_pos (n : Nat) : 0 < (numB n).length := by
  by_cases h : n ≤ 127
  · rw [numB_small h]; simp
  · rw [numB_big h]; simp
theorem ok_rnumber {f C : Addr} {fd : FuncData} (F : Fun K "read_number" "Reader.read_number" sReader_read_number f fd) (T0 : Bl mg) (G0 : Gr mg) (Rbyte : Kmt P w K mg base C 2 "read_byte" ["self"] (spByte C)) : FnOk P w K mg base CX0 3 f fd ["self"] (spNum C) := by
  refine F.ok scReader_read_number (fun vs H Q E h => ?_) (fun cdv A outer s H vs Q E hr h => ?_)
  · obtain ⟨x, da, ds, k, b, rest, rfl, _⟩ := h
    rfl
  · obtain ⟨x, da, ds, k, n, rest, rfl, R, hn, hd, q⟩ := h
    obtain ⟨t1, gMOST_NUMBER_BYTES⟩ := G0.most
    refine ⟨_, (pss_cons (ps_set (i := 1) scReader_read_number.nd rfl (.inl rfl) pe_int)
      (pss_cons (ps_set (i := 2) scReader_read_number.nd rfl (.inl rfl) pe_int)
      (pss_cons (ps_for PassesOwn.never rfl (pi_range1 (by rfl) T0.range (pa_cons (pe_gi (by rfl) gMOST_NUMBER_BYTES) pa_nil)) (pg_name (i := 3) scReader_read_number.nd rfl (.inl rfl)) (pss_cons (ps_set (i := 4) scReader_read_number.nd rfl (.inl rfl) (pe_mt0 Rbyte hr (pv 0)))
      (pss_cons (ps_if (pt_cmpR op_lt (pv 4) pe_int (nomark _)) (pss_cons (ps_if (PW.pt (pw_and (pt_cmpR op_eq (pv 4) pe_int (nomark _)) (pw_and1 (pt_cmpR op_gt (pv 3) pe_int (nomark _))))) (pss_one (ps_never)) pss_nil)
      (pss_one (ps_ret (pe_op op_add (pv 1) (pe_op op_mul (pv 4) (pv 2)))))) pss_nil)
      (pss_cons (ps_aug (i := 1) scReader_read_number.nd rfl (.inl rfl) (pe_op op_mul (pe_op op_sub (pv 4) pe_int) (pv 2)) ip_add)
      (pss_one (ps_aug (i := 2) scReader_read_number.nd rfl (.inl rfl) pe_int ip_mul))))))
      (pss_one (ps_never))))), ?_⟩
    have ln := numB_20 hn
    refine ⟨60, rfl, by decide, by decide, for_range (lo := 0) (n := 60) (fun i σ H' => ∃ v3 v4 m c s, σ = [some (.ref x), some (.int (c : Nat)), some (.int (s : Nat)), v3, v4] ∧ RdAt C H' x da ds (k + i) ∧ Gw x H H' ∧ ds.drop (k + i) = numB m ++ rest ∧ c + m * s = n ∧ (0 < i → 0 < m) ∧ i + (numB m).length = (numB n).length)
      ⟨none, none, n, 0, 1, rfl, R, Gw.refl _ _, hd, by omega, fun z => absurd z (Nat.lt_irrefl _), by omega⟩ ?_ ?_⟩
    · rintro i σ H1 hi ⟨v3, v4, m, c, s, rfl, R1, g1, hd1, hc, hm, hl⟩
      obtain ⟨dx, ob⟩ := R1.ob
      show gName 3 (V.int (0 + (i : Int))) _ _ _
      rw [Int.zero_add]
      by_cases z : m ≤ 127
      · have hb := hd1
        rw [numB_small z] at hb hl
        refine ⟨_, rfl, x, dx, _, rfl, ob, rfl, x, da, ds, k + i, (m : Int), rest, rfl, R1, trivial, hb, fun v H2 R2 g2 o2 => ?_⟩
        obtain rfl : v = .int (m : Int) := o2
        refine ⟨_, rfl, _, _, rfl, rfl, _, rfl, ?_⟩
        rw [decide_eq_true (show ((m : Nat) : Int) < 128 by omega)]
        refine iteT ?_
        refine ⟨_, rfl, rfl, _, rfl, ?_⟩
        have fin : Q (.int ((c : Nat) + (m : Nat) * (s : Nat) : Int)) H2 := by
          have e : ((c : Nat) + (m : Nat) * (s : Nat) : Int) = ((n : Nat) : Int) := by rw [← hc]; simp
          rw [e]
          refine q _ _ ?_ (g1.trans g2) rfl
          have e2 : k + i + [(m : Int)].length = k + (numB n).length := by rw [← hl]; simp; omega
          rw [← e2]
          exact R2
        by_cases y : m = 0
        · rw [decide_eq_true (show V.int ((m : Nat) : Int) = V.int 0 by rw [y]; rfl)]
          refine iteT ⟨_, rfl, _, _, rfl, rfl, _, rfl, ?_⟩
          have i0 : ¬ 0 < i := fun h => by have := hm h; omega
          rw [decide_eq_false (show ¬ ((i : Nat) : Int) > 0 by omega)]
          refine iteF ⟨_, rfl, _, rfl, _, rfl, _, _, rfl, rfl, .inl ⟨by omega, by omega⟩, _, _, rfl, rfl, fin⟩
        · rw [decide_eq_false (show ¬ V.int ((m : Nat) : Int) = V.int 0 by intro h; injection h with h; omega)]
          refine iteF (iteF ⟨_, rfl, _, rfl, _, rfl, _, _, rfl, rfl, .inl ⟨by omega, by omega⟩, _, _, rfl, rfl, fin⟩)
      · have hb := hd1
        rw [numB_big z] at hb hl
        refine ⟨_, rfl, x, dx, _, rfl, ob, rfl, x, da, ds, k + i, 128 + (m : Int) % 128, numB (m / 128) ++ rest, rfl, R1, trivial, hb, fun v H2 R2 g2 o2 => ?_⟩
        obtain rfl : v = .int (128 + (m : Int) % 128) := o2
        refine ⟨_, rfl, _, _, rfl, rfl, _, rfl, ?_⟩
        rw [decide_eq_false (show ¬ 128 + (m : Int) % 128 < 128 by omega)]
        refine iteF ?_
        refine ⟨_, rfl, _, rfl, _, _, rfl, rfl, _, rfl, _, _, rfl, rfl, .inl ⟨by omega, by omega⟩, _, _, rfl, rfl, ?_⟩
        refine ⟨_, rfl, _, _, rfl, rfl, .inr ⟨by decide, by decide⟩, ?_⟩
        have dm := Nat.div_add_mod m 128
        refine ⟨some (.int (i : Nat)), some (.int (128 + ((m : Nat) : Int) % 128)), m / 128, c + m % 128 * s, s * 128, ?_, ?_, g1.trans g2, ?_, ?_, fun _ => Nat.div_pos (by omega) (by decide), by rw [← hl]; simp; omega⟩
        · show [some (V.ref x), some (V.int (((c : Nat) : Int) + (128 + ((m : Nat) : Int) % 128 - 128) * ((s : Nat) : Int))), some (V.int (((s : Nat) : Int) * 128)), _, _] = _
          congr 3
          · congr 2
            have : (128 + ((m : Nat) : Int) % 128 - 128) = ((m % 128 : Nat) : Int) := by omega
            rw [this]
            simp
        · exact R2
        · have := drop_head hb
          exact this.2.1
        · rw [← hc]
          have e : m * s = (128 * (m / 128) + m % 128) * s := by rw [dm]
          rw [e, Nat.add_mul]
          have e2 : m / 128 * (s * 128) = 128 * (m / 128) * s := by
            rw [Nat.mul_comm s 128, ← Nat.mul_assoc, Nat.mul_comm (m / 128) 128]
          omega
    · rintro σ H1 ⟨v3, v4, m, c, s, rfl, R1, g1, hd1, hc, hm, hl⟩
      have := numB_pos m
      omega
theorem ok_rlength {f C : Addr} {fd : FuncData} (F : Fun K "read_length" "Reader.read_length" sReader_read_length f fd) (Rleft : Kmt P w K mg base C 1 "left" ["self"] (spLeft C)) (Rnumber : Kmt P w K mg base C 3 "read_number" ["self"] (spNum C)) : FnOk P w K mg base CX0 4 f fd ["self"] (spLen C) := by
  refine F.ok scReader_read_length (fun vs H Q E h => ?_) (fun cdv A outer s H vs Q E hr h => ?_)
  · obtain ⟨x, da, ds, k, n, rest, rfl, _⟩ := h
    rfl
  · obtain ⟨x, da, ds, k, n, rest, rfl, R, hn, hd, hl, q⟩ := h
    obtain ⟨dx, ob⟩ := R.ob
    refine ⟨_, (pss_cons (ps_set (i := 1) scReader_read_length.nd rfl (.inl rfl) (pe_mt0 Rnumber hr (pv 0)))
      (pss_cons (ps_if (pt_cmpR op_gt (pv 1) (pe_mt0 Rleft hr (pv 0)) (nomark _)) (pss_one (ps_never)) pss_nil)
      (pss_one (ps_ret (pv 1))))), ?_⟩
    refine ⟨_, rfl, x, dx, _, rfl, ob, rfl, x, da, ds, k, n, rest, rfl, R, hn, hd, fun v H1 R1 g1 o1 => ?_⟩
    obtain rfl : v = .int (n : Nat) := o1
    obtain ⟨dx1, ob1⟩ := R1.ob
    refine ⟨_, rfl, _, rfl, x, dx1, _, rfl, ob1, rfl, x, da, ds, _, rfl, R1, _, _, rfl, rfl, _, rfl, ?_⟩
    have e := drop_len (drop_enc hd) R1.l
    rw [e, decide_eq_false (show ¬ ((n : Nat) : Int) > ((rest.length : Nat) : Int) by omega)]
    exact iteF ⟨_, rfl, q _ R1 g1⟩
theorem ok_rinteger {f C : Addr} {fd : FuncData} (F : Fun K "read_integer" "Reader.read_integer" sReader_read_integer f fd) (Rchoice : Kmt P w K mg base C 3 "read_choice" ["self", "many"] (spChoice C)) (Rnumber : Kmt P w K mg base C 3 "read_number" ["self"] (spNum C)) : FnOk P w K mg base CX0 4 f fd ["self"] (spInt C) := by
  refine F.ok scReader_read_integer (fun vs H Q E h => ?_) (fun cdv A outer s H vs Q E hr h => ?_)
  · obtain ⟨x, da, ds, k, n, rest, rfl, _⟩ := h
    rfl
  · obtain ⟨x, da, ds, k, i, rest, rfl, R, hn, hd, q⟩ := h
    obtain ⟨dx, ob⟩ := R.ob
    refine ⟨_, (pss_cons (ps_set (i := 1) scReader_read_integer.nd rfl (.inl rfl) (pe_mt Rchoice hr (pv 0) (pa_cons pe_int pa_nil)))
      (pss_cons (ps_set (i := 2) scReader_read_integer.nd rfl (.inl rfl) (pe_mt0 Rnumber hr (pv 0)))
      (pss_cons (ps_if (pt_cmpR op_eq (pv 1) pe_int (nomark _)) (pss_one (ps_ret (pv 2))) pss_nil)
      (pss_cons (ps_if (pt_cmpR op_eq (pv 2) pe_int (nomark _)) (pss_one (ps_never)) pss_nil)
      (pss_one (ps_ret (pe_un un_neg (pv 2)))))))), ?_⟩
    have hd' : ds.drop k = (if i < 0 then 1 else 0) :: (numB i.natAbs ++ rest) := hd
    refine ⟨_, rfl, x, dx, _, rfl, ob, rfl, x, da, ds, k, (if i < 0 then 1 else 0), 2, _, rfl, R, by split <;> decide, hd', fun H1 R1 g1 => ?_⟩
    obtain ⟨dx1, ob1⟩ := R1.ob
    refine ⟨_, rfl, x, dx1, _, rfl, ob1, rfl, x, da, ds, k + 1, i.natAbs, rest, rfl, R1, hn, (drop_head hd').2.1, fun v H2 R2 g2 o2 => ?_⟩
    obtain rfl : v = .int (i.natAbs : Nat) := o2
    have R3 : RdAt C H2 x da ds (k + (intB i).length) := by
      have : k + (intB i).length = k + 1 + (numB i.natAbs).length := by unfold intB; rw [List.length_cons]; omega
      rw [this]
      exact R2
    refine ⟨_, rfl, rfl, _, rfl, ?_⟩
    by_cases z : i < 0
    · rw [if_pos z]
      rw [decide_eq_false (show ¬ V.int 1 = V.int 0 by decide)]
      refine iteF ⟨_, rfl, rfl, _, rfl, ?_⟩
      rw [decide_eq_false (show ¬ V.int ((i.natAbs : Nat) : Int) = V.int 0 by intro h; injection h with h; omega)]
      refine iteF ⟨_, rfl, _, rfl, ?_⟩
      show Q (.int (-((i.natAbs : Nat) : Int))) H2
      rw [show -((i.natAbs : Nat) : Int) = i by omega]
      exact q _ _ R3 (g1.trans g2) rfl
    · rw [if_neg z]
      rw [decide_eq_true (show V.int 0 = V.int 0 from rfl)]
      refine iteT ⟨_, rfl, ?_⟩
      rw [show ((i.natAbs : Nat) : Int) = i by omega]
      exact q _ _ R3 (g1.trans g2) rfl
end
end K1
namespace K1
open PySem PySem.Spec PyProof.Rows L2 Ow Bd
abbrev sReader_read_string : Stmt := inClass (topS 24) 7
abbrev NReader_read_string : List Str := ["self", "_"]
theorem scReader_read_string : FnScope NReader_read_string ["self"] (defScope sReader_read_string) := ⟨rfl, rfl, rfl, by decide +kernel, rfl, by decide +kernel, by decide +kernel⟩
abbrev sReader_read_value : Stmt := inClass (topS 24) 9
abbrev NReader_read_value : List Str := ["self"]
theorem scReader_read_value : FnScope NReader_read_value ["self"] (defScope sReader_read_value) := ⟨rfl, rfl, rfl, by decide +kernel, rfl, by decide +kernel, by decide +kernel⟩
abbrev sReader_read_row : Stmt := inClass (topS 24) 10
abbrev NReader_read_row : List Str := ["self", "_"]
theorem scReader_read_row : FnScope NReader_read_row ["self"] (defScope sReader_read_row) := ⟨rfl, rfl, rfl, by decide +kernel, rfl, by decide +kernel, by decide +kernel⟩
theorem joinL_flat : ∀ ps : List (List Nat), TL.joinL [] ps = ps.flatten
  | [] => rfl
  | [p] => by simp [TL.joinL]
  | p :: q :: r => by
    have e : TL.joinL [] (p :: q :: r) = p ++ ([] ++ TL.joinL [] (q :: r)) := rfl
    rw [e, List.nil_append, joinL_flat (q :: r)]
    rfl
def sgn (c : Nat) : Str := ⟨#[c]⟩
theorem flat_sgn : ∀ l : List Nat, ((l.map sgn).map fun z => z.cps.toList).flatten = l
  | [] => rfl
  | c :: l => by
    rw [List.map_cons, List.map_cons, List.flatten_cons, flat_sgn l]
    rfl
theorem join_sgn (z : Str) : Txt.join (PySem.Str.ofString "") (z.cps.toList.map sgn) = z := by
  apply TL.ext_tl
  rw [TL.join_eq, TL.tl_join]
  show TL.joinL [] ((z.cps.toList.map sgn).map fun z => z.cps.toList) = z.cps.toList
  rw [joinL_flat, flat_sgn]
theorem sum_sgn (l : List Nat) : ((l.map sgn).map (·.length)).sum = l.length := by
  induction l with
  | nil => rfl
  | cons c l ih =>
    rw [List.map_cons, List.map_cons, List.sum_cons, ih, List.length_cons]
    show 1 + l.length = _
    omega
theorem RdUpd {C : Addr} {H : Hp} {x da D : Addr} {ds : List Int} {k : Nat} {o : HO} (h : RdAt C H x da ds k) (n1 : D ≠ x) (n2 : D ≠ da) : RdAt C (upd H D o) x da ds k := by
  obtain ⟨dx, ob⟩ := h.ob
  exact ⟨⟨dx, by rw [upd_ne n1.symm]; exact ob⟩, by rw [upd_ne n2.symm]; exact h.d, h.l⟩
theorem RdNew {C : Addr} {H : Hp} {x da D : Addr} {ds : List Int} {k : Nat} (h : RdAt C H x da ds k) (n : H D = none) : D ≠ x ∧ D ≠ da := by
  obtain ⟨dx, ob⟩ := h.ob
  exact ⟨(fun z => by rw [z, ob] at n; cases n), fun z => by have := h.d; rw [← z, n] at this; cases this⟩
theorem valB_pos {v : V} (h : Scal v) : 1 ≤ (valB v).length := by
  rcases h with ⟨i, rfl, _⟩ | ⟨z, rfl, _, _⟩
  · show 1 ≤ (_ :: _).length
    rw [List.length_cons]
    omega
  · show 1 ≤ (_ :: _).length
    rw [List.length_cons]
    omega
theorem flat_pos : ∀ {xs : List V}, (∀ x ∈ xs, Scal x) → xs.length ≤ ((xs.map valB).flatten).length
  | [], _ => Nat.zero_le _
  | x :: xs, h => by
    have h1 := valB_pos (h x List.mem_cons_self)
    have h2 := flat_pos (xs := xs) fun y m => h y (List.mem_cons_of_mem _ m)
    rw [List.map_cons, List.flatten_cons, List.length_append, List.length_cons]
    omega
section
variable {P : Program} {w : World} {K : PySem.W.Frag} {mg : Str → Option Value} {base : Heap}
theorem ok_rstring {f C : Addr} {fd : FuncData} (F : Fun K "read_string" "Reader.read_string" sReader_read_string f fd) (T0 : Bl mg) (Dcharacter : Kn P w K mg base 1 "character" ["code"] spChar) (Rbyte : Kmt P w K mg base C 2 "read_byte" ["self"] (spByte C)) (Rlength : Kmt P w K mg base C 4 "read_length" ["self"] (spLen C)) : FnOk P w K mg base CX0 5 f fd ["self"] (spStr C) := by
  refine F.ok scReader_read_string (fun vs H Q E h => ?_) (fun cdv A outer s H vs Q E hr h => ?_)
  · obtain ⟨x, da, ds, k, n, rest, rfl, _⟩ := h
    rfl
  · obtain ⟨x, da, ds, k, z, rest, rfl, R, ⟨hp, hz⟩, hd, q⟩ := h
    obtain ⟨dx, ob⟩ := R.ob
    have hd' : ds.drop k = numB z.length ++ (cpB z ++ rest) := by rw [← List.append_assoc]; exact hd
    have lz : z.cps.toList.length = z.length := by rw [Array.length_toList]; rfl
    refine ⟨_, (pss_one (ps_ret (pe_join pe_str (pe_lc (own := [("_", 1)]) (g := gName 1) (tt := tYes) rfl scReader_read_string.nd (pi_range1 (by rfl) T0.range (pa_cons (pe_mt0 Rlength hr (pv 0)) pa_nil)) (blkOk_by (own := [("_", 1)]) (N := NReader_read_string) (sc := defScope sReader_read_string) (by decide +kernel)) (fun _ _ _ _ _ => pg_name (i := 1) scReader_read_string.nd rfl (Or.inl rfl)) (fun _ _ _ _ _ => pts_nil) (fun _ _ _ _ _ => (pe_kn Dcharacter hr (pa_cons (pe_mt0 Rbyte hr (pv 0)) pa_nil))))))), ?_⟩
    refine ⟨⟨_, rfl⟩, _, rfl, x, dx, _, rfl, ob, rfl, x, da, ds, k, z.length, cpB z ++ rest, rfl, R, Nat.lt_of_le_of_lt hz (by decide), hd', by rw [List.length_append, cpB_len]; omega, fun H1 R1 g1 => ?_⟩
    have hd1 := drop_enc hd'
    refine ⟨(z.length : Nat), rfl, by omega, by omega, fun D nD => ?_⟩
    obtain ⟨n1, n2⟩ := RdNew R1 nD
    refine lc_it (walk_range (lo := 0) (n := z.length)) (fun i H' => H' D = some (.lst (((z.cps.toList.take i).map sgn).map V.str)) ∧ RdAt C H' x da ds (k + (numB z.length).length + i) ∧ Gw x H H') ⟨upd_same, RdUpd R1 n1 n2, g1.trans (Gw.new nD)⟩ (fun _ _ _ _ => trivial) (fun i v H3 H3' hi ⟨eD, R3, g3⟩ yy => ?_) fun H3 ⟨eD, R3, g3⟩ => ?_
    · obtain ⟨rfl, rfl⟩ := yy
      have hil : i < z.cps.toList.length := by rw [lz]; exact hi
      have ec : z.cps.toList[i]? = some z.cps.toList[i] := List.getElem?_eq_getElem hil
      generalize z.cps.toList[i] = c at ec
      obtain ⟨c1, c2, c3⟩ := hp c (List.mem_of_getElem? ec)
      have hdi : ds.drop (k + (numB z.length).length + i) = (c : Int) :: ((cpB z).drop (i + 1) ++ rest) := by
        rw [← List.drop_drop, hd1, List.drop_append_of_le_length (by rw [cpB_len]; omega)]
        have : (cpB z).drop i = (c : Int) :: (cpB z).drop (i + 1) := by
          have e : (cpB z)[i]? = some (c : Int) := by unfold cpB; rw [List.getElem?_map, ec]; rfl
          obtain ⟨h1, h2⟩ := List.getElem?_eq_some_iff.mp e
          rw [List.drop_eq_getElem_cons h1, h2]
        rw [this]
        rfl
      obtain ⟨dx3, ob3⟩ := R3.ob
      refine ⟨rfl, _, rfl, x, dx3, _, rfl, ob3, rfl, x, da, ds, _, (c : Int), _, rfl, R3, trivial, hdi, fun v H4 R4 g4 o4 => ?_⟩
      obtain rfl : v = .int (c : Int) := o4
      refine ⟨c, rfl, c1, c2, c3, _, g4 _ _ n1 eD, ?_, ?_, RdUpd R4 n1 n2, Gw.over (g3.trans g4) (g1.free nD n1)⟩
      · rw [List.length_map, List.length_map, List.length_take]
        exact small (m := 1000) (by omega) (by decide)
      · rw [upd_same, List.take_succ, ec, List.map_append, List.map_append]
        rfl
    · rw [← lz, List.take_length] at eD
      refine ⟨_, D, z.cps.toList.map sgn, rfl, rfl, .inl (SqL.of eD), ?_, ?_⟩
      · rw [sum_sgn, lz]
        show z.length + _ * 0 ≤ _
        omega
      · have e2 : k + (strB z).length = k + (numB z.length).length + z.length := by unfold strB; rw [List.length_append, cpB_len]; omega
        rw [join_sgn z]
        exact q _ _ (by rw [e2]; exact R3) g3 rfl
theorem ok_rvalue {f C : Addr} {fd : FuncData} (F : Fun K "read_value" "Reader.read_value" sReader_read_value f fd) (Rchoice : Kmt P w K mg base C 3 "read_choice" ["self", "many"] (spChoice C)) (Rstring : Kmt P w K mg base C 5 "read_string" ["self"] (spStr C)) (Rinteger : Kmt P w K mg base C 4 "read_integer" ["self"] (spInt C)) : FnOk P w K mg base CX0 6 f fd ["self"] (spVal C) := by
  refine F.ok scReader_read_value (fun vs H Q E h => ?_) (fun cdv A outer s H vs Q E hr h => ?_)
  · obtain ⟨x, da, ds, k, n, rest, rfl, _⟩ := h
    rfl
  · obtain ⟨x, da, ds, k, v, rest, rfl, R, hs, hd, q⟩ := h
    obtain ⟨dx, ob⟩ := R.ob
    refine ⟨_, (pss_cons (ps_if (pt_cmpR op_eq (pe_mt Rchoice hr (pv 0) (pa_cons pe_int pa_nil)) pe_int (nomark _)) (pss_one (ps_ret (pe_mt0 Rstring hr (pv 0)))) pss_nil)
      (pss_one (ps_ret (pe_mt0 Rinteger hr (pv 0))))), ?_⟩
    rcases hs with ⟨i, rfl, hi⟩ | ⟨z, rfl, hp, hz⟩
    · have hd' : ds.drop k = 0 :: (intB i ++ rest) := hd
      refine ⟨_, rfl, x, dx, _, rfl, ob, rfl, x, da, ds, k, 0, 2, _, rfl, R, by decide, hd', fun H1 R1 g1 => ?_⟩
      obtain ⟨dx1, ob1⟩ := R1.ob
      refine ⟨rfl, _, rfl, ?_⟩
      rw [decide_eq_false (show ¬ V.int 0 = V.int 1 by decide)]
      refine iteF ⟨_, rfl, x, dx1, _, rfl, ob1, rfl, x, da, ds, k + 1, i, rest, rfl, R1, hi, (drop_head hd').2.1, fun v H2 R2 g2 o2 => ?_⟩
      have e : k + (valB (.int i)).length = k + 1 + (intB i).length := by show k + (_ + 1) = _; omega
      exact q _ _ (by rw [e]; exact R2) (g1.trans g2) o2
    · have hd' : ds.drop k = 1 :: (strB z ++ rest) := hd
      refine ⟨_, rfl, x, dx, _, rfl, ob, rfl, x, da, ds, k, 1, 2, _, rfl, R, by decide, hd', fun H1 R1 g1 => ?_⟩
      obtain ⟨dx1, ob1⟩ := R1.ob
      refine ⟨rfl, _, rfl, ?_⟩
      rw [decide_eq_true (show V.int 1 = V.int 1 from rfl)]
      refine iteT ⟨_, rfl, x, dx1, _, rfl, ob1, rfl, x, da, ds, k + 1, z, rest, rfl, R1, ⟨hp, hz⟩, (drop_head hd').2.1, fun v H2 R2 g2 o2 => ?_⟩
      have e : k + (valB (.str z)).length = k + 1 + (strB z).length := by show k + (_ + 1) = _; omega
      exact q _ _ (by rw [e]; exact R2) (g1.trans g2) o2
theorem ok_rrow {f C : Addr} {fd : FuncData} (F : Fun K "read_row" "Reader.read_row" sReader_read_row f fd) (T0 : Bl mg) (Rvalue : Kmt P w K mg base C 6 "read_value" ["self"] (spVal C)) (Rlength : Kmt P w K mg base C 4 "read_length" ["self"] (spLen C)) : FnOk P w K mg base CX0 7 f fd ["self"] (spRdRow C) := by
  refine F.ok scReader_read_row (fun vs H Q E h => ?_) (fun cdv A outer s H vs Q E hr h => ?_)
  · obtain ⟨x, da, ds, k, n, rest, rfl, _⟩ := h
    rfl
  · obtain ⟨x, da, ds, k, xs, rest, rfl, R, ⟨hs, hx⟩, hd, q⟩ := h
    obtain ⟨dx, ob⟩ := R.ob
    have hd' : ds.drop k = numB xs.length ++ ((xs.map valB).flatten ++ rest) := by
      rw [hd]
      unfold rowB listB
      rw [List.length_map, List.append_assoc]
    have fp := flat_pos hs
    refine ⟨_, (pss_one (ps_ret (pe_callTy call_tuple_of (by rfl) T0.tuple (by decide +kernel) (pa_cons (pe_lc (own := [("_", 1)]) (g := gName 1) (tt := tYes) rfl scReader_read_row.nd (pi_range1 (by rfl) T0.range (pa_cons (pe_mt0 Rlength hr (pv 0)) pa_nil)) (blkOk_by (own := [("_", 1)]) (N := NReader_read_row) (sc := defScope sReader_read_row) (by decide +kernel)) (fun _ _ _ _ _ => pg_name (i := 1) scReader_read_row.nd rfl (Or.inl rfl)) (fun _ _ _ _ _ => pts_nil) (fun _ _ _ _ _ => (pe_mt0 Rvalue hr (pv 0)))) pa_nil)))), ?_⟩
    refine ⟨_, rfl, x, dx, _, rfl, ob, rfl, x, da, ds, k, xs.length, _, rfl, R, Nat.lt_of_le_of_lt hx (by decide), hd', by rw [List.length_append]; omega, fun H1 R1 g1 => ?_⟩
    have hd1 := drop_enc hd'
    refine ⟨(xs.length : Nat), rfl, by omega, by omega, fun D nD => ?_⟩
    obtain ⟨n1, n2⟩ := RdNew R1 nD
    have oD := g1.free nD n1
    refine lc_it (walk_range (lo := 0) (n := xs.length)) (fun i H' => H' D = some (.lst (xs.take i)) ∧ Gw x H H' ∧ ∃ j, RdAt C H' x da ds j ∧ ds.drop j = ((xs.drop i).map valB).flatten ++ rest ∧ j + (((xs.drop i).map valB).flatten).length = k + (rowB xs).length) ⟨upd_same, g1.trans (Gw.new nD), _, RdUpd R1 n1 n2, hd1, ?_⟩ (fun _ _ _ _ => trivial) (fun i v H3 H3' hi ⟨eD, g3, j, R3, hd3, hl3⟩ yy => ?_) fun H3 ⟨eD, g3, j, R3, hd3, hl3⟩ => ?_
    · unfold rowB listB
      rw [List.length_append, List.length_map, List.drop_zero]
      omega
    · obtain ⟨rfl, rfl⟩ := yy
      obtain ⟨dx3, ob3⟩ := R3.ob
      have ei : xs[i]? = some xs[i] := List.getElem?_eq_getElem hi
      have hdi : ds.drop j = valB xs[i] ++ (((xs.drop (i + 1)).map valB).flatten ++ rest) := by
        rw [hd3, List.drop_eq_getElem_cons hi, List.map_cons, List.flatten_cons, List.append_assoc]
      refine ⟨rfl, _, rfl, x, dx3, _, rfl, ob3, rfl, x, da, ds, j, xs[i], _, rfl, R3, hs _ (List.getElem_mem hi), hdi, fun v H4 R4 g4 o4 => ?_⟩
      obtain rfl : v = xs[i] := o4
      refine ⟨_, g4 _ _ n1 eD, ?_, ?_, Gw.over (g3.trans g4) oD, _, RdUpd R4 n1 n2, drop_enc hdi, ?_⟩
      · rw [List.length_take]
        exact small (m := 1000) (by omega) (by decide)
      · rw [upd_same, List.take_succ, ei]
        rfl
      · rw [← hl3, List.drop_eq_getElem_cons hi, List.map_cons, List.flatten_cons, List.length_append]
        omega
    · rw [List.take_length] at eD
      rw [List.drop_length] at hl3
      refine ⟨D, _, rfl, .inl ⟨SqL.of eD, fun t nt => ?_⟩⟩
      have R4 := R3.same (Same.new (o := .tup xs) nt)
      have ej : j = k + (rowB xs).length := by simpa using hl3
      rw [ej] at R4
      exact q _ _ R4 (g3.trans (Gw.new nt)) ⟨t, rfl, upd_same⟩
end
end K1
namespace K1
open PySem PySem.Spec PyProof.Rows L2 Ow Bd
abbrev s_law_read_rows : Stmt := topS 51
abbrev N_law_read_rows : List Str := ["sectors", "rows", "empty", "sector", "reader", "k"]
theorem sc_law_read_rows : FnScope N_law_read_rows ["sectors"] (defScope s_law_read_rows) := ⟨rfl, rfl, rfl, by decide +kernel, rfl, by decide +kernel, by decide +kernel⟩
/-! sectors by their rows -/
def secU (g : List (List V)) : List Int := (g.length : Int) :: (g.map rowB).flatten
def sec (g : List (List V)) : List Int := padS (secU g)
theorem sec_nil : sec [] = zero64 := by decide +kernel
theorem rowB_pos (r : List V) : 1 ≤ (rowB r).length := by
  unfold rowB listB
  rw [List.length_append]
  have := numB_pos (r.map valB).length
  omega
theorem rows_pos : ∀ g : List (List V), g.length ≤ ((g.map rowB).flatten).length
  | [] => Nat.zero_le _
  | r :: g => by
    have h1 := rowB_pos r
    have h2 := rows_pos g
    rw [List.map_cons, List.flatten_cons, List.length_append, List.length_cons]
    omega
structure PkG (p : Pk) (gs : List (List (List V))) (g : List (List V)) : Prop where
  S : p.S = gs.map secU
  cur : p.cur = (g.map rowB).flatten
  cnt : p.cnt = (g.length : Int)
  ok : ∀ x ∈ gs, x ≠ [] ∧ ((x.map rowB).flatten).length ≤ 63
  l : ((g.map rowB).flatten).length ≤ 63
  nn : g = [] → gs = []
theorem PkG.step {p : Pk} {gs : List (List (List V))} {g : List (List V)} {r : List V} (h : PkG p gs g) (hr : (rowB r).length ≤ 63) : ∃ gs' g', PkG (pkS p (rowB r)) gs' g' ∧ gs'.flatten ++ g' = gs.flatten ++ g ++ [r] := by
  unfold pkS
  rw [h.cur]
  split
  · rename_i z
    have gn : g ≠ [] := fun y => by rw [y] at z; simp at z; omega
    refine ⟨gs ++ [g], [r], ⟨?_, by simp, rfl, fun x m => ?_, by simpa using hr, fun y => by cases y⟩, by simp⟩
    · rw [h.S, h.cnt, List.map_append]
      rfl
    · rcases List.mem_append.mp m with m | m
      · exact h.ok x m
      · rw [List.mem_singleton.mp m]
        exact ⟨gn, h.l⟩
  · rename_i z
    refine ⟨gs, g ++ [r], ⟨h.S, by simp, ?_, h.ok, by simp; simp at z; omega, fun y => by simp at y⟩, by simp⟩
    show p.cnt + 1 = _
    rw [h.cnt, List.length_append]
    rfl
theorem PkG.all : ∀ (rs : List (List V)) (p : Pk) (gs : List (List (List V))) (g : List (List V)), PkG p gs g → (∀ r ∈ rs, (rowB r).length ≤ 63) → ∃ gs' g', PkG ((rs.map rowB).foldl pkS p) gs' g' ∧ gs'.flatten ++ g' = gs.flatten ++ g ++ rs
  | [], p, gs, g, h, _ => ⟨gs, g, h, by simp⟩
  | r :: rs, p, gs, g, h, hr => by
    obtain ⟨gs1, g1, h1, e1⟩ := h.step (hr r List.mem_cons_self)
    obtain ⟨gs2, g2, h2, e2⟩ := PkG.all rs _ gs1 g1 h1 fun x m => hr x (List.mem_cons_of_mem _ m)
    exact ⟨gs2, g2, h2, by rw [e2, e1]; simp⟩
theorem pack_groups {rs : List (List V)} {us : List (List Int)} (h : packO (rs.map rowB) = some us) : ∃ gs : List (List (List V)), us = gs.map sec ∧ gs.flatten = rs ∧ ∀ x ∈ gs, x ≠ [] ∧ ((x.map rowB).flatten).length ≤ 63 := by
  have ok : ∀ r ∈ rs, (rowB r).length ≤ 63 := fun r m => by
    by_cases z : (rowB r).length ≤ 63
    · exact z
    · rw [packO_none (List.mem_map.mpr ⟨r, m, rfl⟩) (by omega)] at h
      cases h
  rw [packO_some (fun c m => by obtain ⟨r, mr, e⟩ := List.mem_map.mp m; rw [← e]; exact ok r mr)] at h
  obtain ⟨gs, g, k, e⟩ := PkG.all rs pk0 [] [] ⟨rfl, rfl, rfl, fun x m => (nomatch m), by simp, fun _ => rfl⟩ ok
  have e : gs.flatten ++ g = rs := by simpa using e
  have hu : (pkAll (pkF (rs.map rowB))).map padS = us := Option.some.inj h
  have k : PkG (pkF (rs.map rowB)) gs g := k
  unfold pkAll at hu
  rw [k.cnt, k.S, k.cur] at hu
  by_cases z : g = []
  · subst z
    have := k.nn rfl
    subst this
    refine ⟨[], by rw [← hu]; rfl, by simpa using e, fun x m => nomatch m⟩
  · have : (g.length : Int) > 0 := by
      have := List.length_pos_iff.mpr z
      omega
    rw [if_pos this] at hu
    refine ⟨gs ++ [g], ?_, by rw [List.flatten_append]; simpa using e, fun x m => ?_⟩
    · rw [← hu, List.map_append, List.map_append, List.map_map]
      rfl
    · rcases List.mem_append.mp m with m | m
      · exact k.ok x m
      · rw [List.mem_singleton.mp m]
        exact ⟨z, k.l⟩
theorem fill_groups {rs : List (Addr × List V)} {n : Nat} {ss : List (List Int)} (h : fillO (codes rs) n = some ss) : ∃ (gs : List (List (List V))) (m : Nat), ss = (gs ++ List.replicate m []).map sec ∧ gs.flatten = rs.map (·.2) ∧ ∀ x ∈ gs, x ≠ [] ∧ ((x.map rowB).flatten).length ≤ 63 := by
  unfold fillO at h
  rw [codes_map] at h
  cases e : packO ((rs.map (·.2)).map rowB) with
  | none => rw [e] at h; cases h
  | some us =>
    rw [e] at h
    obtain ⟨gs, e1, e2, e3⟩ := pack_groups e
    by_cases z : n < us.length
    · have h : (if n < us.length then none else some (us ++ List.replicate (n - us.length) zero64)) = some ss := h
      rw [if_pos z] at h
      cases h
    · have h : (if n < us.length then none else some (us ++ List.replicate (n - us.length) zero64)) = some ss := h
      rw [if_neg z] at h
      refine ⟨gs, n - us.length, ?_, e2, e3⟩
      rw [← Option.some.inj h, List.map_append, List.map_replicate, sec_nil, e1]
theorem sec_len {g : List (List V)} (h : ((g.map rowB).flatten).length ≤ 63) : (sec g).length = 64 := by
  unfold sec
  refine padS_len ?_
  unfold secU
  rw [List.length_cons]
  omega
theorem sec_cons {g : List (List V)} (h : ((g.map rowB).flatten).length ≤ 63) : sec g = (g.length : Int) :: ((g.map rowB).flatten ++ List.replicate (63 - ((g.map rowB).flatten).length) 0) := by
  unfold sec padS secU
  rw [List.cons_append, List.length_cons]
  congr 3
  omega
theorem intsD {K : PySem.W.Frag} {H : Hp} : ∀ s : List Int, DpAll K H (s.map V.int) (s.map PyData.int)
  | [] => .nil
  | x :: s => .cons (.int x) (intsD s)
theorem ints_lay (xs : List Int) : (PyData.list (xs.map PyData.int)).canLay0 = true ∧ (PyData.list (xs.map PyData.int)).depth ≤ 1 := by
  rw [PyData.canLay0, PyData.depth]
  have l : PyData.canLayAll0 (xs.map PyData.int) = true := layAll fun x mx => by
    obtain ⟨i, mi, rfl⟩ := List.mem_map.mp mx
    simp [PyData.canLay0]
  have e : PyData.depthAll (xs.map PyData.int) ≤ 0 := depthAll_le fun x mx => by
    obtain ⟨i, mi, rfl⟩ := List.mem_map.mp mx
    simp [PyData.depth]
  exact ⟨l, by omega⟩
theorem ints_shaped (xs : List Int) : SeqAt.shaped (.list (xs.map PyData.int)) = true := by
  have := ints_lay xs
  unfold SeqAt.shaped
  rw [this.1, decide_eq_true (by omega)]
  rfl
theorem cutFrom (xs : List V) (k : Nat) : cutV xs (some (k : Int)) none = xs.drop k := by
  unfold cutV
  rw [HT.sIx_none, HT.sIx_nat, List.take_of_length_le (by rw [List.length_drop]; exact Nat.le_refl _)]
  rcases Nat.le_total k xs.length with h | h
  · rw [Nat.min_eq_left h]
  · rw [Nat.min_eq_right h, List.drop_of_length_le (Nat.le_refl _), List.drop_of_length_le h]
theorem cutMid (xs : List V) (j k : Nat) : cutV xs (some (j : Int)) (some (k : Int)) = (xs.drop j).take (k - j) := by
  unfold cutV
  rw [HT.sIx_nat, HT.sIx_nat]
  rcases Nat.le_total j xs.length with h | h
  · rw [Nat.min_eq_left h]
    rcases Nat.le_total k xs.length with h2 | h2
    · rw [Nat.min_eq_left h2]
    · rw [Nat.min_eq_right h2, List.take_of_length_le (by rw [List.length_drop]; omega), List.take_of_length_le (by rw [List.length_drop]; omega)]
  · rw [List.drop_of_length_le (show xs.length ≤ min j xs.length by omega), List.drop_of_length_le h]
    simp
def spReadRows (K : PySem.W.Frag) : Sp := fun vs H Q _ => ∃ (a : Addr) (ts : List (Addr × List Int)) (gs : List (List (List V))) (m : Nat), vs = [.ref a] ∧ H a = some (.lst (refs ts)) ∧ Parts H ts ∧ ts.map (·.2) = (gs ++ List.replicate m []).map sec ∧ (∀ x ∈ gs, x ≠ [] ∧ ((x.map rowB).flatten).length ≤ 63) ∧
  (∀ r ∈ gs.flatten, (∀ x ∈ r, Scal x) ∧ r.length ≤ 10) ∧ gs.flatten.length ≤ 99 ∧ ∀ H' p rs, Same H H' → H p = none → H' p = some (.lst (rrefs rs)) → RowsOk K H' rs → rs.map (·.2) = gs.flatten → Q (.ref p) H'
section
variable {P : Program} {w : World} {K : PySem.W.Frag} {mg : Str → Option Value} {base : Heap}
theorem ok_readrows {f C : Addr} {fd : FuncData} (F : Fun K "_law_read_rows" "_law_read_rows" s_law_read_rows f fd) (T0 : Bl mg) (X : TxtR K mg C) (gReader : mg "Reader" = some (.ref C)) (DReader : Kmk P w K mg base C 1 ["self", "data"] (spRInit K C)) (Rrow : Kmt P w K mg base C 7 "read_row" ["self"] (spRdRow C)) (D_law_is_integer : Kn P w K mg base 1 "_law_is_integer" ["actual"] spIsInt) : FnOk P w K mg base CX0 8 f fd ["sectors"] (spReadRows K) := by
  refine F.ok sc_law_read_rows (fun vs H Q E h => ?_) (fun cdv A outer s H vs Q E hr h => ?_)
  · obtain ⟨a, ts, gs, m, rfl, _⟩ := h
    rfl
  · obtain ⟨a, ts, gs, m, rfl, ea, pt, hts, hg, hrows, hlen, q⟩ := h
    refine ⟨_, (pss_cons (ps_set (i := 1) sc_law_read_rows.nd rfl (.inl rfl) (pe_lst pa_nil))
      (pss_cons (ps_set (i := 2) sc_law_read_rows.nd rfl (.inl rfl) pe_bl)
      (pss_cons (ps_for PassesOwn.never rfl (pi_list (pv 0)) (pg_name (i := 3) sc_law_read_rows.nd rfl (.inl rfl)) (pss_cons (ps_if (PW.pt (pw_or (pt_not (pt_val (pe_callB call_isi (by rfl) T0.isinstance (by decide +kernel) (pa_cons (pv 3) (pa_cons (pe_ty "list" (by rfl) T0.list (by decide +kernel)) pa_nil))))) (pw_or (pt_cmpR op_ne (pe_callB call_len_seq (by rfl) T0.len PySem.boot_len (pa_cons (pv 3) pa_nil)) pe_int (nomark _)) (pw_or (pt_not (pt_val (pe_kn D_law_is_integer hr (pa_cons (pe_ix ix_list (pv 3) pe_int (fun _ _ => rfl)) pa_nil)))) (pw_or1 (pt_not (pt_chain op_le op_lt pe_int (pe_ix ix_list (pv 3) pe_int (fun _ _ => rfl)) pe_int))))))) (pss_one (ps_ret pe_non)) pss_nil)
      (pss_mid (ps_if (PW.pt (pw_and (pt_val (pv 2)) (pw_and1 (pt_cmpR op_gt (pe_ix ix_list (pv 3) pe_int (fun _ _ => rfl)) pe_int (nomark _))))) (pss_one (ps_ret pe_non)) pss_nil)
      (pss_cons (ps_set (i := 2) sc_law_read_rows.nd rfl (.inl rfl) (pe_cmpR op_eq (pe_ix ix_list (pv 3) pe_int (fun _ _ => rfl)) pe_int (nomark _)))
      (pss_cons (ps_set (i := 4) sc_law_read_rows.nd rfl (.inl rfl) (pe_mk DReader gReader hr (pa_cons (pe_slice sl_list (pv 3) (po_some pe_int) po_none) pa_nil)))
      (pss_cons (ps_for PassesOwn.never rfl (pi_range1 (by rfl) T0.range (pa_cons (pe_ix ix_list (pv 3) pe_int (fun _ _ => rfl)) pa_nil)) (pg_name (i := 5) sc_law_read_rows.nd rfl (.inl rfl)) (pss_one (ps_expr (pe_bm PySem.F.plainAttrs_list PySem.F.slot_list_append PySem.F.type_list_append mt_append (pv 1) (pa_cons (pe_mt0 Rrow hr (pv 4)) pa_nil)))))
      (pss_one (ps_if (pt_cmpR (op_neD (hu64 hr)) (pe_slice sl_list (pv 3) (po_some (pe_op op_add pe_int (pe_fld (pv 4) rfl))) po_none) (pe_lc (own := [("k", 5)]) (g := gName 5) (tt := tYes) rfl sc_law_read_rows.nd (pi_range1 (by rfl) T0.range (pa_cons (pe_op op_sub pe_int (pe_fld (pv 4) rfl)) pa_nil)) (blkOk_by (own := [("k", 5)]) (N := N_law_read_rows) (sc := defScope s_law_read_rows) (by decide +kernel)) (fun _ _ _ _ _ => pg_name (i := 5) sc_law_read_rows.nd rfl (Or.inl rfl)) (fun _ _ _ _ _ => pts_nil) (fun _ _ _ _ _ => pe_int)) (nomark _)) (pss_one (ps_ret pe_non)) pss_nil))))))))
      (pss_one (ps_ret (pv 1)))))), ?_⟩
    refine ⟨sz 0, fun rl nrl => ?_⟩
    have s0 : Same H (upd H rl (.lst [])) := Same.new nrl
    obtain ⟨G, hG⟩ : ∃ G, gs ++ List.replicate m ([] : List (List V)) = G := ⟨_, rfl⟩
    rw [hG] at hts
    have lenG : ts.length = G.length := by
      have := congrArg List.length hts
      rw [List.length_map, List.length_map] at this
      exact this
    have gok : ∀ g ∈ G, ((g.map rowB).flatten).length ≤ 63 ∧ ∀ r ∈ g, (∀ x ∈ r, Scal x) ∧ r.length ≤ 10 := fun g mg' => by
      rw [← hG] at mg'
      rcases List.mem_append.mp mg' with h | h
      · exact ⟨(hg g h).2, fun r mr => hrows r (List.mem_flatten.mpr ⟨g, h, mr⟩)⟩
      · rw [List.eq_of_mem_replicate h]
        exact ⟨by simp, fun r mr => nomatch mr⟩
    have flG : G.flatten = gs.flatten := by
      rw [← hG, List.flatten_append]
      have : (List.replicate m ([] : List (List V))).flatten = [] := by induction m with
        | zero => rfl
        | succ m ih => simp
      rw [this, List.append_nil]
    have later : ∀ i j g, i ≤ j → G[i]? = some [] → G[j]? = some g → g = [] := fun i j g hij hi hj => by
      rw [← hG] at hi hj
      by_cases z : i < gs.length
      · rw [List.getElem?_append_left z] at hi
        exact absurd rfl (hg _ (List.mem_of_getElem? hi)).1
      · have hz : gs.length ≤ j := Nat.le_trans (Nat.not_lt.mp z) hij
        rw [List.getElem?_append_right hz] at hj
        exact List.eq_of_mem_replicate (List.mem_of_getElem? hj)
    refine ⟨_, rfl, a, rfl, ⟨_, SqL.of (s0 _ _ ea)⟩, for_list (xs := refs ts) (fun i σ H' => ∃ (e : Bool) (v3 v4 v5 : Option V) (dn : List (Addr × List V)), σ = [some (.ref a), some (.ref rl), some (.bl e), v3, v4, v5] ∧ Gw rl (upd H rl (.lst [])) H' ∧ H' rl = some (.lst (rrefs dn)) ∧ RowsOk K H' dn ∧ dn.map (·.2) = (G.take i).flatten ∧ (e = true → ∀ j g, i ≤ j → G[j]? = some g → g = []))
      ⟨false, none, none, none, [], rfl, Gw.refl _ _, upd_same, fun _ m => (nomatch m), rfl, fun z => by cases z⟩ (fun _ _ _ _ ⟨_, _, _, _, _, _, g, _⟩ => SqL.of (g _ _ (ne_of_none ea nrl) (s0 _ _ ea))) ?_ ?_⟩
    · rintro i v σ H1 ev ⟨e, v3, v4, v5, dn, rfl, g1, e1, ro1, hd, he⟩
      obtain ⟨t, et, rfl⟩ := refs_get ev
      have hi := (List.getElem?_eq_some_iff.mp et).1
      have eG : G[i]? = some (G[i]'(by rw [← lenG]; exact hi)) := List.getElem?_eq_getElem _
      obtain ⟨g, eg⟩ : ∃ g, G[i]'(by rw [← lenG]; exact hi) = g := ⟨_, rfl⟩
      rw [eg] at eG
      have et2 : t.2 = sec g := by
        have h1 : (ts.map (·.2))[i]? = some t.2 := by rw [List.getElem?_map, et]; rfl
        rw [hts, List.getElem?_map, eG] at h1
        exact (Option.some.inj h1).symm
      obtain ⟨g63, grs⟩ := gok g (List.mem_of_getElem? eG)
      have l64 := sec_len g63
      have sc := sec_cons g63
      have gl63 : g.length ≤ 63 := Nat.le_trans (rows_pos g) g63
      have trl : t.1 ≠ rl := fun z => by
        have := pt t (List.mem_of_getElem? et)
        rw [z, nrl] at this
        cases this
      have es1 : H1 t.1 = some (.lst ((sec g).map V.int)) := by
        rw [← et2]
        exact g1 _ _ trl (s0 _ _ (pt t (List.mem_of_getElem? et)))
      have at0 : atI ((sec g).map V.int) 0 = some (.int (g.length : Int)) := by rw [sc]; exact atI_nat (j := 0) rfl
      refine ⟨_, rfl, _, _, .type "list", .type "list", true, rfl, .ty _, .base (.lst es1), kit_ty (show L2.kitB "list" "list" = some true by decide +kernel), _, rfl, iteF ?_⟩
      refine ⟨_, rfl, t.1, _, rfl, .inl (SqL.of es1), rfl, _, rfl, ?_⟩
      rw [List.length_map, l64]
      refine iteF ?_
      refine ⟨_, rfl, t.1, _, 0, _, rfl, rfl, SqL.of es1, at0, (g.length : Int), rfl, _, rfl, iteF ?_⟩
      refine ⟨_, rfl, t.1, _, 0, _, rfl, rfl, SqL.of es1, at0, _, _, rfl, rfl, _, rfl, ?_⟩
      rw [if_pos (decide_eq_true (show (0 : Int) ≤ (g.length : Int) by omega))]
      refine ⟨_, _, rfl, rfl, _, rfl, ?_⟩
      rw [decide_eq_true (show (g.length : Int) < 64 by omega)]
      refine iteF ?_
      -- behind an empty one only empty ones
      refine ⟨fun σ' H' => σ' = [some (.ref a), some (.ref rl), some (.bl e), some (.ref t.1), v4, v5] ∧ H' = H1, ?_, ?_⟩
      · refine ⟨_, rfl, _, rfl, ?_⟩
        cases z : e with
        | true =>
          have g0 : g = [] := he z i g (Nat.le_refl _) eG
          refine iteT ⟨_, rfl, t.1, _, 0, _, rfl, rfl, SqL.of es1, at0, _, _, rfl, rfl, _, rfl, ?_⟩
          rw [g0]
          exact iteF ⟨rfl, rfl⟩
        | false => exact iteF ⟨rfl, rfl⟩
      rintro σ' H' ⟨rfl, rfl⟩
      refine ⟨_, rfl, t.1, _, 0, _, rfl, rfl, SqL.of es1, at0, rfl, ?_⟩
      -- the reader
      refine ⟨_, rfl, 1, rfl, t.1, _, rfl, SqL.of es1, fun pl npl => ?_⟩
      have cut1 : cutV ((sec g).map V.int) (some 1) none = ((g.map rowB).flatten ++ List.replicate (63 - ((g.map rowB).flatten).length) 0).map V.int := by
        have := cutFrom ((sec g).map V.int) 1
        rw [show ((1 : Nat) : Int) = 1 from rfl] at this
        rw [this, sc]
        rfl
      rw [cut1]
      generalize hds : (g.map rowB).flatten ++ List.replicate (63 - ((g.map rowB).flatten).length) (0 : Int) = ds at *
      have s2 : Same H' (upd H' pl (.lst (ds.map V.int))) := Same.new npl
      refine fun x dx nx nd ne => ⟨x, pl, dx, ds, rfl, upd_same, SqL.of ?_, fun H2 da R2 nda g2 => ⟨rfl, ?_⟩⟩
      · rw [upd_ne (ne_of_none upd_same nx), upd_ne (ne_of_none upd_same nd)]
        exact upd_same
      have nx1 : H' x = none := Same.free s2 nx
      have nd1 : H' dx = none := Same.free s2 nd
      have s3 : Same H' H2 := fun b o eb => g2 _ _ (ne_of_none eb nx1) (by
        rw [upd_ne (ne_of_none eb nx1), upd_ne (ne_of_none eb nd1)]
        exact s2 _ _ eb)
      have xrl : rl ≠ x := ne_of_none e1 nx1
      have darl : rl ≠ da := by
        have : (upd (upd (upd H' pl (.lst (ds.map V.int))) dx (.own x)) x (.ins C dx [])) rl = some (.lst (rrefs dn)) := by
          rw [upd_ne xrl, upd_ne (ne_of_none e1 nd1)]
          exact s2 _ _ e1
        exact ne_of_none this nda
      have ro2 := ro1.same s3
      have e2 := s3 _ _ e1
      have es2 := s3 _ _ es1
      have g3 : Gw rl (upd H rl (.lst [])) H2 := g1.trans (Gw.same s3)
      refine ⟨_, rfl, t.1, _, 0, _, rfl, rfl, SqL.of es2, at0, _, rfl, by omega, by omega, for_range (lo := 0) (n := g.length) (fun j σ H3 => ∃ (v5 : Option V) (dm : List (Addr × List V)) (k : Nat), σ = [some (.ref a), some (.ref rl), some (.bl (decide (V.int (g.length : Int) = V.int 0))), some (.ref t.1), some (.ref x), v5] ∧ Gw rl (upd H rl (.lst [])) H3 ∧ H3 t.1 = some (.lst ((sec g).map V.int)) ∧ H3 rl = some (.lst (rrefs dm)) ∧ RowsOk K H3 dm ∧ dm.map (·.2) = (G.take i).flatten ++ g.take j ∧ RdAt C H3 x da ds k ∧ ds.drop k = ((g.drop j).map rowB).flatten ++ List.replicate (63 - ((g.map rowB).flatten).length) 0 ∧ k + (((g.drop j).map rowB).flatten).length = ((g.map rowB).flatten).length)
        ⟨v5, dn, 0, rfl, g3, es2, e2, ro2, by rw [List.take_zero, List.append_nil]; exact hd, R2, hds.symm, by rw [List.drop_zero, Nat.zero_add]⟩ ?_ ?_⟩
      · rintro j σ H3 hj ⟨v5, dm, k, rfl, g4, es4, e4, ro4, hdm, R4, hk, hkl⟩
        obtain ⟨dx4, ob4⟩ := R4.ob
        have hj' : g[j]? = some g[j] := List.getElem?_eq_getElem hj
        obtain ⟨sr, lr10⟩ := grs _ (List.getElem_mem hj)
        have hk' : ds.drop k = rowB g[j] ++ (((g.drop (j + 1)).map rowB).flatten ++ List.replicate (63 - ((g.map rowB).flatten).length) 0) := by
          rw [hk, List.drop_eq_getElem_cons hj, List.map_cons, List.flatten_cons, List.append_assoc]
        refine ⟨_, rfl, .inl ⟨rfl, _, SqL.of e4⟩, _, rfl, x, dx4, _, rfl, ob4, rfl, x, da, ds, k, g[j], _, rfl, R4, ⟨sr, lr10⟩, hk', fun v H5 R5 g5 o5 => ?_⟩
        obtain ⟨p, rfl, ep⟩ := o5
        have e5 := g5 _ _ xrl e4
        refine ⟨rl, _, _, rfl, rfl, e5, ?_, ?_⟩
        · have l1 : dm.length ≤ 99 := by
            have h1 := congrArg List.length hdm
            rw [List.length_map] at h1
            have h2 : ((G.take i).flatten ++ g.take j).length ≤ G.flatten.length := by
              have hs : G = G.take i ++ g :: G.drop (i + 1) := by
                obtain ⟨hl, he⟩ := List.getElem?_eq_some_iff.mp eG
                rw [← he, ← List.drop_eq_getElem_cons hl, List.take_append_drop]
              have : G.flatten.length = (G.take i).flatten.length + (g.length + (G.drop (i + 1)).flatten.length) := by
                conv => lhs; rw [hs]
                rw [List.flatten_append, List.flatten_cons, List.length_append, List.length_append]
              rw [List.length_append, List.length_take, this]
              omega
            rw [flG] at h2
            omega
          unfold rrefs
          rw [List.length_map]
          exact small (m := 1000) (by omega) (by decide)
        · have tk5 : Tk K H3 H5 := Tk.gwi ob4 g5
          have tk6 : Tk K H5 (upd H5 rl (.lst (rrefs dm ++ [.ref p]))) := Tk.put e5
          have er : rrefs dm ++ [V.ref p] = rrefs (dm ++ [(p, g[j])]) := by unfold rrefs; rw [List.map_append]; rfl
          have trl2 : t.1 ≠ x := fun z => by rw [z, ob4] at es4; cases es4
          refine ⟨_, dm ++ [(p, g[j])], _, rfl, fun b o nb eb => ?_, ?_, by rw [upd_same, er], ?_, ?_, RdUpd R5 xrl darl, drop_enc hk', ?_⟩
          · rw [upd_ne nb]
            refine g5 _ _ (fun z => ?_) (g4 b o nb eb)
            have := g1 b o nb eb
            rw [z, nx1] at this
            cases this
          · rw [upd_ne trl]
            exact g5 _ _ trl2 es4
          · exact (ro4.tk (tk5.trans tk6)).snoc (tk6.f _ _ (SqT.of ep)) sr lr10
          · rw [List.map_append, hdm, List.take_succ, hj', List.append_assoc]
            rfl
          · rw [← hkl, List.drop_eq_getElem_cons hj, List.map_cons, List.flatten_cons, List.length_append]
            omega
      · rintro σ H3 ⟨v5, dm, k, rfl, g4, es4, e4, ro4, hdm, R4, hk, hkl⟩
        rw [List.drop_length] at hkl
        have hk63 : k = ((g.map rowB).flatten).length := by simpa using hkl
        rw [List.take_length] at hdm
        obtain ⟨dx4, ob4⟩ := R4.ob
        refine ⟨_, rfl, _, rfl, x, C, dx4, _, _, rfl, ob4, X.cl, X.at_, rfl, _, _, rfl, rfl, _, rfl, t.1, _, rfl, SqL.of es4, fun p1 np1 => ?_⟩
        have cut2 : cutV ((sec g).map V.int) (some (1 + (k : Int))) none = (List.replicate (63 - ((g.map rowB).flatten).length) (0 : Int)).map V.int := by
          have := cutFrom ((sec g).map V.int) (1 + k)
          rw [show ((1 + k : Nat) : Int) = 1 + (k : Int) by omega] at this
          rw [this, ← List.map_drop, sc, hk63, Nat.add_comm 1, List.drop_succ_cons, ← hds, List.drop_left]
        rw [cut2]
        have s5 : Same H3 (upd H3 p1 (.lst ((List.replicate (63 - ((g.map rowB).flatten).length) (0 : Int)).map V.int))) := Same.new np1
        have ep1 : (upd H3 p1 (.lst ((List.replicate (63 - ((g.map rowB).flatten).length) (0 : Int)).map V.int))) p1 = some (.lst ((List.replicate (63 - ((g.map rowB).flatten).length) (0 : Int)).map V.int)) := upd_same
        generalize (upd H3 p1 (.lst ((List.replicate (63 - ((g.map rowB).flatten).length) (0 : Int)).map V.int))) = H5 at s5 ep1 ⊢
        refine ⟨_, rfl, x, C, dx4, _, _, rfl, s5 _ _ ob4, X.cl, X.at_, rfl, _, _, rfl, rfl, _, rfl, by omega, by omega, fun D nD => ?_⟩
        refine lc_mk (walk_range (lo := 0) (n := (63 - (k : Int)).toNat)) (fun _ => V.int 0) (small (m := 1000) (by omega) (by decide)) nD (fun _ _ => trivial) (fun j y H6 H6' N hj s6 yy fin => ?_) fun H6 s6 eD => ?_
        · obtain ⟨rfl, ey⟩ := yy
          exact ⟨rfl, fin _ (Same.refl _)⟩
        · have eD2 : H6 D = some (.lst ((List.replicate (63 - ((g.map rowB).flatten).length) (0 : Int)).map V.int)) := by
            rw [eD]
            congr 2
            rw [List.map_const', List.length_range, List.map_replicate]
            congr 1
            omega
          refine ⟨.list ((List.replicate (63 - ((g.map rowB).flatten).length) (0 : Int)).map PyData.int), .list ((List.replicate (63 - ((g.map rowB).flatten).length) (0 : Int)).map PyData.int), .lst (SqL.of (s6 _ _ ep1)) (intsD _), .lst (SqL.of eD2) (intsD _), ints_shaped _, ints_shaped _, _, rfl, ?_⟩
          rw [SeqAt.eqv_refl _ (ints_lay _).1]
          have s7 := s5.trans s6
          refine iteF ⟨_, _, _, _, dm, rfl, g4.trans (Gw.same s7), s7 _ _ e4, ro4.same s7, ?_, fun z j g' hij hj => ?_⟩
          · rw [hdm, List.take_succ, eG, List.flatten_append]
            simp
          · have g0 : g = [] := by
              have := of_decide_eq_true z
              injection this with this
              exact List.length_eq_zero_iff.mp (by omega)
            rw [g0] at eG
            exact later i j g' (by omega) eG hj
    · rintro σ H1 ⟨e, v3, v4, v5, dn, rfl, g1, e1, ro1, hd, he⟩
      have lr : (refs ts).length = ts.length := by unfold refs; rw [List.length_map]
      rw [lr, lenG, List.take_length, flG] at hd
      exact ⟨_, rfl, q _ rl dn (fun b o eb => g1 _ _ (ne_of_none eb nrl) (s0 _ _ eb)) nrl e1 ro1 hd⟩
end
end K1
namespace K1
open PySem PySem.Spec PyProof.Rows L2 Ow Tlz
structure Sta (P : Program) (w : World) (K : PySem.W.Frag) (mg : Str → Option Value) (base : Heap) (C : Addr) : Prop where
  ex : ∃ (f : Addr) (fd : FuncData) (a0 : Addr) (ds : List Value), Mk K C f ∧ FnOk P w K mg base CX0 6 f fd ["self", "items"] (spInit K C) ∧ FnOk P w K mg base CX0 6 f fd ["self", "items"] (spInit0 K C) ∧
    Binds K fd ["self", "items"] [] ∧ Binds K fd ["self", "items"] ds ∧ Vals [V.ref a0] ds ∧ ∀ H : Hp, SqT K H a0 []
theorem same_make {H : Hp} {x dx C : Addr} (hx : H x = none) (hd : H dx = none) : Same H (upd (upd H dx (.own x)) x (.ins C dx [])) := fun b o e => by
  rw [upd_ne (ne_of_none e hx), upd_ne (ne_of_none e hd)]
  exact e
theorem same_made {H H' : Hp} {x dx C : Addr} (hx : H x = none) (hd : H dx = none) (g : Gw x (upd (upd H dx (.own x)) x (.ins C dx [])) H') : Same H H' := fun b o e =>
  g b o (ne_of_none e hx) (same_make hx hd b o e)
theorem flds_no {m : Str} (a b c d : V) (h : ¬ m = "relations" ∧ ¬ m = "facts" ∧ ¬ m = "structures" ∧ ¬ m = "layouts") : (flds a b c d).lookup m = none := by
  unfold flds
  rw [lookup_putF, if_neg h.2.2.2, lookup_putF, if_neg h.2.2.1, lookup_putF, if_neg h.2.1, lookup_putF, if_neg h.1]
  rfl
/-- the methods of the class -/
theorem StAt.fr {K : PySem.W.Frag} {C x dr df ds dl : Addr} {Z Y : Addr → Prop} {H H' : Hp} {R S : Tb} {F : Fb} {L : List (Str × V)} {b : Nat} (h : StAt K C Z H x dr df ds dl R F S L b) (kp : Kp Y H H') (t : Tk K H H')
    (y : ∀ a, (a = x ∨ a = dr ∨ a = df ∨ a = ds ∨ a = dl ∨ ∃ e ∈ F, e.2.1 = a) → ¬ Y a) (nn : ∀ a, H' a = none → H a = none) : StAt K C Z H' x dr df ds dl R F S L b := by
  obtain ⟨⟨dx, ob⟩, r, rt, f, ft, fz, fp, fn, s', st, l, z, ne, nw, ln⟩ := h
  refine ⟨⟨dx, kp _ _ (y x (.inl rfl)) ob⟩, kp _ _ (y dr (.inr (.inl rfl))) r, fun e m => t _ _ (rt e m), kp _ _ (y df (.inr (.inr (.inl rfl)))) f, fun e m => ⟨kp _ _ (y _ (.inr (.inr (.inr (.inr (.inr ⟨e, m, rfl⟩)))))) (ft e m).1, (ft e m).2.1.tk t, (ft e m).2.2⟩,
    fz, fp, fn, kp _ _ (y ds (.inr (.inr (.inr (.inl rfl))))) s', fun e m => t _ _ (st e m), kp _ _ (y dl (.inr (.inr (.inr (.inr (.inl rfl)))))) l, z, ne, fun a n => nw a (nn a n), ln⟩
theorem StAt.own {K : PySem.W.Frag} {C x dr df ds dl : Addr} {Z : Addr → Prop} {H : Hp} {R S : Tb} {F : Fb} {L : List (Str × V)} {b : Nat} (h : StAt K C Z H x dr df ds dl R F S L b) {a : Addr} (m : a = x ∨ a = dr ∨ a = df ∨ a = ds ∨ a = dl ∨ ∃ e ∈ F, e.2.1 = a) : a = x ∨ Z a := by
  rcases m with m | m | m | m | m | ⟨e, m, m2⟩
  · exact .inl m
  · rw [m]; exact .inr h.z.1
  · rw [m]; exact .inr h.z.2.1
  · rw [m]; exact .inr h.z.2.2.1
  · rw [m]; exact .inr h.z.2.2.2.1
  · rw [← m2]; exact .inr (h.fz e m)

theorem kvR_nv {R : Tb} {i : Nat} {k : Key} {v : V} (nd : (R.map (·.1)).Nodup) (h : (kvR R)[i]? = some (k, v)) : ∃ n q c, k = Sum.inr n ∧ valG R n = some (q, c) := by
  obtain ⟨e, he, hk, _⟩ := kvR_at h
  exact ⟨e.1, e.2.1, e.2.2, hk, valG_of nd (List.mem_of_getElem? he)⟩
/-- a State does not see that a shelf's table is locked -/
theorem StAt.lk {K : PySem.W.Frag} {C x dr df ds dl p : Addr} {Z : Addr → Prop} {H : Hp} {R S : Tb} {F : Fb} {L : List (Str × V)} {b : Nat} {kvs : List (Key × V)} {od : Obj} (h : StAt K C Z H x dr df ds dl R F S L b) (hp : H p = some (.dK kvs)) (nz : ¬ Z p) : StAt K C Z (upd H p (.frz od (.dK kvs))) x dr df ds dl R F S L b := by
  refine h.fr (Y := fun a => a = p) (fun a o n e => by rw [upd_ne n]; exact e) (Tk.dK hp) (fun a m z => ?_) fun a n => ?_
  · rcases h.own m with e | e
    · obtain ⟨dx, ob⟩ := h.ob
      rw [← e, z, hp] at ob
      cases ob
    · exact nz (by rw [← z]; exact e)
  · by_cases z : a = p
    · rw [z, upd_same] at n; cases n
    · rw [upd_ne z] at n; exact n
theorem ShAt.v {K : PySem.W.Frag} {H : Hp} {ls dr df ds : Addr} {R S : Tb} {F : Fb} (h : ShAt K H dr df ds R F S) (hl : SqL K H ls [.ref dr, .ref df, .ref ds]) : ShV K H ls R F S :=
  ⟨⟨dr, df, ds, hl, .inl h.r, .inl h.f, .inl h.s⟩, fun n q c e => h.rt _ (valG_mem e), fun n q rs e => ⟨(h.ft _ (valG_mem e)).1, (h.ft _ (valG_mem e)).2.1⟩, fun n q c e => h.st _ (valG_mem e)⟩
theorem ShV.lk {K : PySem.W.Frag} {H : Hp} {ls p : Addr} {R S : Tb} {F : Fb} {kvs : List (Key × V)} {od : Obj} (h : ShV K H ls R F S) (hp : H p = some (.dK kvs)) : ShV K (upd H p (.frz od (.dK kvs))) ls R F S := by
  obtain ⟨⟨dr, df, ds, h1, h2, h3, h4⟩, rt, ft, st⟩ := h
  have tk : Tk K H (upd H p (.frz od (.dK kvs))) := Tk.dK hp
  have rd : ∀ {a : Addr} {u : List (Key × V)}, Rd H a (.dK u) → Rd (upd H p (.frz od (.dK kvs))) a (.dK u) := fun {a u} hh => by
    by_cases z : a = p
    · subst z
      rcases hh with hh | ⟨o, hh⟩
      · rw [hp] at hh
        cases hh
        exact .inr ⟨od, upd_same⟩
      · rw [hp] at hh
        cases hh
    · rcases hh with hh | ⟨o, hh⟩
      · exact .inl (by rw [upd_ne z]; exact hh)
      · exact .inr ⟨o, by rw [upd_ne z]; exact hh⟩
  have sl : SqL K (upd H p (.frz od (.dK kvs))) ls [.ref dr, .ref df, .ref ds] := by
    rcases h1 with (h1 | ⟨u, h1⟩) | h1
    · exact .inl (.inl (by rw [upd_ne (fun z => by rw [z, hp] at h1; cases h1)]; exact h1))
    · exact .inl (.inr ⟨u, by rw [upd_ne (fun z => by rw [z, hp] at h1; cases h1)]; exact h1⟩)
    · exact .inr h1
  refine ⟨⟨dr, df, ds, sl, rd h2, rd h3, rd h4⟩, fun n q c e => tk _ _ (rt n q c e), fun n q rs e => ⟨?_, (ft n q rs e).2.tk tk⟩, fun n q c e => tk _ _ (st n q c e)⟩
  have hq := (ft n q rs e).1
  rw [upd_ne (fun z => by rw [z, hp] at hq; cases hq)]
  exact hq
theorem catO_len {s : Nat} : ∀ {xs : List (Option (List (List Int)))} {ss : List (List Int)}, (∀ x ∈ xs, ∀ y, x = some y → y.length = s) → catO xs = some ss → ss.length = xs.length * s
  | [], ss, _, h => by
    cases h
    simp
  | none :: _, ss, _, h => by cases h
  | some y :: r, ss, g, h => by
    have h' : (catO r).map (y ++ ·) = some ss := h
    cases e : catO r with
    | none => rw [e] at h'; cases h'
    | some c =>
      rw [e] at h'
      have h2 : y ++ c = ss := Option.some.inj h'
      rw [← h2, List.length_append, g _ List.mem_cons_self y rfl, catO_len (fun x m => g x (List.mem_cons_of_mem _ m)) e, List.length_cons, Nat.succ_mul]
      omega
theorem strO_len {cs : List V} {w : Nat} {b s : Int} {rs : Rw} {ss : List (List Int)} (h : strO cs w b s rs = some ss) : ss.length = b.toNat * s.toNat := by
  have := catO_len (s := s.toNat) (fun x m y e => by
    obtain ⟨r, _, er⟩ := List.mem_map.mp m
    rw [e] at er
    exact fillO_len er) h
  rw [List.length_map, grp_len] at this
  exact this
end K1
namespace K1
open PySem PySem.Spec PyProof.Rows L2 Ow Tlz Bd
abbrev slaw : Stmt := topS 52
abbrev Nlaw : List Str := ["script", "state", "shelf", "actual", "name", "shape", "relation", "columns", "buckets", "sectors", "total", "k", "rows", "row"]
theorem sclaw : FnScope Nlaw ["script"] (defScope slaw) := ⟨rfl, rfl, rfl, by decide +kernel, rfl, by decide +kernel, by decide +kernel⟩
def spLaw (K : PySem.W.Frag) : Sp := fun vs H Q _ => ∃ (a : Addr) (ns : List Int), vs = [.ref a] ∧ SqL K H a (ns.map V.int) ∧ ns.length ≤ 63 ∧ ∀ H', Q (.bl true) H'
theorem op_inD_K {X : Cx} {K : PySem.W.Frag} (e : X.K = K) (hu : X.A.units + 65 < cLine) : OpR X (compareOp .In) (rInD K) := by
  subst e
  exact op_inD hu
theorem cat_slice {s : Nat} : ∀ {xs : List (Option (List (List Int)))} {ss : List (List Int)}, (∀ x ∈ xs, ∀ y, x = some y → y.length = s) → catO xs = some ss → ∀ (k : Nat) (x : Option (List (List Int))), xs[k]? = some x → ∃ y, x = some y ∧ (ss.drop (s * k)).take s = y
  | [], ss, _, h, k, x, e => by simp at e
  | none :: _, ss, _, h, k, x, e => by cases h
  | some y :: r, ss, g, h, k, x, e => by
    have h' : (catO r).map (y ++ ·) = some ss := h
    have ly := g _ List.mem_cons_self y rfl
    cases ec : catO r with
    | none => rw [ec] at h'; cases h'
    | some c =>
      rw [ec] at h'
      have h2 : y ++ c = ss := Option.some.inj h'
      cases k with
      | zero =>
        cases e
        refine ⟨y, rfl, ?_⟩
        rw [Nat.mul_zero, List.drop_zero, ← h2, ← ly, List.take_left]
      | succ k =>
        obtain ⟨z, e1, e2⟩ := cat_slice (fun x m => g x (List.mem_cons_of_mem _ m)) ec k x e
        refine ⟨z, e1, ?_⟩
        rw [← h2, Nat.mul_succ, Nat.add_comm, ← List.drop_drop]
        have : (y ++ c).drop s = c := by rw [← ly, List.drop_left]
        rw [this]
        exact e2
theorem str_slice {cs : List V} {w : Nat} {b s : Int} {rs : Rw} {ss : List (List Int)} (h : strO cs w b s rs = some ss) {k : Nat} (hk : k < b.toNat) : ∃ y, fillO (codes (rs.filter fun t => decide (bkt cs w b t.2 = (k : Int)))) s.toNat = some y ∧ (ss.drop (s.toNat * k)).take s.toNat = y := by
  refine cat_slice (s := s.toNat) (fun x m y e => by
    obtain ⟨r, _, er⟩ := List.mem_map.mp m
    rw [e] at er
    exact fillO_len er) h k _ ?_
  rw [List.getElem?_map, grp_at hk]
  rfl
theorem cnt_step (f : (Addr × List V) → Int) (k : Int) : ∀ rs : Rw, (rs.filter fun t => decide (f t < k + 1)).length = (rs.filter fun t => decide (f t < k)).length + (rs.filter fun t => decide (f t = k)).length
  | [] => rfl
  | t :: rs => by
    have ih := cnt_step f k rs
    rw [List.filter_cons, List.filter_cons, List.filter_cons]
    by_cases h1 : f t < k
    · rw [if_pos (decide_eq_true (show f t < k + 1 by omega)), if_pos (decide_eq_true h1), if_neg (by rw [decide_eq_false (by omega)]; decide), List.length_cons, List.length_cons, ih]
      omega
    · by_cases h2 : f t = k
      · rw [if_pos (decide_eq_true (show f t < k + 1 by omega)), if_neg (by rw [decide_eq_false h1]; decide), if_pos (decide_eq_true h2), List.length_cons, List.length_cons, ih]
        omega
      · rw [if_neg (by rw [decide_eq_false (show ¬ f t < k + 1 by omega)]; decide), if_neg (by rw [decide_eq_false h1]; decide), if_neg (by rw [decide_eq_false h2]; decide), ih]
theorem range_getD' {α : Type} (xs : List α) (y : α) : (List.range xs.length).map (fun i => xs.getD i y) = xs := by
  apply List.ext_getElem?
  intro i
  by_cases h : i < xs.length
  · simp [h]
  · rw [List.getElem?_eq_none (by simp; omega), List.getElem?_eq_none (by omega)]
theorem filter_at (rs : Rw) (d : Addr × List V) (q : Addr × List V → Bool) : ((List.range rs.length).filter fun i => q (rs.getD i d)).map (fun i => V.ref (rs.getD i d).1) = rrefs (rs.filter q) := by
  have h := range_getD' rs d
  have e : rs.filter q = ((List.range rs.length).filter fun i => q (rs.getD i d)).map fun i => rs.getD i d := by
    conv => lhs; rw [← h]
    rw [List.filter_map]
    rfl
  unfold rrefs
  rw [e, List.map_map]
  rfl
theorem getD_of {α : Type} {xs : List α} {i : Nat} {x d : α} (h : xs[i]? = some x) : xs.getD i d = x := by rw [List.getD_eq_getElem?_getD, h]; rfl
theorem rwsD_map (rs : Rw) : rwsD rs = .list ((rs.map (·.2)).map rowD) := by unfold rwsD; rw [List.map_map]; rfl
theorem sc_ist : ∀ {xs : List V}, (∀ x ∈ xs, Scal x) → ists (xs.map scD) = true
  | [], _ => rfl
  | x :: xs, h => by
    rw [List.map_cons, ists, sc_ist fun y m => h y (List.mem_cons_of_mem _ m), Bool.and_true]
    rcases h x List.mem_cons_self with ⟨i, rfl, _⟩ | ⟨z, rfl, _⟩ <;> rfl
theorem row_ist {xs : List V} (h : ∀ x ∈ xs, Scal x) (l : xs.length ≤ 10) : ist (rowD xs) = true := by
  unfold rowD
  rw [ist, sc_ist h, List.length_map, decide_eq_true (by omega)]
  rfl
theorem rws_ist : ∀ {rs : Rw}, (∀ t ∈ rs, (∀ x ∈ t.2, Scal x) ∧ t.2.length ≤ 10) → ists (rs.map fun t => rowD t.2) = true
  | [], _ => rfl
  | t :: rs, h => by
    obtain ⟨h1, h2⟩ := h t List.mem_cons_self
    rw [List.map_cons, ists, row_ist h1 h2, rws_ist fun u m => h u (List.mem_cons_of_mem _ m)]
    rfl
theorem rwsD_ok {rs : Rw} (h : ∀ t ∈ rs, (∀ x ∈ t.2, Scal x) ∧ t.2.length ≤ 10) (l : rs.length ≤ 900) : ist (rwsD rs) = true ∧ (rwsD rs).depth ≤ 3 := by
  unfold rwsD
  refine ⟨by rw [ist, rws_ist h, List.length_map, decide_eq_true (by omega)]; rfl, ?_⟩
  rw [PyData.depth]
  have : PyData.depthAll (rs.map fun t => rowD t.2) ≤ 1 := depthAll_le fun x mx => by
    obtain ⟨t, mt, rfl⟩ := List.mem_map.mp mx
    exact (row_lay (h t mt).1).2
  omega
/-- a row stands among the rows of its group -/
theorem any_group {g rs : Rw} {f : List V → Int} {k : Int} {t : Addr × List V} (hg : g.map (·.2) = (rs.filter fun t => decide (f t.2 = k)).map (·.2)) (sg : ∀ u ∈ g, ∀ x ∈ u.2, Scal x) (mt : t ∈ rs) (st : ∀ x ∈ t.2, Scal x) :
    (g.map fun u => rowD u.2).any (fun z => PyData.eqv z (rowD t.2)) = decide (f t.2 = k) := by
  by_cases h : f t.2 = k
  · rw [decide_eq_true h, List.any_eq_true]
    have m1 : t.2 ∈ g.map (·.2) := by
      rw [hg]
      exact List.mem_map.mpr ⟨t, List.mem_filter.mpr ⟨mt, decide_eq_true h⟩, rfl⟩
    obtain ⟨u, mu, eu⟩ := List.mem_map.mp m1
    refine ⟨_, List.mem_map.mpr ⟨u, mu, rfl⟩, ?_⟩
    rw [eqv_row (sg u mu) st, eu]
    exact decide_eq_true rfl
  · rw [decide_eq_false h]
    rw [Bool.eq_false_iff]
    intro z
    obtain ⟨d, md, e⟩ := List.any_eq_true.mp z
    obtain ⟨u, mu, rfl⟩ := List.mem_map.mp md
    rw [eqv_row (sg u mu) st] at e
    have e := of_decide_eq_true e
    have m1 : u.2 ∈ (rs.filter fun t => decide (f t.2 = k)).map (·.2) := by
      rw [← hg]
      exact List.mem_map.mpr ⟨u, mu, rfl⟩
    obtain ⟨v, mv, ev⟩ := List.mem_map.mp m1
    have := of_decide_eq_true (List.mem_filter.mp mv).2
    rw [ev, e] at this
    exact h this
section
variable {P : Program} {w : World} {K : PySem.W.Frag} {mg : Str → Option Value} {base : Heap} {C : Addr}
theorem ok_law {f : Addr} {fd : FuncData} (F0 : Fun K "law" "law" slaw f fd) (T0 : Bl mg) (X : Txt K mg C) (St : Sta P w K mg base C)
    (D_law_draws : Kn P w K mg base 2 "_law_draws" ["script"] (spDraws K))
    (D_law_shelf : Kn P w K mg base 7 "_law_shelf" ["state", "most"] (spShelf K))
    (D_law_shelf_items : Kn P w K mg base 1 "_law_shelf_items" ["shelf"] (spShItems K))
    (Drelation_shape : Kn P w K mg base 7 "relation_shape" ["state", "name"] (spRelSh K C))
    (Dstructure_shape : Kn P w K mg base 8 "structure_shape" ["state", "name"] (spStrSh K C))
    (Dbucket_of_values : Kn P w K mg base 5 "bucket_of_values" ["values", "buckets"] (spBuck K))
    (D_law_values_of : Kn P w K mg base 1 "_law_values_of" ["shelf", "name", "row"] (spValsOf K))
    (D_law_read_rows : Kn P w K mg base 8 "_law_read_rows" ["sectors"] (spReadRows K))
    (D_law_same : Kn P w K mg base 5 "_law_same" ["actual", "expected"] (spSm K 4)) :
    FnOk P w K mg base CX0 9 f fd ["script"] (spLaw K) := by
  obtain ⟨fI, fdI, a0, dsI, M, GI, GI0, bI, bI0, vI0, hA0⟩ := St.ex
  refine F0.ok sclaw (fun vs H Q E h => ?_) (fun cdv A outer s0 H vs Q E hr h => ?_)
  · obtain ⟨a, ns, rfl, _⟩ := h
    rfl
  · obtain ⟨a, ns, rfl, hS, hlen, q⟩ := h
    have hu := hu_of hr
    have hr7 := hr.mono (show 7 ≤ 8 by decide)
    refine ⟨_, (pss_cons (ps_set (i := 1) sclaw.nd rfl (.inl rfl) (pe_lst (pa_cons (pe_kn D_law_draws hr (pa_cons (pv 0) pa_nil)) (pa_cons pe_int pa_nil))))
      (pss_cons (ps_set (i := 2) sclaw.nd rfl (.inr rfl) (pe_kn D_law_shelf hr (pa_cons (pv 1) (pa_cons pe_int pa_nil))))
      (pss_cons (ps_set (i := 3) sclaw.nd rfl (.inl rfl) (pe_make M GI hr7 (by rfl) X.mgC bI .nil pass0 (pa_cons (pe_kn D_law_shelf_items hr (pa_cons (pv 2) pa_nil)) pa_nil)))
      (pss_cons (ps_lock (ps_for PassesOwn.never rfl (pi_keys (pe_ix ix_list (pv 2) pe_int (fun _ _ => rfl))) (pg_name (i := 4) sclaw.nd rfl (.inr rfl)) (pss_cons (ps_set (i := 5) sclaw.nd rfl (.inl rfl) (pe_kn Drelation_shape hr (pa_cons (pv 3) (pa_cons (pv 4) pa_nil))))
      (pss_one (ps_if (pt_cmpR op_notN (pv 5) pe_non (nomark _)) (pss_one (ps_if (PW.pt (pw_or (pt_cmpR op_ne (pe_callB call_len_seq (by rfl) T0.len PySem.boot_len (pa_cons (pv 5) pa_nil)) (pe_ix ix_tup (pe_dget (hu_of hr) (pe_ix ix_list (pv 2) pe_int (fun _ _ => rfl)) (pv 4) (fun _ _ => rfl)) pe_int (fun _ _ => rfl)) (nomark _)) (pw_or1 (pt_not (pt_val (pe_kn D_law_same hr (pa_cons (pe_kn D_law_read_rows hr (pa_cons (pv 5) pa_nil)) (pa_cons (pe_dget (hu_of hr) (pe_ix ix_list (pv 2) pe_int (fun _ _ => rfl)) (pv 4) (fun _ _ => rfl)) pa_nil)))))))) (pss_one (ps_ret pe_bl)) pss_nil)) pss_nil)))))
      (pss_cons (ps_lock (ps_for PassesOwn.never rfl (pi_keys (pe_ix ix_list (pv 2) pe_int (fun _ _ => rfl))) (pg_name (i := 4) sclaw.nd rfl (.inr rfl)) (pss_cons (ps_asg (pe_dget (hu_of hr) (pe_ix ix_list (pv 2) pe_int (fun _ _ => rfl)) (pv 4) (fun _ _ => rfl)) (pg_tup rfl (pgs_cons (pg_name (i := 6) sclaw.nd rfl (.inl rfl)) (pgs_cons (pg_name (i := 7) sclaw.nd rfl (.inl rfl)) (pgs_cons (pg_name (i := 8) sclaw.nd rfl (.inr rfl)) (pgs_cons (pg_name (i := 9) sclaw.nd rfl (.inl rfl)) pgs_nil))))))
      (pss_cons (ps_set (i := 5) sclaw.nd rfl (.inl rfl) (pe_kn Dstructure_shape hr (pa_cons (pv 3) (pa_cons (pv 4) pa_nil))))
      (pss_one (ps_if (pt_cmpR op_notN (pv 5) pe_non (nomark _)) (pss_cons (ps_if (pt_cmpR op_ne (pe_callB call_len_seq (by rfl) T0.len PySem.boot_len (pa_cons (pv 5) pa_nil)) (pe_op op_mul (pv 8) (pv 9)) (nomark _)) (pss_one (ps_ret pe_bl)) pss_nil)
      (pss_cons (ps_set (i := 10) sclaw.nd rfl (.inl rfl) pe_int)
      (pss_cons (ps_for PassesOwn.never rfl (pi_range1 (by rfl) T0.range (pa_cons (pv 8) pa_nil)) (pg_name (i := 11) sclaw.nd rfl (.inr rfl)) (pss_cons (ps_set (i := 12) sclaw.nd rfl (.inr rfl) (pe_kn D_law_read_rows hr (pa_cons (pe_slice sl_list (pv 5) (po_some (pe_op op_mul (pv 9) (pv 11))) (po_some (pe_op op_add (pe_op op_mul (pv 9) (pv 11)) (pv 9)))) pa_nil)))
      (pss_cons (ps_if (PW.pt (pw_or (pt_cmpR op_isN (pv 12) pe_non (nomark _)) (pw_or1 (pt_not (pt_val (pe_kn D_law_same hr (pa_cons (pv 12) (pa_cons (pe_lc (own := [("row", 13)]) (g := gName 13) rfl sclaw.nd (pi_list (pe_dget (hu_of hr) (pe_ix ix_list (pv 2) pe_int (fun _ _ => rfl)) (pv 6) (fun _ _ => rfl))) (blkOk_by (own := [("row", 13)]) (N := Nlaw) (sc := defScope slaw) (by decide +kernel)) (fun _ _ _ _ _ => pg_name (i := 13) sclaw.nd rfl (Or.inl rfl)) (fun _ _ _ _ _ => (pts_one (pt_cmpR (op_inD_K (K := K) rfl (hu65 hr)) (pv 13) (pv 12) (by rfl)))) (fun _ _ _ _ _ => (pv 13))) pa_nil)))))))) (pss_one (ps_ret pe_bl)) pss_nil)
      (pss_cons (ps_set (i := 10) sclaw.nd rfl (.inl rfl) (pe_op op_add (pv 10) (pe_callB call_len_seq (by rfl) T0.len PySem.boot_len (pa_cons (pv 12) pa_nil))))
      (pss_one (ps_if (pt_cmpR op_gt (pe_callB call_len_seq (by rfl) T0.len PySem.boot_len (pa_cons (pe_lc (own := [("row", 13)]) (g := gName 13) rfl sclaw.nd (pi_list (pv 12)) (blkOk_by (own := [("row", 13)]) (N := Nlaw) (sc := defScope slaw) (by decide +kernel)) (fun _ _ _ _ _ => pg_name (i := 13) sclaw.nd rfl (Or.inl rfl)) (fun _ _ _ _ _ => (pts_one (pt_cmpR op_ne (pe_kn Dbucket_of_values hr (pa_cons (pe_kn D_law_values_of hr (pa_cons (pv 2) (pa_cons (pv 4) (pa_cons (pv 13) pa_nil)))) (pa_cons (pv 8) pa_nil))) (pv 11) (nomark _)))) (fun _ _ _ _ _ => (pv 13))) pa_nil)) pe_int (nomark _)) (pss_one (ps_ret pe_bl)) pss_nil))))))
      (pss_one (ps_if (pt_cmpR op_ne (pv 10) (pe_callB call_len_seq (by rfl) T0.len PySem.boot_len (pa_cons (pe_dget (hu_of hr) (pe_ix ix_list (pv 2) pe_int (fun _ _ => rfl)) (pv 6) (fun _ _ => rfl)) pa_nil)) (nomark _)) (pss_one (ps_ret pe_bl)) pss_nil))))) pss_nil))))))
      (pss_one (ps_ret pe_bl))))))), ?_⟩
    -- state
    refine ⟨_, rfl, a, ns, rfl, hS, hlen, ?_⟩
    intro H1 d dsn sm1 nd ed
    refine ⟨sz 2, fun p np => ?_⟩
    have ndp : d ≠ p := ne_of_none ed np
    have rg2 : Rng d (upd H1 p (.lst [.ref d, .int 20])) p := ⟨dsn, 20, upd_same, by decide, by rw [upd_ne ndp]; exact ed⟩
    generalize (upd H1 p (.lst [.ref d, .int 20])) = H2 at rg2 ⊢
    -- shelf
    refine ⟨_, rfl, p, d, 24, rfl, by decide, rg2, ?_⟩
    rintro x3 H3 ⟨ls, dr, df, ds, R, S, F, rfl, els, sh, lR, lF, lS, sx, ek, prR, prS⟩ gw3 rg3
    -- items
    refine ⟨_, rfl, ls, dr, df, ds, R, S, F, rfl, SqL.of els, sh, sx.tg ek prR prS, by omega, lF, by omega, ?_⟩
    intro its l ys fs zs H4 s4 nl el ig li py sy pf sf pz sz' ete
    have rep0 := shelf_rep ete py pf pz ek (fun n q' rs e => (sx.fw n q' rs e).1) sh.rn sh.sn sh.fn
    have k1 := strict (py.nodup_iff.mpr sh.rn) sy
    have k2 := strict (pf.nodup_iff.mpr sh.fn) sf
    have k3 := strict (pz.nodup_iff.mpr sh.sn) sz'
    have ksr : KSrt its := by
      have h0 := allE_srt (R := R) (S := S) (F := F) k1 k2 k3 fun n => by
        unfold rOf
        cases e : valG F n with
        | none => exact .nil
        | some b => exact (sx.fw _ _ _ e).1.1
      rw [← ete] at h0
      exact List.pairwise_map.mp h0
    have els5 := s4 _ _ els
    have sh5 := sh.same s4
    have sx5 := sx.tk (Tk.same s4)
    clear rg3 gw3 sh els sx s4 sm1 nd ed np ndp rg2 hS
    -- the State
    refine fun x dx nx ndx nex => ?_
    have sm := same_make (C := C) nx ndx
    refine ⟨x, l, dx, its, rfl, upd_same, SqL.of (sm _ _ el), fun t m => ((ig t m).same sm).at_, by omega, fun er ef es eL R' S' F' L' H6 st6 pu gw6 => ⟨rfl, ?_⟩⟩
    have s6 := same_made nx ndx gw6
    have nZ : ∀ {b : Addr} {u : HO}, H4 b = some u → ¬ (fun b => (upd (upd H4 dx (.own x)) x (.ins C dx [])) b = none) b := fun {b u} h z => by
      have z' : (upd (upd H4 dx (.own x)) x (.ins C dx [])) b = none := z
      rw [sm _ _ h] at z'
      cases z'
    have rep : Rep its R' F' S' L' := by
      have := pu.rep its rfl ig.sc
      rw [plcAll_srt its ig.sc ksr] at this
      exact this
    generalize (fun b => (upd (upd H4 dx (.own x)) x (.ins C dx [])) b = none) = Z at st6 nZ
    have zr := nZ sh5.r
    have zs' := nZ sh5.s
    have els6 := s6 _ _ els5
    have sh6 := sh5.same s6
    have sx6 := sx5.tk (Tk.same s6)
    have eqR := (rep.eqR rep0).2
    have eqS := (rep.eqS rep0).2
    have eqF := (rep.eqF rep0).2
    have keyF : ∀ n q' c, valG R n = some (q', c) → ∃ qf rs, valG F n = some (qf, rs) := fun n q' c e => by
      have m : n ∈ R.map (·.1) := valG_key.mpr (by rw [e]; rfl)
      rw [← ek] at m
      have := valG_key.mp m
      cases z : valG F n with
      | none => rw [z] at this; cases this
      | some b => exact ⟨b.1, b.2, rfl⟩
    clear els5 sh5 sx5 s6 gw6 pu nZ sm nx ndx nex ig el k1 k2 k3
    have fok : ∀ {K' : PySem.W.Frag} {H' : Hp} {rs : Rw}, RowsOk K' H' rs → ∀ t ∈ rs, (∀ x ∈ t.2, Scal x) ∧ t.2.length ≤ 10 := fun h t m => (h t m).2
    -- the relations
    refine ⟨dr, _, sh6.r, True.intro, fun od => ?_⟩
    have frl : (upd H6 dr (.frz od (.dK (kvR R)))) dr = some (.frz od (.dK (kvR R))) := upd_same
    have sv6 := sh6.v (SqL.of els6)
    have stl := (st6.lk (od := od) sh6.r zr).v
    have svl := sv6.lk (od := od) sh6.r
    have sxl := sx6.tk (Tk.dK (o := .frz od (.dK (kvR R))) sh6.r)
    have lkd := fun {H'} => Same.lock (od := od) (H' := H') sh6.r
    have elsl : (upd H6 dr (.frz od (.dK (kvR R)))) ls = some (.lst [.ref dr, .ref df, .ref ds]) := by rw [upd_ne (fun z => by have := sh6.r; rw [← z, els6] at this; cases this)]; exact els6
    generalize (upd H6 dr (.frz od (.dK (kvR R)))) = Hl at *
    refine ⟨_, rfl, ls, _, 0, .ref dr, rfl, rfl, SqL.of elsl, at_of (j := 0) rfl rfl, dr, od, rfl, .inl ⟨kvR R, frl, for_it walk_keys (fun i σ H9 => ∃ y4 y5 : Option V, σ = [some (.ref a), some (.ref p), some (.ref ls), some (.ref x), y4, y5, none, none, none, none, none, none, none, none] ∧ Same Hl H9)
      ⟨none, none, rfl, Same.refl _⟩ (fun i σ H9 _ hP => ?_) (fun i y σ H9 H10 hi hP hY => ?_) (fun σ H9 hP => ?_)⟩⟩
    · obtain ⟨_, _, _, s9⟩ := hP
      exact s9 _ _ frl
    · obtain ⟨y4, y5, rfl, s9⟩ := hP
      obtain ⟨rfl, k, v0, ek', rfl⟩ := hY
      obtain ⟨n, qr, c, rfl, eR⟩ := kvR_nv sh6.rn ek'
      obtain ⟨cc, wd, r, rfl, hcc, w1, w4, r1, r40⟩ := sxl.rc n qr c eR
      obtain ⟨qf, rs, eF⟩ := keyF n _ _ eR
      obtain ⟨_, lrs, _⟩ := sxl.fw n qf rs eF
      obtain ⟨q1, e1⟩ := eqR n qr _ eR
      obtain ⟨q2, rs', e2, ers⟩ := eqF n qf rs eF
      refine ⟨_, rfl, _, rfl, x, n, R', S', F', q1, q2, cc, r, rs', rfl, stl.same s9, e1, e2, r1, r40, by rw [rows_len ers]; omega, fun z H12 s12 pz => ?_⟩
      rw [codes_eq ers] at pz
      cases eo : fillO (codes rs) r.toNat with
      | none =>
        rw [eo] at pz
        have ez : z = .non := pz
        subst ez
        exact ⟨_, rfl, rfl, _, rfl, ite2 (fun e => absurd e (by simp)) fun _ => ⟨_, _, rfl, s9.trans s12⟩⟩
      | some ss =>
        have lss := fillO_len eo
        obtain ⟨gs, m, hss, hfl, hgs⟩ := fill_groups eo
        rw [eo] at pz
        obtain ⟨p2, us, rfl, n2, h2, es2, pt2, fr2, l200, l2⟩ := pz
        refine ⟨_, rfl, rfl, _, rfl, ite2 (fun _ => ?_) (fun e => absurd (by simp) e)⟩
        obtain ⟨⟨dr2, df2, ds2, hls2, hr2, hf2, hs2⟩, rt2, ft2, st2⟩ := svl.same (s9.trans s12)
        refine ⟨_, rfl, p2, _, rfl, .inl (SqL.of h2), _, rfl, ls, _, 0, .ref dr2, rfl, rfl, hls2, at_of (j := 0) rfl rfl, _, rfl, dr2, _, rfl, dget_n hr2 eR, qr, _, 1, .int r, rfl, rfl, rt2 _ _ _ eR, at_of (j := 1) rfl rfl, rfl, _, rfl, ?_⟩
        have lus : (refs us).length = r.toNat := by
          rw [refs_len, ← lss, ← es2, List.length_map]
        rw [lus, Int.toNat_of_nonneg (by omega)]
        rw [show (!decide (V.int r = V.int r)) = false by rw [decide_eq_true rfl]; rfl]
        refine iteF ?_
        have rok := (ft2 _ _ _ eF).2
        have lfl : gs.flatten.length = rs.length := by rw [hfl, List.length_map]
        refine ⟨_, rfl, p2, us, gs, m, rfl, h2, pt2, by rw [es2, hss], hgs, fun r' mr => ?_, by rw [lfl]; omega, fun H13 p3 rs3 s13 n3 e3 ro3 em3 => ?_⟩
        · rw [hfl] at mr
          obtain ⟨t, mt, et⟩ := List.mem_map.mp mr
          rw [← et]
          exact fok rok t mt
        obtain ⟨⟨dr3, df3, ds3, hls3, hr3, hf3, hs3⟩, rt3, ft3, st3⟩ := svl.same ((s9.trans s12).trans s13)
        have rok3 := (ft3 _ _ _ eF).2
        have ed : rwsD rs3 = rwsD rs := by rw [rwsD_map, rwsD_map, em3, hfl]
        have dk := rwsD_ok (fok rok3) (by omega)
        have d1 : Dp K H13 (.ref p3) (rwsD rs) := by
          rw [← ed]
          exact .lst (SqL.of e3) (rws_dp ro3)
        refine ⟨_, rfl, ls, _, 1, .ref df3, rfl, rfl, hls3, at_of (j := 1) rfl rfl, _, rfl, df3, _, rfl, dgetF hf3 eF, .ref p3, .ref qf, rwsD rs, rfl, d1, .lst (SqL.of (ft3 _ _ _ eF).1) (rws_dp rok3), dk.1, dk.2, ?_⟩
        rintro z14 H14 rfl s14
        exact ⟨_, rfl, iteF ⟨_, _, rfl, ((s9.trans s12).trans s13).trans s14⟩⟩
    · obtain ⟨y4, y5, rfl, s9⟩ := hP
      refine ⟨s9 _ _ frl, ?_⟩
      have s10 := lkd s9
      generalize (upd H9 dr (.dK (kvR R))) = H10 at *
      clear frl stl svl sxl lkd elsl s9 sv6
      have sh10 := sh6.same s10
      have els10 := s10 _ _ els6
      have st10 := st6.same s10
      have sx10 := sx6.tk (Tk.same s10)
      have sv10 := sh10.v (SqL.of els10)
      refine ⟨ds, _, sh10.s, True.intro, fun od2 => ?_⟩
      have frl : (upd H10 ds (.frz od2 (.dK (kvR S)))) ds = some (.frz od2 (.dK (kvR S))) := upd_same
      have stl := (st10.lk (od := od2) sh10.s zs').v
      have svl := sv10.lk (od := od2) sh10.s
      have sxl := sx10.tk (Tk.dK (o := .frz od2 (.dK (kvR S))) sh10.s)
      have elsl : (upd H10 ds (.frz od2 (.dK (kvR S)))) ls = some (.lst [.ref dr, .ref df, .ref ds]) := by rw [upd_ne (fun z => by have := sh10.s; rw [← z, els10] at this; cases this)]; exact els10
      generalize (upd H10 ds (.frz od2 (.dK (kvR S)))) = Hm at *
      refine ⟨_, rfl, ls, _, 2, .ref ds, rfl, rfl, SqL.of elsl, at_of (j := 2) rfl rfl, ds, od2, rfl, .inl ⟨kvR S, frl, for_it walk_keys (fun i σ H9 => ∃ y4 y5 y6 y7 y8 y9 y10 y11 y12 : Option V, σ = [some (.ref a), some (.ref p), some (.ref ls), some (.ref x), y4, y5, y6, y7, y8, y9, y10, y11, y12, none] ∧ Same Hm H9)
        ⟨_, _, _, _, _, _, _, _, _, rfl, Same.refl _⟩ (fun i2 σ H9 _ hP => ?_) (fun i2 y σ H9 H10' hi2 hP hY => ?_) (fun σ H9 hP => ?_)⟩⟩
      · obtain ⟨_, _, _, _, _, _, _, _, _, _, s9⟩ := hP
        exact s9 _ _ frl
      · obtain ⟨y4, y5, y6, y7, y8, y9, y10, y11, y12, rfl, s9⟩ := hP
        obtain ⟨rfl, k, v0, ek', rfl⟩ := hY
        obtain ⟨n, qs, c, rfl, eS⟩ := kvR_nv sh6.sn ek'
        obtain ⟨rn, cc, cs, b, s, qr, cr, wd, r, rfl, hcc, nn, lcs, sub, eR, hcr, w4, b1, b2, t1, t2⟩ := sxl.sc n qs c eS
        obtain ⟨qf, rs, eF⟩ := keyF rn _ _ eR
        obtain ⟨_, lrs, q3, c3, w3, r3, eR3, hc3, w34, wid3⟩ := sxl.fw rn qf rs eF
        have wid : ∀ t ∈ rs, t.2.length = wd := by
          rw [eR3] at eR
          cases eR
          obtain ⟨o1, h1, _⟩ := hc3
          obtain ⟨o2, h2, _⟩ := hcr
          rw [h1] at h2
          have e0 : colsV w3 = colsV wd := by
            injection h2 with h3
            injection h3 with _ h4
            injection h4
          have e := congrArg List.length e0
          rw [colsV_len w34, colsV_len w4] at e
          rw [← e]
          exact wid3
        obtain ⟨q4, e4⟩ := eqS n qs _ eS
        obtain ⟨q5, e5⟩ := eqR rn qr _ eR
        obtain ⟨q6, rs', e6, ers⟩ := eqF rn qf rs eF
        have si : SInfo K Hm R S n rn cs wd b s := ⟨⟨qs, cc, qr, cr, r, eS, hcc, eR, hcr⟩, nn, lcs, sub, w4, b1, b2, t1, t2⟩
        have si' : SInfo K Hm R' S' n rn cs wd b s := ⟨⟨q4, cc, q5, cr, r, e4, hcc, e5, hcr⟩, nn, lcs, sub, w4, b1, b2, t1, t2⟩
        obtain ⟨⟨dr2, df2, ds2, hls2, hr2, hf2, hs2⟩, rt2, ft2, st2⟩ := svl.same s9
        refine ⟨_, rfl, ls, _, 2, .ref ds2, rfl, rfl, hls2, at_of (j := 2) rfl rfl, _, rfl, ds2, _, rfl, dget_n hs2 eS, qs, _, rfl, st2 _ _ _ eS, rfl, _, _, rfl, _, _, rfl, _, _, rfl, _, _, rfl, rfl, ?_⟩
        refine ⟨_, rfl, _, rfl, x, n, rn, R', S', F', cs, wd, b, s, q6, rs', rfl, stl.same s9, si'.tk (Tk.same s9), e6, by rw [rows_len ers]; omega, rows_wid ers wid, fun z H12 s12 pz => ?_⟩
        rw [strO_eq ers] at pz
        cases eo : strO cs wd b s rs with
        | none =>
          rw [eo] at pz
          have ez : z = .non := pz
          subst ez
          exact ⟨_, rfl, rfl, _, rfl, ite2 (fun e => absurd e (by simp)) fun _ => ⟨_, _, _, _, _, _, _, _, _, rfl, s9.trans s12⟩⟩
        | some ss =>
          have lss := strO_len eo
          rw [eo] at pz
          obtain ⟨p2, us, rfl, n2, h2, es2, pt2, fr2, l200, l2⟩ := pz
          refine ⟨_, rfl, rfl, _, rfl, ite2 (fun _ => ?_) (fun e => absurd (by simp) e)⟩
          refine ⟨_, rfl, p2, _, rfl, .inl (SqL.of h2), _, rfl, _, rfl, _, _, rfl, rfl, .inl ⟨by omega, by omega⟩, rfl, _, rfl, ?_⟩
          have lus : (((refs us).length : Nat) : Int) = b * s := by
            rw [refs_len, show us.length = ss.length by rw [← es2, List.length_map], lss]
            have h1 : ((b.toNat : Nat) : Int) = b := Int.toNat_of_nonneg (by omega)
            have h2 : ((s.toNat : Nat) : Int) = s := Int.toNat_of_nonneg (by omega)
            rw [← h1, ← h2]
            simp
          rw [lus]
          rw [show (!decide (V.int (b * s) = V.int (b * s))) = false by rw [decide_eq_true rfl]; rfl]
          refine iteF ?_
          have rok := (ft2 _ _ _ eF).2
          refine ⟨_, rfl, b, rfl, by omega, by omega, for_range (lo := 0) (n := b.toNat) (fun k σ H' => ∃ y11 y12 : Option V, σ = [some (.ref a), some (.ref p), some (.ref ls), some (.ref x), some (.str n), some (.ref p2), some (.str rn), some (.ref cc), some (.int b), some (.int s), some (.int (((rs.filter fun t => decide (bkt cs wd b t.2 < (k : Int))).length : Nat) : Int)), y11, y12, none] ∧ Same H12 H')
            ⟨y11, y12, ?_, Same.refl _⟩ ?_ ?_⟩
          · have e0 : (rs.filter fun t => decide (bkt cs wd b t.2 < ((0 : Nat) : Int))).length = 0 := by
              rw [List.length_eq_zero_iff, List.filter_eq_nil_iff]
              intro t _ h
              have h1 := of_decide_eq_true h
              have h2 := (bkt_lt si t.2).1
              omega
            rw [e0]
            rfl
          · rintro k σ H13 hk ⟨y11, y12, rfl, s13⟩
            show gName 11 (V.int (0 + (k : Int))) _ _ _
            rw [Int.zero_add]
            have so := (s9.trans s12).trans s13
            have h13 := s13 _ _ h2
            obtain ⟨y, ey, eys⟩ := str_slice eo hk
            obtain ⟨gs, m, hss, hfl, hgs⟩ := fill_groups ey
            refine ⟨_, rfl, _, rfl, _, rfl, _, _, rfl, rfl, .inl ⟨by omega, by omega⟩, _, rfl, _, rfl, _, rfl, _, _, rfl, rfl, .inl ⟨by omega, by omega⟩, _, rfl, _, _, rfl, rfl, _, rfl, p2, _, rfl, SqL.of h13, fun p4 np4 => ?_⟩
            have cut : cutV (refs us) (some (s * (k : Int))) (some (s * (k : Int) + s)) = refs ((us.drop (s.toNat * k)).take s.toNat) := by
              have h2 : ((s.toNat : Nat) : Int) = s := Int.toNat_of_nonneg (by omega)
              have h3 : ((s.toNat * k : Nat) : Int) = s * (k : Int) := by rw [← h2]; simp
              have h4 : ((s.toNat * k + s.toNat : Nat) : Int) = s * (k : Int) + s := by rw [← h3, ← h2]; simp
              have := cutMid (refs us) (s.toNat * k) (s.toNat * k + s.toNat)
              rw [h3, h4] at this
              rw [this]
              unfold refs
              rw [List.map_take, List.map_drop]
              congr 1
              omega
            rw [cut]
            have s14 : Same H13 (upd H13 p4 (.lst (refs ((us.drop (s.toNat * k)).take s.toNat)))) := Same.new np4
            have e14 : (upd H13 p4 (.lst (refs ((us.drop (s.toNat * k)).take s.toNat)))) p4 = some (.lst (refs ((us.drop (s.toNat * k)).take s.toNat))) := upd_same
            generalize (upd H13 p4 (.lst (refs ((us.drop (s.toNat * k)).take s.toNat)))) = H14 at s14 e14 ⊢
            have lg : (rs.filter fun t => decide (bkt cs wd b t.2 = (k : Int))).length ≤ rs.length := List.length_filter_le _ _
            have lfl : gs.flatten.length = (rs.filter fun t => decide (bkt cs wd b t.2 = (k : Int))).length := by rw [hfl, List.length_map]
            refine ⟨p4, _, gs, m, rfl, e14, fun t mt => s14 _ _ (s13 _ _ (pt2 t (List.mem_of_mem_drop (List.mem_of_mem_take mt)))), ?_, hgs, fun r' mr => ?_, by rw [lfl]; omega, fun H15 p3 rs3 s15 n3 e3 ro3 em3 => ?_⟩
            · rw [← hss, ← eys, ← es2, List.map_take, List.map_drop]
            · rw [hfl] at mr
              obtain ⟨t, mt, et⟩ := List.mem_map.mp mr
              rw [← et]
              exact fok rok t (List.mem_filter.mp mt).1
            rw [hfl] at em3
            have so15 := so.trans (s14.trans s15)
            obtain ⟨⟨dr3, df3, ds3, hls3, hr3, hf3, hs3⟩, rt3, ft3, st3⟩ := svl.same so15
            obtain ⟨eq3, rok3⟩ := ft3 _ _ _ eF
            have l3 : rs3.length = (rs.filter fun t => decide (bkt cs wd b t.2 = (k : Int))).length := by
              have := congrArg List.length em3
              rw [List.length_map, List.length_map] at this
              exact this
            refine ⟨_, rfl, rfl, _, rfl, iteF ?_⟩
            refine ⟨_, rfl, _, rfl, ls, _, 1, .ref df3, rfl, rfl, hls3, at_of (j := 1) rfl rfl, _, rfl, df3, _, rfl, dgetF hf3 eF, qf, rfl, ⟨_, SqL.of eq3⟩, fun D nD => ?_⟩
            have ln0 : (rrefs rs).length = rs.length := rrefs_len rs
            refine lc_fl (walk_list (K := K) (a := qf) (xs := rrefs rs)) (fun i => decide (bkt cs wd b (rs.getD i (0, [])).2 = (k : Int))) (fun i => V.ref (rs.getD i (0, [])).1) (by rw [ln0]; exact small (m := 1000) (by omega) (by decide)) nD (fun H' s' => SqL.of (s' _ _ eq3)) (fun i v H16 H16' N M hi s16 yy f1 f2 => ?_) fun H16 s16 eD => ?_
            · obtain ⟨rfl, ex⟩ := yy
              obtain ⟨t, et, rfl⟩ := rrefs_get ex
              have mt := List.mem_of_getElem? et
              rw [getD_of et] at f1 f2
              obtain ⟨ht, st, l10⟩ := (rok3.same s16) t mt
              refine ⟨rfl, ?_⟩
              refine ⟨_, rfl, _, rfl, rowD t.2, rs3.map (fun (t : Addr × List V) => rowD t.2), .tup ht (sc_dp st), .lst (SqL.of (s16 _ _ e3)) (rws_dp (ro3.same s16)), row_shaped st, rws_shaped fun u m => (ro3 u m).2.1, _, rfl, ?_⟩
              rw [any_group (f := fun r => bkt cs wd b r) em3 (fun u m => (ro3 u m).2.1) mt st]
              by_cases z : bkt cs wd b t.2 = (k : Int)
              · rw [decide_eq_true z] at f1 ⊢
                exact iteT ⟨_, rfl, f1 rfl _ (Same.refl _)⟩
              · rw [decide_eq_false z] at f2 ⊢
                exact iteF (f2 rfl _ (Same.refl _))
            · rw [ln0, filter_at rs (0, []) (fun t => decide (bkt cs wd b t.2 = (k : Int)))] at eD
              have ro16 : RowsOk K H16 (rs.filter fun t => decide (bkt cs wd b t.2 = (k : Int))) := fun t m => (rok3.same s16) t (List.mem_filter.mp m).1
              have ed : rwsD rs3 = rwsD (rs.filter fun t => decide (bkt cs wd b t.2 = (k : Int))) := by rw [rwsD_map, rwsD_map, em3]
              have dk := rwsD_ok (fok ro16) (by omega)
              have e3b := s16 _ _ e3
              have ro3b := ro3.same s16
              have d1 : Dp K H16 (.ref p3) (rwsD (rs.filter fun t => decide (bkt cs wd b t.2 = (k : Int)))) := by
                rw [← ed]
                exact .lst (SqL.of e3b) (rws_dp ro3b)
              refine ⟨.ref p3, .ref D, rwsD (rs.filter fun t => decide (bkt cs wd b t.2 = (k : Int))), rfl, d1, .lst (SqL.of eD) (rws_dp ro16), dk.1, dk.2, ?_⟩
              rintro z17 H17 rfl s17
              refine ⟨_, rfl, iteF ?_⟩
              have e3c := s17 _ _ e3b
              have ro3c := ro3b.same s17
              refine ⟨_, rfl, _, rfl, p3, _, rfl, .inl (SqL.of e3c), _, _, rfl, rfl, ?_⟩
              rw [rrefs_len, l3]
              refine ⟨_, rfl, p3, rfl, ⟨_, SqL.of e3c⟩, fun D2 nD2 => ?_⟩
              have so17 := so15.trans (s16.trans s17)
              refine lc_fl (walk_list (K := K) (a := p3) (xs := rrefs rs3)) (fun _ => false) (fun i => V.non) (by rw [rrefs_len, l3]; exact small (m := 1000) (by omega) (by decide)) nD2 (fun H' s' => SqL.of (s' _ _ e3c)) (fun i v H18 H18' N M hi s18 yy f1 f2 => ?_) fun H18 s18 eD2 => ?_
              · obtain ⟨rfl, ex⟩ := yy
                obtain ⟨t, et, rfl⟩ := rrefs_get ex
                have mt := List.mem_of_getElem? et
                obtain ⟨ht, st, l10⟩ := (ro3c.same s18) t mt
                have m3 : t.2 ∈ (rs.filter fun t => decide (bkt cs wd b t.2 = (k : Int))).map (·.2) := by
                  rw [← em3]
                  exact List.mem_map.mpr ⟨t, mt, rfl⟩
                obtain ⟨u, mu, eu⟩ := List.mem_map.mp m3
                obtain ⟨mu1, mu2⟩ := List.mem_filter.mp mu
                have hb : bkt cs wd b t.2 = (k : Int) := by rw [← eu]; exact of_decide_eq_true mu2
                have hw : t.2.length = wd := by rw [← eu]; exact wid u mu1
                have vs := vals_scal si hw st
                refine ⟨rfl, ?_⟩
                refine ⟨_, rfl, _, rfl, _, rfl, ls, t.1, n, rn, R, S, F, cs, wd, b, s, t.2, rfl, svl.same (so17.trans s18), si.tk (Tk.same (so17.trans s18)), ht, hw, fun t' H19 s19 ht' => ?_⟩
                refine ⟨_, rfl, t', _, b, rfl, ht', vs.1, vs.2, by omega, fun H20 s20 => ?_⟩
                refine ⟨_, rfl, rfl, _, rfl, ?_⟩
                have e20 : buk (rowB (valsOf cs wd t.2)) % b = (k : Int) := hb
                rw [e20, show (!decide (V.int (k : Int) = V.int (k : Int))) = false by rw [decide_eq_true rfl]; rfl]
                exact iteF (f2 rfl _ (s19.trans s20))
              · have e0 : ((List.range (rrefs rs3).length).filter fun _ => false).map (fun _ => V.non) = [] := by simp
                rw [e0] at eD2
                refine ⟨D2, _, rfl, .inl (SqL.of eD2), _, _, rfl, rfl, _, rfl, iteF ?_⟩
                refine ⟨some (.int (k : Nat)), some (.ref p3), ?_, s13.trans ((s14.trans s15).trans ((s16.trans s17).trans s18))⟩
                have cs' := cnt_step (fun t => bkt cs wd b t.2) (k : Int) rs
                show [some (V.ref a), some (.ref p), some (.ref ls), some (.ref x), some (.str n), some (.ref p2), some (.str rn), some (.ref cc), some (.int b), some (.int s), some (.int (((rs.filter fun t => decide (bkt cs wd b t.2 < (k : Int))).length : Nat) + ((rs.filter fun t => decide (bkt cs wd b t.2 = (k : Int))).length : Nat))), some (.int (k : Nat)), some (.ref p3), none] = _
                congr 11
                congr 3
                rw [show ((k + 1 : Nat) : Int) = (k : Int) + 1 by omega, cs']
                omega
          · rintro σ H13 ⟨y11, y12, rfl, s13⟩
            obtain ⟨⟨dr3, df3, ds3, hls3, hr3, hf3, hs3⟩, rt3, ft3, st3⟩ := svl.same ((s9.trans s12).trans s13)
            have eall : (rs.filter fun t => decide (bkt cs wd b t.2 < ((b.toNat : Nat) : Int))) = rs := by
              rw [List.filter_eq_self]
              intro t _
              have h2 := (bkt_lt si t.2).2
              exact decide_eq_true (by omega)
            rw [eall]
            refine ⟨_, rfl, _, rfl, ls, _, 1, .ref df3, rfl, rfl, hls3, at_of (j := 1) rfl rfl, _, rfl, df3, _, rfl, dgetF hf3 eF, qf, _, rfl, .inl (SqL.of (ft3 _ _ _ eF).1), rfl, _, rfl, ?_⟩
            rw [rrefs_len]
            rw [show (!decide (V.int ((rs.length : Nat) : Int) = V.int ((rs.length : Nat) : Int))) = false by rw [decide_eq_true rfl]; rfl]
            exact iteF ⟨_, _, _, _, _, _, _, _, _, rfl, (s9.trans s12).trans s13⟩
      · obtain ⟨y4, y5, y6, y7, y8, y9, y10, y11, y12, rfl, s9⟩ := hP
        exact ⟨s9 _ _ frl, q _⟩
end
end K1
namespace K1
open PySem PySem.Spec PyProof.Rows L2 Ow Bd
theorem kn_of {P : Program} {w : World} {K : PySem.W.Frag} {mg : Str → Option Value} {base : Heap} {k : Nat} {x qual : Str} {st : Stmt} {f : Addr} {fd : FuncData} {ps : List Str} {sp : Sp}
    (F : Fun K x qual st f fd) (g : mg x = some (.ref f)) (b : Binds K fd ps []) (ok : FnOk P w K mg base CX0 k f fd ps sp) : Kn P w K mg base k x ps sp := ⟨⟨f, fd, ok, g, F.kp, b⟩⟩
theorem all_mk {l : PySem.W.OpenLaw} {w : World} {K : PySem.W.Frag} {h : Heap} {mg : Str → Option Value} {fa : Addr} (X : K.In h) (G : h.Ns mainGlobals mg) (hfa : mg "law" = some (.ref fa))
    {f1 : Addr} {od1 an1 : Option Addr} {sl1 : Array (Option Value)} {oc1 kV1 dc1 pm1 cd1 ct1 : Value}
    {f2 : Addr} {od2 an2 : Option Addr} {sl2 : Array (Option Value)} {oc2 kV2 dc2 pm2 cd2 ct2 : Value}
    {f3 : Addr} {od3 an3 : Option Addr} {sl3 : Array (Option Value)} {oc3 kV3 dc3 pm3 cd3 ct3 : Value}
    {f4 : Addr} {od4 an4 : Option Addr} {sl4 : Array (Option Value)} {oc4 kV4 dc4 pm4 cd4 ct4 : Value}
    {f5 : Addr} {od5 an5 : Option Addr} {sl5 : Array (Option Value)} {oc5 kV5 dc5 pm5 cd5 ct5 : Value}
    {f6 : Addr} {od6 an6 : Option Addr} {sl6 : Array (Option Value)} {oc6 kV6 dc6 pm6 cd6 ct6 : Value}
    {f7 : Addr} {od7 an7 : Option Addr} {sl7 : Array (Option Value)} {oc7 kV7 dc7 pm7 cd7 ct7 : Value}
    {f8 : Addr} {od8 an8 : Option Addr} {sl8 : Array (Option Value)} {oc8 kV8 dc8 pm8 cd8 ct8 : Value}
    {f9 : Addr} {od9 an9 : Option Addr} {sl9 : Array (Option Value)} {oc9 kV9 dc9 pm9 cd9 ct9 : Value}
    {f10 : Addr} {od10 an10 : Option Addr} {sl10 : Array (Option Value)} {oc10 kV10 dc10 pm10 cd10 ct10 : Value}
    {f11 : Addr} {od11 an11 : Option Addr} {sl11 : Array (Option Value)} {oc11 kV11 dc11 pm11 cd11 ct11 : Value}
    {f12 : Addr} {od12 an12 : Option Addr} {sl12 : Array (Option Value)} {oc12 kV12 dc12 pm12 cd12 ct12 : Value}
    {f13 : Addr} {od13 an13 : Option Addr} {sl13 : Array (Option Value)} {oc13 kV13 dc13 pm13 cd13 ct13 : Value}
    {f14 : Addr} {od14 an14 : Option Addr} {sl14 : Array (Option Value)} {oc14 kV14 dc14 pm14 cd14 ct14 : Value}
    {f15 : Addr} {od15 an15 : Option Addr} {sl15 : Array (Option Value)} {oc15 kV15 dc15 pm15 cd15 ct15 : Value}
    {f16 : Addr} {od16 an16 : Option Addr} {sl16 : Array (Option Value)} {oc16 kV16 dc16 pm16 cd16 ct16 : Value}
    {f17 : Addr} {od17 an17 : Option Addr} {sl17 : Array (Option Value)} {oc17 kV17 dc17 pm17 cd17 ct17 : Value}
    {f18 : Addr} {od18 an18 : Option Addr} {sl18 : Array (Option Value)} {oc18 kV18 dc18 pm18 cd18 ct18 : Value}
    {f19 : Addr} {od19 an19 : Option Addr} {sl19 : Array (Option Value)} {oc19 kV19 dc19 pm19 cd19 ct19 : Value}
    {f20 : Addr} {od20 an20 : Option Addr} {sl20 : Array (Option Value)} {oc20 kV20 dc20 pm20 cd20 ct20 : Value}
    {f21 : Addr} {od21 an21 : Option Addr} {sl21 : Array (Option Value)} {oc21 kV21 dc21 pm21 cd21 ct21 : Value}
    {f22 : Addr} {od22 an22 : Option Addr} {sl22 : Array (Option Value)} {oc22 kV22 dc22 pm22 cd22 ct22 : Value}
    {f23 : Addr} {od23 an23 : Option Addr} {sl23 : Array (Option Value)} {oc23 kV23 dc23 pm23 cd23 ct23 : Value}
    {f24 : Addr} {od24 an24 : Option Addr} {sl24 : Array (Option Value)} {oc24 kV24 dc24 pm24 cd24 ct24 : Value}
    {f25 : Addr} {od25 an25 : Option Addr} {sl25 : Array (Option Value)} {oc25 kV25 dc25 pm25 cd25 ct25 : Value}
    {f26 : Addr} {od26 an26 : Option Addr} {sl26 : Array (Option Value)} {oc26 kV26 dc26 pm26 cd26 ct26 : Value}
    {f27 : Addr} {od27 an27 : Option Addr} {sl27 : Array (Option Value)} {oc27 kV27 dc27 pm27 cd27 ct27 : Value}
    {f28 : Addr} {od28 an28 : Option Addr} {sl28 : Array (Option Value)} {oc28 kV28 dc28 pm28 cd28 ct28 : Value}
    {f29 : Addr} {od29 an29 : Option Addr} {sl29 : Array (Option Value)} {oc29 kV29 dc29 pm29 cd29 ct29 : Value}
    {f30 : Addr} {od30 an30 : Option Addr} {sl30 : Array (Option Value)} {oc30 kV30 dc30 pm30 cd30 ct30 : Value}
    {f31 : Addr} {od31 an31 : Option Addr} {sl31 : Array (Option Value)} {oc31 kV31 dc31 pm31 cd31 ct31 : Value}
    {f32 : Addr} {od32 an32 : Option Addr} {sl32 : Array (Option Value)} {oc32 kV32 dc32 pm32 cd32 ct32 : Value}
    {f33 : Addr} {od33 an33 : Option Addr} {sl33 : Array (Option Value)} {oc33 kV33 dc33 pm33 cd33 ct33 : Value}
    {f34 : Addr} {od34 an34 : Option Addr} {sl34 : Array (Option Value)} {oc34 kV34 dc34 pm34 cd34 ct34 : Value}
    {f35 : Addr} {od35 an35 : Option Addr} {sl35 : Array (Option Value)} {oc35 kV35 dc35 pm35 cd35 ct35 : Value}
    {f36 : Addr} {od36 an36 : Option Addr} {sl36 : Array (Option Value)} {oc36 kV36 dc36 pm36 cd36 ct36 : Value}
    (a1 : PySem.W.nsIn K mainGlobals "value_key" = some (some (.ref f1)))
    (l1 : K.lookup f1 = some ⟨oc1, od1, .func (PySem.W.fnOf "value_key" "value_key" (defArgs svalue_key) (defBody svalue_key) (defScope svalue_key) .none kV1 dc1 pm1 an1 cd1 ct1), sl1⟩) (c1 : PySem.W.codeIn K cd1 "value_key" = true) (k1 : PySem.W.keepIn K (.ref f1) = true)
    (a2 : PySem.W.nsIn K mainGlobals "row_key" = some (some (.ref f2)))
    (l2 : K.lookup f2 = some ⟨oc2, od2, .func (PySem.W.fnOf "row_key" "row_key" (defArgs srow_key) (defBody srow_key) (defScope srow_key) .none kV2 dc2 pm2 an2 cd2 ct2), sl2⟩) (c2 : PySem.W.codeIn K cd2 "row_key" = true) (k2 : PySem.W.keepIn K (.ref f2) = true)
    (a3 : PySem.W.nsIn K mainGlobals "place_of" = some (some (.ref f3)))
    (l3 : K.lookup f3 = some ⟨oc3, od3, .func (PySem.W.fnOf "place_of" "place_of" (defArgs splace_of) (defBody splace_of) (defScope splace_of) .none kV3 dc3 pm3 an3 cd3 ct3), sl3⟩) (c3 : PySem.W.codeIn K cd3 "place_of" = true) (k3 : PySem.W.keepIn K (.ref f3) = true)
    (a4 : PySem.W.nsIn K mainGlobals "put_fact" = some (some (.ref f4)))
    (l4 : K.lookup f4 = some ⟨oc4, od4, .func (PySem.W.fnOf "put_fact" "put_fact" (defArgs sput_fact) (defBody sput_fact) (defScope sput_fact) .none kV4 dc4 pm4 an4 cd4 ct4), sl4⟩) (c4 : PySem.W.codeIn K cd4 "put_fact" = true) (k4 : PySem.W.keepIn K (.ref f4) = true)
    (a5 : PySem.W.nsIn K mainGlobals "put_item" = some (some (.ref f5)))
    (l5 : K.lookup f5 = some ⟨oc5, od5, .func (PySem.W.fnOf "put_item" "put_item" (defArgs sput_item) (defBody sput_item) (defScope sput_item) .none kV5 dc5 pm5 an5 cd5 ct5), sl5⟩) (c5 : PySem.W.codeIn K cd5 "put_item" = true) (k5 : PySem.W.keepIn K (.ref f5) = true)
    (a6 : PySem.W.nsIn K mainGlobals "write_number" = some (some (.ref f6)))
    (l6 : K.lookup f6 = some ⟨oc6, od6, .func (PySem.W.fnOf "write_number" "write_number" (defArgs swrite_number) (defBody swrite_number) (defScope swrite_number) .none kV6 dc6 pm6 an6 cd6 ct6), sl6⟩) (c6 : PySem.W.codeIn K cd6 "write_number" = true) (k6 : PySem.W.keepIn K (.ref f6) = true)
    (a7 : PySem.W.nsIn K mainGlobals "write_integer" = some (some (.ref f7)))
    (l7 : K.lookup f7 = some ⟨oc7, od7, .func (PySem.W.fnOf "write_integer" "write_integer" (defArgs swrite_integer) (defBody swrite_integer) (defScope swrite_integer) .none kV7 dc7 pm7 an7 cd7 ct7), sl7⟩) (c7 : PySem.W.codeIn K cd7 "write_integer" = true) (k7 : PySem.W.keepIn K (.ref f7) = true)
    (a8 : PySem.W.nsIn K mainGlobals "write_string" = some (some (.ref f8)))
    (l8 : K.lookup f8 = some ⟨oc8, od8, .func (PySem.W.fnOf "write_string" "write_string" (defArgs swrite_string) (defBody swrite_string) (defScope swrite_string) .none kV8 dc8 pm8 an8 cd8 ct8), sl8⟩) (c8 : PySem.W.codeIn K cd8 "write_string" = true) (k8 : PySem.W.keepIn K (.ref f8) = true)
    (a9 : PySem.W.nsIn K mainGlobals "write_value" = some (some (.ref f9)))
    (l9 : K.lookup f9 = some ⟨oc9, od9, .func (PySem.W.fnOf "write_value" "write_value" (defArgs swrite_value) (defBody swrite_value) (defScope swrite_value) .none kV9 dc9 pm9 an9 cd9 ct9), sl9⟩) (c9 : PySem.W.codeIn K cd9 "write_value" = true) (k9 : PySem.W.keepIn K (.ref f9) = true)
    (a10 : PySem.W.nsIn K mainGlobals "write_row" = some (some (.ref f10)))
    (l10 : K.lookup f10 = some ⟨oc10, od10, .func (PySem.W.fnOf "write_row" "write_row" (defArgs swrite_row) (defBody swrite_row) (defScope swrite_row) .none kV10 dc10 pm10 an10 cd10 ct10), sl10⟩) (c10 : PySem.W.codeIn K cd10 "write_row" = true) (k10 : PySem.W.keepIn K (.ref f10) = true)
    (a11 : PySem.W.nsIn K mainGlobals "pack" = some (some (.ref f11)))
    (l11 : K.lookup f11 = some ⟨oc11, od11, .func (PySem.W.fnOf "pack" "pack" (defArgs spack) (defBody spack) (defScope spack) .none kV11 dc11 pm11 an11 cd11 ct11), sl11⟩) (c11 : PySem.W.codeIn K cd11 "pack" = true) (k11 : PySem.W.keepIn K (.ref f11) = true)
    (a12 : PySem.W.nsIn K mainGlobals "filled" = some (some (.ref f12)))
    (l12 : K.lookup f12 = some ⟨oc12, od12, .func (PySem.W.fnOf "filled" "filled" (defArgs sfilled) (defBody sfilled) (defScope sfilled) .none kV12 dc12 pm12 an12 cd12 ct12), sl12⟩) (c12 : PySem.W.codeIn K cd12 "filled" = true) (k12 : PySem.W.keepIn K (.ref f12) = true)
    (a13 : PySem.W.nsIn K mainGlobals "bucket_of_values" = some (some (.ref f13)))
    (l13 : K.lookup f13 = some ⟨oc13, od13, .func (PySem.W.fnOf "bucket_of_values" "bucket_of_values" (defArgs sbucket_of_values) (defBody sbucket_of_values) (defScope sbucket_of_values) .none kV13 dc13 pm13 an13 cd13 ct13), sl13⟩) (c13 : PySem.W.codeIn K cd13 "bucket_of_values" = true) (k13 : PySem.W.keepIn K (.ref f13) = true)
    (a14 : PySem.W.nsIn K mainGlobals "column_places" = some (some (.ref f14)))
    (l14 : K.lookup f14 = some ⟨oc14, od14, .func (PySem.W.fnOf "column_places" "column_places" (defArgs scolumn_places) (defBody scolumn_places) (defScope scolumn_places) .none kV14 dc14 pm14 an14 cd14 ct14), sl14⟩) (c14 : PySem.W.codeIn K cd14 "column_places" = true) (k14 : PySem.W.keepIn K (.ref f14) = true)
    (a15 : PySem.W.nsIn K mainGlobals "bucket" = some (some (.ref f15)))
    (l15 : K.lookup f15 = some ⟨oc15, od15, .func (PySem.W.fnOf "bucket" "bucket" (defArgs sbucket) (defBody sbucket) (defScope sbucket) .none kV15 dc15 pm15 an15 cd15 ct15), sl15⟩) (c15 : PySem.W.codeIn K cd15 "bucket" = true) (k15 : PySem.W.keepIn K (.ref f15) = true)
    (a16 : PySem.W.nsIn K mainGlobals "rows_by_bucket" = some (some (.ref f16)))
    (l16 : K.lookup f16 = some ⟨oc16, od16, .func (PySem.W.fnOf "rows_by_bucket" "rows_by_bucket" (defArgs srows_by_bucket) (defBody srows_by_bucket) (defScope srows_by_bucket) .none kV16 dc16 pm16 an16 cd16 ct16), sl16⟩) (c16 : PySem.W.codeIn K cd16 "rows_by_bucket" = true) (k16 : PySem.W.keepIn K (.ref f16) = true)
    (a17 : PySem.W.nsIn K mainGlobals "relation_shape" = some (some (.ref f17)))
    (l17 : K.lookup f17 = some ⟨oc17, od17, .func (PySem.W.fnOf "relation_shape" "relation_shape" (defArgs srelation_shape) (defBody srelation_shape) (defScope srelation_shape) .none kV17 dc17 pm17 an17 cd17 ct17), sl17⟩) (c17 : PySem.W.codeIn K cd17 "relation_shape" = true) (k17 : PySem.W.keepIn K (.ref f17) = true)
    (a18 : PySem.W.nsIn K mainGlobals "structure_shape" = some (some (.ref f18)))
    (l18 : K.lookup f18 = some ⟨oc18, od18, .func (PySem.W.fnOf "structure_shape" "structure_shape" (defArgs sstructure_shape) (defBody sstructure_shape) (defScope sstructure_shape) .none kV18 dc18 pm18 an18 cd18 ct18), sl18⟩) (c18 : PySem.W.codeIn K cd18 "structure_shape" = true) (k18 : PySem.W.keepIn K (.ref f18) = true)
    (a19 : PySem.W.nsIn K mainGlobals "_law_mix" = some (some (.ref f19)))
    (l19 : K.lookup f19 = some ⟨oc19, od19, .func (PySem.W.fnOf "_law_mix" "_law_mix" (defArgs s_law_mix) (defBody s_law_mix) (defScope s_law_mix) .none kV19 dc19 pm19 an19 cd19 ct19), sl19⟩) (c19 : PySem.W.codeIn K cd19 "_law_mix" = true) (k19 : PySem.W.keepIn K (.ref f19) = true)
    (a20 : PySem.W.nsIn K mainGlobals "_law_draws" = some (some (.ref f20)))
    (l20 : K.lookup f20 = some ⟨oc20, od20, .func (PySem.W.fnOf "_law_draws" "_law_draws" (defArgs s_law_draws) (defBody s_law_draws) (defScope s_law_draws) .none kV20 dc20 pm20 an20 cd20 ct20), sl20⟩) (c20 : PySem.W.codeIn K cd20 "_law_draws" = true) (k20 : PySem.W.keepIn K (.ref f20) = true)
    (a21 : PySem.W.nsIn K mainGlobals "_law_at" = some (some (.ref f21)))
    (l21 : K.lookup f21 = some ⟨oc21, od21, .func (PySem.W.fnOf "_law_at" "_law_at" (defArgs s_law_at) (defBody s_law_at) (defScope s_law_at) .none kV21 dc21 pm21 an21 cd21 ct21), sl21⟩) (c21 : PySem.W.codeIn K cd21 "_law_at" = true) (k21 : PySem.W.keepIn K (.ref f21) = true)
    (a22 : PySem.W.nsIn K mainGlobals "_law_is_integer" = some (some (.ref f22)))
    (l22 : K.lookup f22 = some ⟨oc22, od22, .func (PySem.W.fnOf "_law_is_integer" "_law_is_integer" (defArgs s_law_is_integer) (defBody s_law_is_integer) (defScope s_law_is_integer) .none kV22 dc22 pm22 an22 cd22 ct22), sl22⟩) (c22 : PySem.W.codeIn K cd22 "_law_is_integer" = true) (k22 : PySem.W.keepIn K (.ref f22) = true)
    (a23 : PySem.W.nsIn K mainGlobals "_law_same" = some (some (.ref f23)))
    (l23 : K.lookup f23 = some ⟨oc23, od23, .func (PySem.W.fnOf "_law_same" "_law_same" (defArgs s_law_same) (defBody s_law_same) (defScope s_law_same) .none kV23 dc23 pm23 an23 cd23 ct23), sl23⟩) (c23 : PySem.W.codeIn K cd23 "_law_same" = true) (k23 : PySem.W.keepIn K (.ref f23) = true)
    (a24 : PySem.W.nsIn K mainGlobals "_law_next" = some (some (.ref f24)))
    (l24 : K.lookup f24 = some ⟨oc24, od24, .func (PySem.W.fnOf "_law_next" "_law_next" (defArgs s_law_next) (defBody s_law_next) (defScope s_law_next) .none kV24 dc24 pm24 an24 cd24 ct24), sl24⟩) (c24 : PySem.W.codeIn K cd24 "_law_next" = true) (k24 : PySem.W.keepIn K (.ref f24) = true)
    (a25 : PySem.W.nsIn K mainGlobals "_law_text" = some (some (.ref f25)))
    (l25 : K.lookup f25 = some ⟨oc25, od25, .func (PySem.W.fnOf "_law_text" "_law_text" (defArgs s_law_text) (defBody s_law_text) (defScope s_law_text) .none kV25 dc25 pm25 an25 cd25 ct25), sl25⟩) (c25 : PySem.W.codeIn K cd25 "_law_text" = true) (k25 : PySem.W.keepIn K (.ref f25) = true)
    (a26 : PySem.W.nsIn K mainGlobals "_law_value" = some (some (.ref f26)))
    (l26 : K.lookup f26 = some ⟨oc26, od26, .func (PySem.W.fnOf "_law_value" "_law_value" (defArgs s_law_value) (defBody s_law_value) (defScope s_law_value) .none kV26 dc26 pm26 an26 cd26 ct26), sl26⟩) (c26 : PySem.W.codeIn K cd26 "_law_value" = true) (k26 : PySem.W.keepIn K (.ref f26) = true)
    (a27 : PySem.W.nsIn K mainGlobals "_law_first" = some (some (.ref f27)))
    (l27 : K.lookup f27 = some ⟨oc27, od27, .func (PySem.W.fnOf "_law_first" "_law_first" (defArgs s_law_first) (defBody s_law_first) (defScope s_law_first) .none kV27 dc27 pm27 an27 cd27 ct27), sl27⟩) (c27 : PySem.W.codeIn K cd27 "_law_first" = true) (k27 : PySem.W.keepIn K (.ref f27) = true)
    (a28 : PySem.W.nsIn K mainGlobals "_law_order" = some (some (.ref f28)))
    (l28 : K.lookup f28 = some ⟨oc28, od28, .func (PySem.W.fnOf "_law_order" "_law_order" (defArgs s_law_order) (defBody s_law_order) (defScope s_law_order) .none kV28 dc28 pm28 an28 cd28 ct28), sl28⟩) (c28 : PySem.W.codeIn K cd28 "_law_order" = true) (k28 : PySem.W.keepIn K (.ref f28) = true)
    (a29 : PySem.W.nsIn K mainGlobals "_law_sorted" = some (some (.ref f29)))
    (l29 : K.lookup f29 = some ⟨oc29, od29, .func (PySem.W.fnOf "_law_sorted" "_law_sorted" (defArgs s_law_sorted) (defBody s_law_sorted) (defScope s_law_sorted) .none kV29 dc29 pm29 an29 cd29 ct29), sl29⟩) (c29 : PySem.W.codeIn K cd29 "_law_sorted" = true) (k29 : PySem.W.keepIn K (.ref f29) = true)
    (a30 : PySem.W.nsIn K mainGlobals "_law_values_of" = some (some (.ref f30)))
    (l30 : K.lookup f30 = some ⟨oc30, od30, .func (PySem.W.fnOf "_law_values_of" "_law_values_of" (defArgs s_law_values_of) (defBody s_law_values_of) (defScope s_law_values_of) .none kV30 dc30 pm30 an30 cd30 ct30), sl30⟩) (c30 : PySem.W.codeIn K cd30 "_law_values_of" = true) (k30 : PySem.W.keepIn K (.ref f30) = true)
    (a31 : PySem.W.nsIn K mainGlobals "_law_small" = some (some (.ref f31)))
    (l31 : K.lookup f31 = some ⟨oc31, od31, .func (PySem.W.fnOf "_law_small" "_law_small" (defArgs s_law_small) (defBody s_law_small) (defScope s_law_small) .none kV31 dc31 pm31 an31 cd31 ct31), sl31⟩) (c31 : PySem.W.codeIn K cd31 "_law_small" = true) (k31 : PySem.W.keepIn K (.ref f31) = true)
    (a32 : PySem.W.nsIn K mainGlobals "_law_shelf" = some (some (.ref f32)))
    (l32 : K.lookup f32 = some ⟨oc32, od32, .func (PySem.W.fnOf "_law_shelf" "_law_shelf" (defArgs s_law_shelf) (defBody s_law_shelf) (defScope s_law_shelf) .none kV32 dc32 pm32 an32 cd32 ct32), sl32⟩) (c32 : PySem.W.codeIn K cd32 "_law_shelf" = true) (k32 : PySem.W.keepIn K (.ref f32) = true)
    (a33 : PySem.W.nsIn K mainGlobals "_law_shelf_items" = some (some (.ref f33)))
    (l33 : K.lookup f33 = some ⟨oc33, od33, .func (PySem.W.fnOf "_law_shelf_items" "_law_shelf_items" (defArgs s_law_shelf_items) (defBody s_law_shelf_items) (defScope s_law_shelf_items) .none kV33 dc33 pm33 an33 cd33 ct33), sl33⟩) (c33 : PySem.W.codeIn K cd33 "_law_shelf_items" = true) (k33 : PySem.W.keepIn K (.ref f33) = true)
    (a34 : PySem.W.nsIn K mainGlobals "character" = some (some (.ref f34)))
    (l34 : K.lookup f34 = some ⟨oc34, od34, .func (PySem.W.fnOf "character" "character" (defArgs scharacter) (defBody scharacter) (defScope scharacter) .none kV34 dc34 pm34 an34 cd34 ct34), sl34⟩) (c34 : PySem.W.codeIn K cd34 "character" = true) (k34 : PySem.W.keepIn K (.ref f34) = true)
    (a35 : PySem.W.nsIn K mainGlobals "_law_read_rows" = some (some (.ref f35)))
    (l35 : K.lookup f35 = some ⟨oc35, od35, .func (PySem.W.fnOf "_law_read_rows" "_law_read_rows" (defArgs s_law_read_rows) (defBody s_law_read_rows) (defScope s_law_read_rows) .none kV35 dc35 pm35 an35 cd35 ct35), sl35⟩) (c35 : PySem.W.codeIn K cd35 "_law_read_rows" = true) (k35 : PySem.W.keepIn K (.ref f35) = true)
    (a36 : PySem.W.nsIn K mainGlobals "law" = some (some (.ref f36)))
    (l36 : K.lookup f36 = some ⟨oc36, od36, .func (PySem.W.fnOf "law" "law" (defArgs slaw) (defBody slaw) (defScope slaw) .none kV36 dc36 pm36 an36 cd36 ct36), sl36⟩) (c36 : PySem.W.codeIn K cd36 "law" = true) (k36 : PySem.W.keepIn K (.ref f36) = true)
    {tS : Tok} (aS : PySem.W.nsIn K mainGlobals "SECTOR_BYTES" = some (some (.int 64 tS)))
    {t1 t2 t3 t4 uS : Tok} (y1 : PySem.W.nsIn K mainGlobals "MOST_NUMBER_BYTES" = some (some (.int 60 t1))) (y2 : PySem.W.nsIn K mainGlobals "FIRST_CODE" = some (some (.int 32 t2))) (y3 : PySem.W.nsIn K mainGlobals "LAST_CODE" = some (some (.int 126 t3))) (y4 : PySem.W.nsIn K mainGlobals "LEFT_OUT_CODE" = some (some (.int 37 t4))) (y5 : PySem.W.nsIn K mainGlobals "CHARACTERS" = some (some (.str CHRS uS)))
    {CR : Addr} (rC : PySem.W.nsIn K mainGlobals "Reader" = some (some (.ref CR)))
    (rpg : PySem.W.plainGet K CR Str.empty = true) (rhd : PySem.W.hasDictIn K CR = true) (rpo : PySem.W.plainOver K CR = true) (rsa : PySem.W.findIn K (.ref CR) "__setattr__" = some (some (.builtin "object.__setattr__"))) (rmk : PySem.W.makesIn K CR = true) (rkc : PySem.W.keepIn K (.ref CR) = true)
    (rn1 : PySem.W.findIn K (.ref CR) "data" = some none) (rn2 : PySem.W.findIn K (.ref CR) "at" = some none)
    {fRI : Addr} {odRI anRI : Option Addr} {slRI : Array (Option Value)} {ocRI kVRI dcRI pmRI cdRI ctRI : Value}
    (aRI : PySem.W.findIn K (.ref CR) "__init__" = some (some (.ref fRI))) (iRI : PySem.W.isFn K (.ref fRI) = true)
    (lRI : K.lookup fRI = some ⟨ocRI, odRI, .func (PySem.W.fnOf "__init__" "Reader.__init__" (defArgs sReader_init) (defBody sReader_init) (defScope sReader_init) .none kVRI dcRI pmRI anRI cdRI ctRI), slRI⟩) (cRI : PySem.W.codeIn K cdRI "Reader.__init__" = true) (kRI : PySem.W.keepIn K (.ref fRI) = true)
    {fRL : Addr} {odRL anRL : Option Addr} {slRL : Array (Option Value)} {ocRL kVRL dcRL pmRL cdRL ctRL : Value}
    (aRL : PySem.W.findIn K (.ref CR) "left" = some (some (.ref fRL))) (iRL : PySem.W.isFn K (.ref fRL) = true)
    (lRL : K.lookup fRL = some ⟨ocRL, odRL, .func (PySem.W.fnOf "left" "Reader.left" (defArgs sReader_left) (defBody sReader_left) (defScope sReader_left) .none kVRL dcRL pmRL anRL cdRL ctRL), slRL⟩) (cRL : PySem.W.codeIn K cdRL "Reader.left" = true) (kRL : PySem.W.keepIn K (.ref fRL) = true)
    {fRB : Addr} {odRB anRB : Option Addr} {slRB : Array (Option Value)} {ocRB kVRB dcRB pmRB cdRB ctRB : Value}
    (aRB : PySem.W.findIn K (.ref CR) "read_byte" = some (some (.ref fRB))) (iRB : PySem.W.isFn K (.ref fRB) = true)
    (lRB : K.lookup fRB = some ⟨ocRB, odRB, .func (PySem.W.fnOf "read_byte" "Reader.read_byte" (defArgs sReader_read_byte) (defBody sReader_read_byte) (defScope sReader_read_byte) .none kVRB dcRB pmRB anRB cdRB ctRB), slRB⟩) (cRB : PySem.W.codeIn K cdRB "Reader.read_byte" = true) (kRB : PySem.W.keepIn K (.ref fRB) = true)
    {fRC : Addr} {odRC anRC : Option Addr} {slRC : Array (Option Value)} {ocRC kVRC dcRC pmRC cdRC ctRC : Value}
    (aRC : PySem.W.findIn K (.ref CR) "read_choice" = some (some (.ref fRC))) (iRC : PySem.W.isFn K (.ref fRC) = true)
    (lRC : K.lookup fRC = some ⟨ocRC, odRC, .func (PySem.W.fnOf "read_choice" "Reader.read_choice" (defArgs sReader_read_choice) (defBody sReader_read_choice) (defScope sReader_read_choice) .none kVRC dcRC pmRC anRC cdRC ctRC), slRC⟩) (cRC : PySem.W.codeIn K cdRC "Reader.read_choice" = true) (kRC : PySem.W.keepIn K (.ref fRC) = true)
    {fRN : Addr} {odRN anRN : Option Addr} {slRN : Array (Option Value)} {ocRN kVRN dcRN pmRN cdRN ctRN : Value}
    (aRN : PySem.W.findIn K (.ref CR) "read_number" = some (some (.ref fRN))) (iRN : PySem.W.isFn K (.ref fRN) = true)
    (lRN : K.lookup fRN = some ⟨ocRN, odRN, .func (PySem.W.fnOf "read_number" "Reader.read_number" (defArgs sReader_read_number) (defBody sReader_read_number) (defScope sReader_read_number) .none kVRN dcRN pmRN anRN cdRN ctRN), slRN⟩) (cRN : PySem.W.codeIn K cdRN "Reader.read_number" = true) (kRN : PySem.W.keepIn K (.ref fRN) = true)
    {fRG : Addr} {odRG anRG : Option Addr} {slRG : Array (Option Value)} {ocRG kVRG dcRG pmRG cdRG ctRG : Value}
    (aRG : PySem.W.findIn K (.ref CR) "read_length" = some (some (.ref fRG))) (iRG : PySem.W.isFn K (.ref fRG) = true)
    (lRG : K.lookup fRG = some ⟨ocRG, odRG, .func (PySem.W.fnOf "read_length" "Reader.read_length" (defArgs sReader_read_length) (defBody sReader_read_length) (defScope sReader_read_length) .none kVRG dcRG pmRG anRG cdRG ctRG), slRG⟩) (cRG : PySem.W.codeIn K cdRG "Reader.read_length" = true) (kRG : PySem.W.keepIn K (.ref fRG) = true)
    {fRT : Addr} {odRT anRT : Option Addr} {slRT : Array (Option Value)} {ocRT kVRT dcRT pmRT cdRT ctRT : Value}
    (aRT : PySem.W.findIn K (.ref CR) "read_integer" = some (some (.ref fRT))) (iRT : PySem.W.isFn K (.ref fRT) = true)
    (lRT : K.lookup fRT = some ⟨ocRT, odRT, .func (PySem.W.fnOf "read_integer" "Reader.read_integer" (defArgs sReader_read_integer) (defBody sReader_read_integer) (defScope sReader_read_integer) .none kVRT dcRT pmRT anRT cdRT ctRT), slRT⟩) (cRT : PySem.W.codeIn K cdRT "Reader.read_integer" = true) (kRT : PySem.W.keepIn K (.ref fRT) = true)
    {fRS : Addr} {odRS anRS : Option Addr} {slRS : Array (Option Value)} {ocRS kVRS dcRS pmRS cdRS ctRS : Value}
    (aRS : PySem.W.findIn K (.ref CR) "read_string" = some (some (.ref fRS))) (iRS : PySem.W.isFn K (.ref fRS) = true)
    (lRS : K.lookup fRS = some ⟨ocRS, odRS, .func (PySem.W.fnOf "read_string" "Reader.read_string" (defArgs sReader_read_string) (defBody sReader_read_string) (defScope sReader_read_string) .none kVRS dcRS pmRS anRS cdRS ctRS), slRS⟩) (cRS : PySem.W.codeIn K cdRS "Reader.read_string" = true) (kRS : PySem.W.keepIn K (.ref fRS) = true)
    {fRV : Addr} {odRV anRV : Option Addr} {slRV : Array (Option Value)} {ocRV kVRV dcRV pmRV cdRV ctRV : Value}
    (aRV : PySem.W.findIn K (.ref CR) "read_value" = some (some (.ref fRV))) (iRV : PySem.W.isFn K (.ref fRV) = true)
    (lRV : K.lookup fRV = some ⟨ocRV, odRV, .func (PySem.W.fnOf "read_value" "Reader.read_value" (defArgs sReader_read_value) (defBody sReader_read_value) (defScope sReader_read_value) .none kVRV dcRV pmRV anRV cdRV ctRV), slRV⟩) (cRV : PySem.W.codeIn K cdRV "Reader.read_value" = true) (kRV : PySem.W.keepIn K (.ref fRV) = true)
    {fRW : Addr} {odRW anRW : Option Addr} {slRW : Array (Option Value)} {ocRW kVRW dcRW pmRW cdRW ctRW : Value}
    (aRW : PySem.W.findIn K (.ref CR) "read_row" = some (some (.ref fRW))) (iRW : PySem.W.isFn K (.ref fRW) = true)
    (lRW : K.lookup fRW = some ⟨ocRW, odRW, .func (PySem.W.fnOf "read_row" "Reader.read_row" (defArgs sReader_read_row) (defBody sReader_read_row) (defScope sReader_read_row) .none kVRW dcRW pmRW anRW cdRW ctRW), slRW⟩) (cRW : PySem.W.codeIn K cdRW "Reader.read_row" = true) (kRW : PySem.W.keepIn K (.ref fRW) = true)
    {C fI TT A0 : Addr} {odI anI odT : Option Addr} {slI slT slA : Array (Option Value)} {ocI kVI dcI pmI cdI ctI ocT : Value} {nT nA : Nat}
    (aC : PySem.W.nsIn K mainGlobals "State" = some (some (.ref C)))
    (aI : PySem.W.findIn K (.ref C) "__init__" = some (some (.ref fI))) (iI : PySem.W.isFn K (.ref fI) = true)
    (lI : K.lookup fI = some ⟨ocI, odI, .func (PySem.W.fnOf "__init__" "State.__init__" (defArgs sInit) (defBody sInit) (defScope sInit) (.ref TT) kVI dcI pmI anI cdI ctI), slI⟩) (cI : PySem.W.codeIn K cdI "State.__init__" = true) (kI : PySem.W.keepIn K (.ref fI) = true)
    (lT : K.lookup TT = some ⟨ocT, odT, .seq #[.ref A0] nT, slT⟩) (lA : K.lookup A0 = some ⟨.type "tuple", none, .seq #[] nA, slA⟩)
    (pg : PySem.W.plainGet K C Str.empty = true) (hd : PySem.W.hasDictIn K C = true) (po : PySem.W.plainOver K C = true) (sa : PySem.W.findIn K (.ref C) "__setattr__" = some (some (.builtin "object.__setattr__"))) (mk : PySem.W.makesIn K C = true) (kc : PySem.W.keepIn K (.ref C) = true)
    (nR : PySem.W.findIn K (.ref C) "relations" = some none) (nF : PySem.W.findIn K (.ref C) "facts" = some none) (nS : PySem.W.findIn K (.ref C) "structures" = some none) (nL : PySem.W.findIn K (.ref C) "layouts" = some none)
    (z1 : PySem.W.nsIn K mainGlobals "range" = some none) (z2 : PySem.W.nsIn K mainGlobals "len" = some none) (z3 : PySem.W.nsIn K mainGlobals "int" = some none) (z4 : PySem.W.nsIn K mainGlobals "str" = some none) (z5 : PySem.W.nsIn K mainGlobals "bool" = some none) (z6 : PySem.W.nsIn K mainGlobals "list" = some none) (z7 : PySem.W.nsIn K mainGlobals "tuple" = some none) (z8 : PySem.W.nsIn K mainGlobals "dict" = some none) (z9 : PySem.W.nsIn K mainGlobals "isinstance" = some none) (z10 : PySem.W.nsIn K mainGlobals "min" = some none) (z11 : PySem.W.nsIn K mainGlobals "sum" = some none) (z12 : PySem.W.nsIn K mainGlobals "sorted" = some none) (z13 : PySem.W.nsIn K mainGlobals "abs" = some none) (z14 : PySem.W.nsIn K mainGlobals "ord" = some none) :
    ∃ fd : FuncData, (∀ (s : Shared) (v : Value), BindsTo s fd ⟨[v], []⟩ [("script", v)]) ∧ ∀ base : Heap, K.In base → base.Ns mainGlobals mg → FnOk l.prog w K mg base CX0 9 fa fd ["script"] (spLaw K) := by
  have e := hfa.symm.trans (PySem.W.mg_of X G a36)
  cases e
  have F1 := fun_mk (st := svalue_key) l1 c1 k1
  have b1 := F1.binds (ps := ["value"]) fun _ _ _ _ _ _ us hl => match us, hl with | [_], _ => rfl
  have g1 := PySem.W.mg_of X G a1
  have F2 := fun_mk (st := srow_key) l2 c2 k2
  have b2 := F2.binds (ps := ["row"]) fun _ _ _ _ _ _ us hl => match us, hl with | [_], _ => rfl
  have g2 := PySem.W.mg_of X G a2
  have F3 := fun_mk (st := splace_of) l3 c3 k3
  have b3 := F3.binds (ps := ["rows", "row"]) fun _ _ _ _ _ _ us hl => match us, hl with | [_, _], _ => rfl
  have g3 := PySem.W.mg_of X G a3
  have F4 := fun_mk (st := sput_fact) l4 c4 k4
  have b4 := F4.binds (ps := ["state", "name", "row"]) fun _ _ _ _ _ _ us hl => match us, hl with | [_, _, _], _ => rfl
  have g4 := PySem.W.mg_of X G a4
  have F5 := fun_mk (st := sput_item) l5 c5 k5
  have b5 := F5.binds (ps := ["state", "item"]) fun _ _ _ _ _ _ us hl => match us, hl with | [_, _], _ => rfl
  have g5 := PySem.W.mg_of X G a5
  have F6 := fun_mk (st := swrite_number) l6 c6 k6
  have b6 := F6.binds (ps := ["number"]) fun _ _ _ _ _ _ us hl => match us, hl with | [_], _ => rfl
  have g6 := PySem.W.mg_of X G a6
  have F7 := fun_mk (st := swrite_integer) l7 c7 k7
  have b7 := F7.binds (ps := ["number"]) fun _ _ _ _ _ _ us hl => match us, hl with | [_], _ => rfl
  have g7 := PySem.W.mg_of X G a7
  have F8 := fun_mk (st := swrite_string) l8 c8 k8
  have b8 := F8.binds (ps := ["text"]) fun _ _ _ _ _ _ us hl => match us, hl with | [_], _ => rfl
  have g8 := PySem.W.mg_of X G a8
  have F9 := fun_mk (st := swrite_value) l9 c9 k9
  have b9 := F9.binds (ps := ["value"]) fun _ _ _ _ _ _ us hl => match us, hl with | [_], _ => rfl
  have g9 := PySem.W.mg_of X G a9
  have F10 := fun_mk (st := swrite_row) l10 c10 k10
  have b10 := F10.binds (ps := ["row"]) fun _ _ _ _ _ _ us hl => match us, hl with | [_], _ => rfl
  have g10 := PySem.W.mg_of X G a10
  have F11 := fun_mk (st := spack) l11 c11 k11
  have b11 := F11.binds (ps := ["rows"]) fun _ _ _ _ _ _ us hl => match us, hl with | [_], _ => rfl
  have g11 := PySem.W.mg_of X G a11
  have F12 := fun_mk (st := sfilled) l12 c12 k12
  have b12 := F12.binds (ps := ["rows", "room"]) fun _ _ _ _ _ _ us hl => match us, hl with | [_, _], _ => rfl
  have g12 := PySem.W.mg_of X G a12
  have F13 := fun_mk (st := sbucket_of_values) l13 c13 k13
  have b13 := F13.binds (ps := ["values", "buckets"]) fun _ _ _ _ _ _ us hl => match us, hl with | [_, _], _ => rfl
  have g13 := PySem.W.mg_of X G a13
  have F14 := fun_mk (st := scolumn_places) l14 c14 k14
  have b14 := F14.binds (ps := ["state", "structure"]) fun _ _ _ _ _ _ us hl => match us, hl with | [_, _], _ => rfl
  have g14 := PySem.W.mg_of X G a14
  have F15 := fun_mk (st := sbucket) l15 c15 k15
  have b15 := F15.binds (ps := ["state", "structure", "row"]) fun _ _ _ _ _ _ us hl => match us, hl with | [_, _, _], _ => rfl
  have g15 := PySem.W.mg_of X G a15
  have F16 := fun_mk (st := srows_by_bucket) l16 c16 k16
  have b16 := F16.binds (ps := ["state", "structure"]) fun _ _ _ _ _ _ us hl => match us, hl with | [_, _], _ => rfl
  have g16 := PySem.W.mg_of X G a16
  have F17 := fun_mk (st := srelation_shape) l17 c17 k17
  have b17 := F17.binds (ps := ["state", "name"]) fun _ _ _ _ _ _ us hl => match us, hl with | [_, _], _ => rfl
  have g17 := PySem.W.mg_of X G a17
  have F18 := fun_mk (st := sstructure_shape) l18 c18 k18
  have b18 := F18.binds (ps := ["state", "name"]) fun _ _ _ _ _ _ us hl => match us, hl with | [_, _], _ => rfl
  have g18 := PySem.W.mg_of X G a18
  have F19 := fun_mk (st := s_law_mix) l19 c19 k19
  have b19 := F19.binds (ps := ["cell", "k"]) fun _ _ _ _ _ _ us hl => match us, hl with | [_, _], _ => rfl
  have g19 := PySem.W.mg_of X G a19
  have F20 := fun_mk (st := s_law_draws) l20 c20 k20
  have b20 := F20.binds (ps := ["script"]) fun _ _ _ _ _ _ us hl => match us, hl with | [_], _ => rfl
  have g20 := PySem.W.mg_of X G a20
  have F21 := fun_mk (st := s_law_at) l21 c21 k21
  have b21 := F21.binds (ps := ["draws", "index"]) fun _ _ _ _ _ _ us hl => match us, hl with | [_, _], _ => rfl
  have g21 := PySem.W.mg_of X G a21
  have F22 := fun_mk (st := s_law_is_integer) l22 c22 k22
  have b22 := F22.binds (ps := ["actual"]) fun _ _ _ _ _ _ us hl => match us, hl with | [_], _ => rfl
  have g22 := PySem.W.mg_of X G a22
  have F23 := fun_mk (st := s_law_same) l23 c23 k23
  have b23 := F23.binds (ps := ["actual", "expected"]) fun _ _ _ _ _ _ us hl => match us, hl with | [_, _], _ => rfl
  have g23 := PySem.W.mg_of X G a23
  have F24 := fun_mk (st := s_law_next) l24 c24 k24
  have b24 := F24.binds (ps := ["state", "limit"]) fun _ _ _ _ _ _ us hl => match us, hl with | [_, _], _ => rfl
  have g24 := PySem.W.mg_of X G a24
  have F25 := fun_mk (st := s_law_text) l25 c25 k25
  have b25 := F25.binds (ps := ["state", "most"]) fun _ _ _ _ _ _ us hl => match us, hl with | [_, _], _ => rfl
  have g25 := PySem.W.mg_of X G a25
  have F26 := fun_mk (st := s_law_value) l26 c26 k26
  have b26 := F26.binds (ps := ["state"]) fun _ _ _ _ _ _ us hl => match us, hl with | [_], _ => rfl
  have g26 := PySem.W.mg_of X G a26
  have F27 := fun_mk (st := s_law_first) l27 c27 k27
  have b27 := F27.binds (ps := ["one", "other"]) fun _ _ _ _ _ _ us hl => match us, hl with | [_, _], _ => rfl
  have g27 := PySem.W.mg_of X G a27
  have F28 := fun_mk (st := s_law_order) l28 c28 k28
  have b28 := F28.binds (ps := ["first", "second"]) fun _ _ _ _ _ _ us hl => match us, hl with | [_, _], _ => rfl
  have g28 := PySem.W.mg_of X G a28
  have F29 := fun_mk (st := s_law_sorted) l29 c29 k29
  have b29 := F29.binds (ps := ["rows"]) fun _ _ _ _ _ _ us hl => match us, hl with | [_], _ => rfl
  have g29 := PySem.W.mg_of X G a29
  have F30 := fun_mk (st := s_law_values_of) l30 c30 k30
  have b30 := F30.binds (ps := ["shelf", "name", "row"]) fun _ _ _ _ _ _ us hl => match us, hl with | [_, _, _], _ => rfl
  have g30 := PySem.W.mg_of X G a30
  have F31 := fun_mk (st := s_law_small) l31 c31 k31
  have b31 := F31.binds (ps := ["state"]) fun _ _ _ _ _ _ us hl => match us, hl with | [_], _ => rfl
  have g31 := PySem.W.mg_of X G a31
  have F32 := fun_mk (st := s_law_shelf) l32 c32 k32
  have b32 := F32.binds (ps := ["state", "most"]) fun _ _ _ _ _ _ us hl => match us, hl with | [_, _], _ => rfl
  have g32 := PySem.W.mg_of X G a32
  have F33 := fun_mk (st := s_law_shelf_items) l33 c33 k33
  have b33 := F33.binds (ps := ["shelf"]) fun _ _ _ _ _ _ us hl => match us, hl with | [_], _ => rfl
  have g33 := PySem.W.mg_of X G a33
  have F34 := fun_mk (st := scharacter) l34 c34 k34
  have b34 := F34.binds (ps := ["code"]) fun _ _ _ _ _ _ us hl => match us, hl with | [_], _ => rfl
  have g34 := PySem.W.mg_of X G a34
  have F35 := fun_mk (st := s_law_read_rows) l35 c35 k35
  have b35 := F35.binds (ps := ["sectors"]) fun _ _ _ _ _ _ us hl => match us, hl with | [_], _ => rfl
  have g35 := PySem.W.mg_of X G a35
  have F36 := fun_mk (st := slaw) l36 c36 k36
  have T : Bl mg := ⟨PySem.W.mg_none_of X G z1, PySem.W.mg_none_of X G z2, PySem.W.mg_none_of X G z3, PySem.W.mg_none_of X G z4, PySem.W.mg_none_of X G z5, PySem.W.mg_none_of X G z6, PySem.W.mg_none_of X G z7, PySem.W.mg_none_of X G z8, PySem.W.mg_none_of X G z9, PySem.W.mg_none_of X G z10, PySem.W.mg_none_of X G z11, PySem.W.mg_none_of X G z12, PySem.W.mg_none_of X G z13, PySem.W.mg_none_of X G z14⟩
  have B : Sb mg := ⟨⟨tS, PySem.W.mg_of X G aS⟩⟩
  have G0 : Gr mg := ⟨⟨t1, PySem.W.mg_of X G y1⟩, ⟨t2, PySem.W.mg_of X G y2⟩, ⟨t3, PySem.W.mg_of X G y3⟩, ⟨t4, PySem.W.mg_of X G y4⟩, ⟨uS, PySem.W.mg_of X G y5⟩⟩
  have XR : TxtR K mg CR := ⟨⟨rpg, rhd, rpo, rsa⟩, rn1, rn2, PySem.W.mg_of X G rC⟩
  have FRI := fun_mk (st := sReader_init) lRI cRI kRI
  have bRI := FRI.binds (ps := ["self", "data"]) fun _ _ _ _ _ _ us hl => match us, hl with | [_, _], _ => rfl
  have mRI : Mk K CR fRI := ⟨rmk, aRI, iRI, rkc⟩
  have FRL := fun_mk (st := sReader_left) lRL cRL kRL
  have bRL := FRL.binds (ps := ["self"]) fun _ _ _ _ _ _ us hl => match us, hl with | [_], _ => rfl
  have mRL : Meth K CR "left" fRL := ⟨aRL, iRL, kRL⟩
  have FRB := fun_mk (st := sReader_read_byte) lRB cRB kRB
  have bRB := FRB.binds (ps := ["self"]) fun _ _ _ _ _ _ us hl => match us, hl with | [_], _ => rfl
  have mRB : Meth K CR "read_byte" fRB := ⟨aRB, iRB, kRB⟩
  have FRC := fun_mk (st := sReader_read_choice) lRC cRC kRC
  have bRC := FRC.binds (ps := ["self", "many"]) fun _ _ _ _ _ _ us hl => match us, hl with | [_, _], _ => rfl
  have mRC : Meth K CR "read_choice" fRC := ⟨aRC, iRC, kRC⟩
  have FRN := fun_mk (st := sReader_read_number) lRN cRN kRN
  have bRN := FRN.binds (ps := ["self"]) fun _ _ _ _ _ _ us hl => match us, hl with | [_], _ => rfl
  have mRN : Meth K CR "read_number" fRN := ⟨aRN, iRN, kRN⟩
  have FRG := fun_mk (st := sReader_read_length) lRG cRG kRG
  have bRG := FRG.binds (ps := ["self"]) fun _ _ _ _ _ _ us hl => match us, hl with | [_], _ => rfl
  have mRG : Meth K CR "read_length" fRG := ⟨aRG, iRG, kRG⟩
  have FRT := fun_mk (st := sReader_read_integer) lRT cRT kRT
  have bRT := FRT.binds (ps := ["self"]) fun _ _ _ _ _ _ us hl => match us, hl with | [_], _ => rfl
  have mRT : Meth K CR "read_integer" fRT := ⟨aRT, iRT, kRT⟩
  have FRS := fun_mk (st := sReader_read_string) lRS cRS kRS
  have bRS := FRS.binds (ps := ["self"]) fun _ _ _ _ _ _ us hl => match us, hl with | [_], _ => rfl
  have mRS : Meth K CR "read_string" fRS := ⟨aRS, iRS, kRS⟩
  have FRV := fun_mk (st := sReader_read_value) lRV cRV kRV
  have bRV := FRV.binds (ps := ["self"]) fun _ _ _ _ _ _ us hl => match us, hl with | [_], _ => rfl
  have mRV : Meth K CR "read_value" fRV := ⟨aRV, iRV, kRV⟩
  have FRW := fun_mk (st := sReader_read_row) lRW cRW kRW
  have bRW := FRW.binds (ps := ["self"]) fun _ _ _ _ _ _ us hl => match us, hl with | [_], _ => rfl
  have mRW : Meth K CR "read_row" fRW := ⟨aRW, iRW, kRW⟩
  have X : Txt K mg C := ⟨⟨pg, hd, po, sa⟩, nR, nF, nS, nL, PySem.W.mg_of X G aC⟩
  have FI : FunD K "__init__" "State.__init__" (defArgs sInit) (defBody sInit) (defScope sInit) [V.ref A0] [] fI (PySem.W.fnOf "__init__" "State.__init__" (defArgs sInit) (defBody sInit) (defScope sInit) (.ref TT) kVI dcI pmI anI cdI ctI) :=
    ⟨⟨ocI, odI, .ref TT, kVI, dcI, pmI, anI, cdI, ctI, slI, rfl, lI, cI, .inr ⟨by simp, TT, _, [.ref A0], nT, rfl, lT, rfl, .cons rfl .nil⟩, .inl rfl⟩, kI⟩
  obtain ⟨d1, v1, bI⟩ := FI.binds1 (ps := ["self", "items"]) 2 1 (by simp) rfl fun T kV doc pm an cdv ct us its hu hi => match us, its, hu, hi with | [_, _], [_], _, _ => ⟨_, rfl, rfl⟩
  obtain ⟨d0, v0, bI0⟩ := FI.binds1 (ps := ["self", "items"]) 1 0 (by simp) rfl fun T kV doc pm an cdv ct us its hu hi => match us, its, hu, hi with | [_], [_], _, _ => ⟨_, rfl, rfl⟩
  have e1 : d1 = [] := by cases v1; rfl
  subst e1
  have hA0 : ∀ H : Hp, SqT K H A0 [] := fun H => .inr ⟨_, #[], nA, lA, rfl, rfl, Nat.zero_le _, .nil⟩
  refine ⟨PySem.W.fnOf "law" "law" (defArgs slaw) (defBody slaw) (defScope slaw) .none kV36 dc36 pm36 an36 cd36 ct36, fun s v => .of_eq rfl, fun base _ _ => ?_⟩
  have Dvalue_key : Kn l.prog w K mg base 1 "value_key" ["value"] (spVKey K) := kn_of F1 g1 b1 (ok_vkey F1 T)
  have Drow_key : Kn l.prog w K mg base 2 "row_key" ["row"] (spRKey K) := kn_of F2 g2 b2 (ok_rkey F2 T Dvalue_key)
  have Dplace_of : Kn l.prog w K mg base 3 "place_of" ["rows", "row"] (spPlace K) := kn_of F3 g3 b3 (ok_place F3 T Drow_key)
  have Dput_fact : Kn l.prog w K mg base 4 "put_fact" ["state", "name", "row"] (spPutFact K C) := kn_of F4 g4 b4 (ok_putfact F4 T X Dplace_of)
  have Dput_item : Kn l.prog w K mg base 5 "put_item" ["state", "item"] (spPutItem K C) := kn_of F5 g5 b5 (ok_putitem F5 T X Dput_fact)
  have St : Sta l.prog w K mg base C := ⟨fI, _, A0, d0, ⟨mk, aI, iI, kc⟩, ok_init FI X Dput_item, ok_init0 FI X Dput_item, bI, bI0, v0, hA0⟩
  have Dwrite_number : Kn l.prog w K mg base 1 "write_number" ["number"] (spNumber) := kn_of F6 g6 b6 (ok_number F6 T)
  have Dwrite_integer : Kn l.prog w K mg base 2 "write_integer" ["number"] (spInteger) := kn_of F7 g7 b7 (ok_integer F7 T Dwrite_number)
  have Dwrite_string : Kn l.prog w K mg base 2 "write_string" ["text"] (spString) := kn_of F8 g8 b8 (ok_string F8 T Dwrite_number)
  have Dwrite_value : Kn l.prog w K mg base 3 "write_value" ["value"] (spVB) := kn_of F9 g9 b9 (ok_wvalue F9 T Dwrite_string Dwrite_integer)
  have Dwrite_row : Kn l.prog w K mg base 4 "write_row" ["row"] (spRB K) := kn_of F10 g10 b10 (ok_wrow F10 T Dwrite_number Dwrite_value)
  have Dpack : Kn l.prog w K mg base 5 "pack" ["rows"] (spPack K) := kn_of F11 g11 b11 (ok_pack F11 T B Dwrite_row)
  have Dfilled : Kn l.prog w K mg base 6 "filled" ["rows", "room"] (spFilled K) := kn_of F12 g12 b12 (ok_filled F12 T B Dpack)
  have Dbucket_of_values : Kn l.prog w K mg base 5 "bucket_of_values" ["values", "buckets"] (spBuck K) := kn_of F13 g13 b13 (ok_buck F13 T Dwrite_row)
  have Dcolumn_places : Kn l.prog w K mg base 1 "column_places" ["state", "structure"] (spColPl K C) := kn_of F14 g14 b14 (ok_colpl F14 X)
  have Dbucket : Kn l.prog w K mg base 6 "bucket" ["state", "structure", "row"] (spBucket K C) := kn_of F15 g15 b15 (ok_bucket F15 T X Dcolumn_places Dbucket_of_values)
  have Drows_by_bucket : Kn l.prog w K mg base 7 "rows_by_bucket" ["state", "structure"] (spRBB K C) := kn_of F16 g16 b16 (ok_rbb F16 T X Dbucket)
  have Drelation_shape : Kn l.prog w K mg base 7 "relation_shape" ["state", "name"] (spRelSh K C) := kn_of F17 g17 b17 (ok_relsh F17 X Dfilled)
  have Dstructure_shape : Kn l.prog w K mg base 8 "structure_shape" ["state", "name"] (spStrSh K C) := kn_of F18 g18 b18 (ok_strsh F18 X Drows_by_bucket Dfilled)
  have D_law_mix : Kn l.prog w K mg base 1 "_law_mix" ["cell", "k"] (spMix) := kn_of F19 g19 b19 (ok_mix F19 T)
  have D_law_draws : Kn l.prog w K mg base 2 "_law_draws" ["script"] (spDraws K) := kn_of F20 g20 b20 (ok_draws F20 T D_law_mix)
  have D_law_at : Kn l.prog w K mg base 2 "_law_at" ["draws", "index"] (spAt K) := kn_of F21 g21 b21 (ok_at F21 T D_law_mix)
  have D_law_is_integer : Kn l.prog w K mg base 1 "_law_is_integer" ["actual"] (spIsInt) := kn_of F22 g22 b22 (ok_isint F22 T)
  have D_law_same0 : Kn l.prog w K mg base 1 "_law_same" ["actual", "expected"] (spSm K 0) := kn_of F23 g23 b23 (ok_smZ F23)
  have D_law_same1 : Kn l.prog w K mg base 2 "_law_same" ["actual", "expected"] (spSm K 1) := kn_of F23 g23 b23 (ok_sm F23 T D_law_is_integer D_law_same0)
  have D_law_same2 : Kn l.prog w K mg base 3 "_law_same" ["actual", "expected"] (spSm K 2) := kn_of F23 g23 b23 (ok_sm F23 T D_law_is_integer D_law_same1)
  have D_law_same3 : Kn l.prog w K mg base 4 "_law_same" ["actual", "expected"] (spSm K 3) := kn_of F23 g23 b23 (ok_sm F23 T D_law_is_integer D_law_same2)
  have D_law_same : Kn l.prog w K mg base 5 "_law_same" ["actual", "expected"] (spSm K 4) := kn_of F23 g23 b23 (ok_sm F23 T D_law_is_integer D_law_same3)
  have D_law_next : Kn l.prog w K mg base 3 "_law_next" ["state", "limit"] (spNext) := kn_of F24 g24 b24 (ok_next F24 T D_law_at)
  have D_law_text : Kn l.prog w K mg base 4 "_law_text" ["state", "most"] (spText) := kn_of F25 g25 b25 (ok_text F25 T D_law_next)
  have D_law_value : Kn l.prog w K mg base 5 "_law_value" ["state"] (spValue) := kn_of F26 g26 b26 (ok_value F26 T D_law_next D_law_text)
  have D_law_first : Kn l.prog w K mg base 1 "_law_first" ["one", "other"] (spFirst) := kn_of F27 g27 b27 (ok_first F27 T)
  have D_law_order : Kn l.prog w K mg base 2 "_law_order" ["first", "second"] (spOrder K) := kn_of F28 g28 b28 (ok_order F28 T D_law_first)
  have D_law_sorted : Kn l.prog w K mg base 3 "_law_sorted" ["rows"] (spSorted K) := kn_of F29 g29 b29 (ok_sorted F29 T D_law_order)
  have D_law_values_of : Kn l.prog w K mg base 1 "_law_values_of" ["shelf", "name", "row"] (spValsOf K) := kn_of F30 g30 b30 (ok_valsof F30 T)
  have D_law_small : Kn l.prog w K mg base 6 "_law_small" ["state"] (spValue) := kn_of F31 g31 b31 (ok_small F31 T D_law_next D_law_value)
  have D_law_shelf : Kn l.prog w K mg base 7 "_law_shelf" ["state", "most"] (spShelf K) := kn_of F32 g32 b32 (ok_shelf F32 T D_law_next D_law_small D_law_sorted)
  have D_law_shelf_items : Kn l.prog w K mg base 1 "_law_shelf_items" ["shelf"] (spShItems K) := kn_of F33 g33 b33 (ok_items F33 T)
  have Dcharacter : Kn l.prog w K mg base 1 "character" ["code"] (spChar) := kn_of F34 g34 b34 (ok_character F34 G0)
  have RK : Kmk l.prog w K mg base CR 1 ["self", "data"] (spRInit K CR) := ⟨⟨_, _, mRI, ok_rinit FRI T XR, bRI⟩⟩
  have Rleft : Kmt l.prog w K mg base CR 1 "left" ["self"] (spLeft CR) := ⟨⟨_, _, mRL, ok_rleft FRL T XR, bRL⟩, XR.cl⟩
  have Rbyte : Kmt l.prog w K mg base CR 2 "read_byte" ["self"] (spByte CR) := ⟨⟨_, _, mRB, ok_rbyte FRB T XR Rleft, bRB⟩, XR.cl⟩
  have Rchoice : Kmt l.prog w K mg base CR 3 "read_choice" ["self", "many"] (spChoice CR) := ⟨⟨_, _, mRC, ok_rchoice FRC Rbyte, bRC⟩, XR.cl⟩
  have Rnumber : Kmt l.prog w K mg base CR 3 "read_number" ["self"] (spNum CR) := ⟨⟨_, _, mRN, ok_rnumber FRN T G0 Rbyte, bRN⟩, XR.cl⟩
  have Rlength : Kmt l.prog w K mg base CR 4 "read_length" ["self"] (spLen CR) := ⟨⟨_, _, mRG, ok_rlength FRG Rleft Rnumber, bRG⟩, XR.cl⟩
  have Rinteger : Kmt l.prog w K mg base CR 4 "read_integer" ["self"] (spInt CR) := ⟨⟨_, _, mRT, ok_rinteger FRT Rchoice Rnumber, bRT⟩, XR.cl⟩
  have Rstring : Kmt l.prog w K mg base CR 5 "read_string" ["self"] (spStr CR) := ⟨⟨_, _, mRS, ok_rstring FRS T Dcharacter Rbyte Rlength, bRS⟩, XR.cl⟩
  have Rvalue : Kmt l.prog w K mg base CR 6 "read_value" ["self"] (spVal CR) := ⟨⟨_, _, mRV, ok_rvalue FRV Rchoice Rstring Rinteger, bRV⟩, XR.cl⟩
  have RRow : Kmt l.prog w K mg base CR 7 "read_row" ["self"] (spRdRow CR) := ⟨⟨_, _, mRW, ok_rrow FRW T Rvalue Rlength, bRW⟩, XR.cl⟩
  have D_law_read_rows : Kn l.prog w K mg base 8 "_law_read_rows" ["sectors"] (spReadRows K) := kn_of F35 g35 b35 (ok_readrows F35 T XR XR.mgC RK RRow D_law_is_integer)
  exact ok_law F36 T X St D_law_draws D_law_shelf D_law_shelf_items Drelation_shape Dstructure_shape Dbucket_of_values D_law_values_of D_law_read_rows D_law_same
end K1
open PySem PySem.W PyProof.Rows
set_option maxHeartbeats 0 in
theorem PySem.Challenge.cw_turnshelves_k09_whole_rows_lie_in_their_holds : PySem.Challenge.rw_turnshelves_k09_whole_rows_lie_in_their.Holds := by
  w_on; o_law; k_head; (case hw => w_witness2)
  k_fill
  refine L2.walk_of (l := PySem.Challenge.rw_turnshelves_k09_whole_rows_lie_in_their) (n := 63) (k := 9) (x := "script") (CX := fun _ => L2.CX0) (sp := fun w => K1.spLaw _) rfl (by decide) rfl ⟨rfl, by decide, by decide⟩ (fun w h Y => PySem.W.kIn_of Y) ?F (fun _ _ a ns hl _ hS => ⟨a, ns, rfl, hS, hl, fun _ => rfl⟩) (fun _ _ _ _ _ h => h)
  case F =>
    intro w mg fa h KX G hmg
    refine' K1.all_mk KX G hmg ?a1 ?l1 ?c1 ?k1 ?a2 ?l2 ?c2 ?k2 ?a3 ?l3 ?c3 ?k3 ?a4 ?l4 ?c4 ?k4 ?a5 ?l5 ?c5 ?k5 ?a6 ?l6 ?c6 ?k6 ?a7 ?l7 ?c7 ?k7 ?a8 ?l8 ?c8 ?k8 ?a9 ?l9 ?c9 ?k9 ?a10 ?l10 ?c10 ?k10 ?a11 ?l11 ?c11 ?k11 ?a12 ?l12 ?c12 ?k12 ?a13 ?l13 ?c13 ?k13 ?a14 ?l14 ?c14 ?k14 ?a15 ?l15 ?c15 ?k15 ?a16 ?l16 ?c16 ?k16 ?a17 ?l17 ?c17 ?k17 ?a18 ?l18 ?c18 ?k18 ?a19 ?l19 ?c19 ?k19 ?a20 ?l20 ?c20 ?k20 ?a21 ?l21 ?c21 ?k21 ?a22 ?l22 ?c22 ?k22 ?a23 ?l23 ?c23 ?k23 ?a24 ?l24 ?c24 ?k24 ?a25 ?l25 ?c25 ?k25 ?a26 ?l26 ?c26 ?k26 ?a27 ?l27 ?c27 ?k27 ?a28 ?l28 ?c28 ?k28 ?a29 ?l29 ?c29 ?k29 ?a30 ?l30 ?c30 ?k30 ?a31 ?l31 ?c31 ?k31 ?a32 ?l32 ?c32 ?k32 ?a33 ?l33 ?c33 ?k33 ?a34 ?l34 ?c34 ?k34 ?a35 ?l35 ?c35 ?k35 ?a36 ?l36 ?c36 ?k36 ?aS ?y1 ?y2 ?y3 ?y4 ?y5 ?rC ?rpg ?rhd ?rpo ?rsa ?rmk ?rkc ?rn1 ?rn2 ?aRI ?iRI ?lRI ?cRI ?kRI ?aRL ?iRL ?lRL ?cRL ?kRL ?aRB ?iRB ?lRB ?cRB ?kRB ?aRC ?iRC ?lRC ?cRC ?kRC ?aRN ?iRN ?lRN ?cRN ?kRN ?aRG ?iRG ?lRG ?cRG ?kRG ?aRT ?iRT ?lRT ?cRT ?kRT ?aRS ?iRS ?lRS ?cRS ?kRS ?aRV ?iRV ?lRV ?cRV ?kRV ?aRW ?iRW ?lRW ?cRW ?kRW ?aC ?aI ?iI ?lI ?cI ?kI ?lT ?lA ?pg ?hd ?po ?sa ?mk ?kc ?nR ?nF ?nS ?nL ?z1 ?z2 ?z3 ?z4 ?z5 ?z6 ?z7 ?z8 ?z9 ?z10 ?z11 ?z12 ?z13 ?z14
    (case a1 => k_is); (case l1 => k_is); (case c1 => k_is); (case k1 => k_is); (case a2 => k_is); (case l2 => k_is); (case c2 => k_is); (case k2 => k_is); (case a3 => k_is); (case l3 => k_is); (case c3 => k_is); (case k3 => k_is); (case a4 => k_is); (case l4 => k_is); (case c4 => k_is); (case k4 => k_is); (case a5 => k_is); (case l5 => k_is); (case c5 => k_is); (case k5 => k_is); (case a6 => k_is); (case l6 => k_is); (case c6 => k_is); (case k6 => k_is); (case a7 => k_is); (case l7 => k_is); (case c7 => k_is); (case k7 => k_is); (case a8 => k_is); (case l8 => k_is); (case c8 => k_is); (case k8 => k_is); (case a9 => k_is); (case l9 => k_is); (case c9 => k_is); (case k9 => k_is); (case a10 => k_is); (case l10 => k_is); (case c10 => k_is); (case k10 => k_is); (case a11 => k_is); (case l11 => k_is); (case c11 => k_is); (case k11 => k_is); (case a12 => k_is); (case l12 => k_is); (case c12 => k_is); (case k12 => k_is); (case a13 => k_is); (case l13 => k_is); (case c13 => k_is); (case k13 => k_is); (case a14 => k_is); (case l14 => k_is); (case c14 => k_is); (case k14 => k_is); (case a15 => k_is); (case l15 => k_is); (case c15 => k_is); (case k15 => k_is); (case a16 => k_is); (case l16 => k_is); (case c16 => k_is); (case k16 => k_is); (case a17 => k_is); (case l17 => k_is); (case c17 => k_is); (case k17 => k_is); (case a18 => k_is); (case l18 => k_is); (case c18 => k_is); (case k18 => k_is); (case a19 => k_is); (case l19 => k_is); (case c19 => k_is); (case k19 => k_is); (case a20 => k_is); (case l20 => k_is); (case c20 => k_is); (case k20 => k_is); (case a21 => k_is); (case l21 => k_is); (case c21 => k_is); (case k21 => k_is); (case a22 => k_is); (case l22 => k_is); (case c22 => k_is); (case k22 => k_is); (case a23 => k_is); (case l23 => k_is); (case c23 => k_is); (case k23 => k_is); (case a24 => k_is); (case l24 => k_is); (case c24 => k_is); (case k24 => k_is); (case a25 => k_is); (case l25 => k_is); (case c25 => k_is); (case k25 => k_is); (case a26 => k_is); (case l26 => k_is); (case c26 => k_is); (case k26 => k_is); (case a27 => k_is); (case l27 => k_is); (case c27 => k_is); (case k27 => k_is); (case a28 => k_is); (case l28 => k_is); (case c28 => k_is); (case k28 => k_is); (case a29 => k_is); (case l29 => k_is); (case c29 => k_is); (case k29 => k_is); (case a30 => k_is); (case l30 => k_is); (case c30 => k_is); (case k30 => k_is); (case a31 => k_is); (case l31 => k_is); (case c31 => k_is); (case k31 => k_is); (case a32 => k_is); (case l32 => k_is); (case c32 => k_is); (case k32 => k_is); (case a33 => k_is); (case l33 => k_is); (case c33 => k_is); (case k33 => k_is); (case a34 => k_is); (case l34 => k_is); (case c34 => k_is); (case k34 => k_is); (case a35 => k_is); (case l35 => k_is); (case c35 => k_is); (case k35 => k_is); (case a36 => k_is); (case l36 => k_is); (case c36 => k_is); (case k36 => k_is); (case aS => k_is); (case y1 => k_is); (case y2 => k_is); (case y3 => k_is); (case y4 => k_is); (case y5 => k_is); (case rC => k_is); (case rpg => k_is); (case rhd => k_is); (case rpo => k_is); (case rsa => k_is); (case rmk => k_is); (case rkc => k_is); (case rn1 => k_is); (case rn2 => k_is); (case aRI => k_is); (case iRI => k_is); (case lRI => k_is); (case cRI => k_is); (case kRI => k_is); (case aRL => k_is); (case iRL => k_is); (case lRL => k_is); (case cRL => k_is); (case kRL => k_is); (case aRB => k_is); (case iRB => k_is); (case lRB => k_is); (case cRB => k_is); (case kRB => k_is); (case aRC => k_is); (case iRC => k_is); (case lRC => k_is); (case cRC => k_is); (case kRC => k_is); (case aRN => k_is); (case iRN => k_is); (case lRN => k_is); (case cRN => k_is); (case kRN => k_is); (case aRG => k_is); (case iRG => k_is); (case lRG => k_is); (case cRG => k_is); (case kRG => k_is); (case aRT => k_is); (case iRT => k_is); (case lRT => k_is); (case cRT => k_is); (case kRT => k_is); (case aRS => k_is); (case iRS => k_is); (case lRS => k_is); (case cRS => k_is); (case kRS => k_is); (case aRV => k_is); (case iRV => k_is); (case lRV => k_is); (case cRV => k_is); (case kRV => k_is); (case aRW => k_is); (case iRW => k_is); (case lRW => k_is); (case cRW => k_is); (case kRW => k_is); (case aC => k_is); (case aI => k_is); (case iI => k_is); (case lI => k_is); (case cI => k_is); (case kI => k_is); (case lT => k_is); (case lA => k_is); (case pg => k_is); (case hd => k_is); (case po => k_is); (case sa => k_is); (case mk => k_is); (case kc => k_is); (case nR => k_is); (case nF => k_is); (case nS => k_is); (case nL => k_is); (case z1 => k_is); (case z2 => k_is); (case z3 => k_is); (case z4 => k_is); (case z5 => k_is); (case z6 => k_is); (case z7 => k_is); (case z8 => k_is); (case z9 => k_is); (case z10 => k_is); (case z11 => k_is); (case z12 => k_is); (case z13 => k_is); (case z14 => k_is)
