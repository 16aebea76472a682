import PyProof.Rows.All
import Wide.All
import OpenK.AllK
import Wide.FinOn
import PyProof.EqAt
import PyProof.EqKinds
import PyProof.TupleCall
import HandS.ForMost
import HandS.IsInst
import HandS.TupAny
import HandS.Strs
import HandS.Replace
import PySem.Challenge.RW_turnshelves_k06_rows_in_sectors
set_option Elab.async false
set_option linter.all false
set_option maxRecDepth 100000
set_option maxHeartbeats 4000000
/-! defs by name; what a drawer leaves -/
namespace Ow
open PySem PySem.Spec PyProof.Rows L2

/-- the def that the module's name x holds keeps sp, by k levels -/
structure Kn (P : Program) (w : World) (K : PySem.W.Frag) (mg : Str → Option Value) (base : Heap)
    (k : Nat) (x : Str) (ps : List Str) (sp : Sp) : Prop where
  ex : ∃ f fd, FnOk P w K mg base CX0 k f fd ps sp ∧ mg x = some (.ref f) ∧
    PySem.W.keepIn K (.ref f) = true ∧ Binds K fd ps []

theorem pe_kn {X : Cx} {k j : Nat} {x : Str} {ps : List Str} {sp : Sp} {p pos : Pos} {e : Expr}
    {es : List Expr} {t : TA} (c : Kn X.prog X.w X.K X.mg X.base k x ps sp) (hr : Room j X.A)
    (ha : PA X (e :: es) t) (hk : k ≤ j := by decide) (hg : Gl X x := by rfl)
    (hdb : (x == ("__debug__" : Str)) = false := by decide)
    (he : starEach (e :: es) X.env = (false, eval e X.env) :: starEach es X.env := by rfl)
    (hpl : (backTo pos (starEach es X.env)).any (·.1) = false := by rfl) :
    PE X (.Call (.Name x p) (e :: es) [] pos) (tCall sp [] E0 t) := by
  obtain ⟨f, fd, F, gm, kp, b⟩ := c.ex
  exact pe_call F (hr.mono hk) hg gm kp b .nil pass0 ha hdb he hpl

theorem hu64 {k : Nat} {A : Around} (hr : Room k A) : A.units + 64 < cLine := hr.units

/-- the heap but for what stands at p -/
def Gw (p : Addr) (H H' : Hp) : Prop := ∀ b o, b ≠ p → H b = some o → H' b = some o
theorem Gw.refl (p : Addr) (H : Hp) : Gw p H H := fun _ _ _ e => e
theorem Gw.trans {p : Addr} {H H1 H2 : Hp} (a : Gw p H H1) (b : Gw p H1 H2) : Gw p H H2 :=
  fun c o n e => b c o n (a c o n e)
theorem Gw.new {p q : Addr} {H : Hp} {o : HO} (n : H q = none) : Gw p H (upd H q o) :=
  fun b u _ e => by rw [upd_ne (ne_of_none e n)]; exact e
theorem Gw.put {p : Addr} {H : Hp} {o : HO} : Gw p H (upd H p o) :=
  fun b u nb e => by rw [upd_ne nb]; exact e
theorem Gw.same {p : Addr} {H H' : Hp} (s : Same H H') : Gw p H H' := fun b o _ e => s b o e
theorem Same.new {q : Addr} {H : Hp} {o : HO} (n : H q = none) : Same H (upd H q o) :=
  fun b u e => by rw [upd_ne (ne_of_none e n)]; exact e

/-- what a drawer keeps at p: its numbers (at d) and its place -/
def Rng (d : Addr) (H : Hp) (p : Addr) : Prop := ∃ (ds : List Int) (k : Int),
  H p = some (.lst [.ref d, .int k]) ∧ 0 ≤ k ∧ H d = some (.lst (ds.map V.int))
theorem Rng.ne {H : Hp} {p d : Addr} {k : Int} {ds : List Int} (h : H p = some (.lst [.ref d, .int k]))
    (g : H d = some (.lst (ds.map V.int))) : d ≠ p := by
  intro e
  subst e
  rw [h] at g
  injection g with g
  injection g with g
  cases ds with
  | nil => cases g
  | cons a r =>
    rw [List.map_cons] at g
    injection g with g1 _
    cases g1
theorem Rng.same {H H' : Hp} {p d : Addr} (r : Rng d H p) (s : Same H H') : Rng d H' p := by
  obtain ⟨ds, k, h, z, g⟩ := r
  exact ⟨ds, k, s _ _ h, z, s _ _ g⟩
theorem Rng.free {H : Hp} {p d q : Addr} (r : Rng d H p) (n : H q = none) : q ≠ p ∧ q ≠ d := by
  obtain ⟨ds, k, h, _, g⟩ := r
  exact ⟨(ne_of_none h n).symm, (ne_of_none g n).symm⟩
theorem Rng.upd {H : Hp} {p d q : Addr} {o : HO} (r : Rng d H p) (n : q ≠ p ∧ q ≠ d) : Rng d (L2.upd H q o) p := by
  obtain ⟨ds, k, h, z, g⟩ := r
  exact ⟨ds, k, by rw [upd_ne n.1.symm]; exact h, z, by rw [upd_ne n.2.symm]; exact g⟩

/-- a call that draws from p: whatever x it hands back, of which R tells -/
def Drw (p d : Addr) (H : Hp) (Q : VK) (R : V → Hp → Prop) : Prop :=
  ∀ x H', R x H' → Gw p H H' → Rng d H' p → Q x H'
theorem Gw.over {p o : Addr} {H H' : Hp} {u : HO} (g : Gw p H H') (n : H o = none) : Gw p H (upd H' o u) :=
  fun b x nb e => by rw [upd_ne (ne_of_none e n)]; exact g b x nb e
theorem Same.over {o : Addr} {H H' : Hp} {u : HO} (g : Same H H') (n : H o = none) : Same H (upd H' o u) :=
  fun b x e => by rw [upd_ne (ne_of_none e n)]; exact g b x e
theorem Gw.keep {p q : Addr} {H H' : Hp} {o : HO} (g : Gw p H H') (h : H q = some o) (n : q ≠ p) : H' q = some o := g q o n h
/-- what is free behind was free before -/
theorem Gw.free {p q : Addr} {H H' : Hp} (g : Gw p H H') (n : H' q = none) (ne : q ≠ p) : H q = none := by
  cases z : H q with
  | none => rfl
  | some o =>
    rw [g q o ne z] at n
    cases n
theorem small {n m : Nat} (h : n ≤ m) (hm : m ≤ 10000) : n < sizeLine :=
  Nat.lt_of_le_of_lt (Nat.le_trans h hm) (by decide)
end Ow
namespace Ow
open PySem PySem.Spec PyProof.Rows L2
theorem pget_list {X : Cx} : PGet X (rIxL X.K) := by
  intro pins s σ H o i ov iv Q I ro ri h
  obtain ⟨p, xs, n, v, rfl, rfl, hs, ha, q⟩ := h
  cases ro
  obtain ⟨t, rfl⟩ := ri
  obtain ⟨its, r, pl, hz⟩ := I.list hs
  obtain ⟨j, h1, h2, h3, h4, h5⟩ := atI_get ha
  obtain ⟨u, eu, ru⟩ := r.get h2
  have ln := line63
  have hl := r.length
  by_cases h0 : 0 ≤ n
  · have ej : n.toNat = j := by
      rw [seqIndex_of h0 h5] at h1
      exact Option.some.inj h1
    exact wpAny_getItem_list pl.isList h0 (by omega) (by rw [ej]; simpa using eu) ⟨v, H, I, ru, q⟩
  · have ej : (n + (its.toArray.size : Int)).toNat = j := by
      rw [seqIndex_neg (by omega) h4] at h1
      rw [List.size_toArray, ← hl]
      exact Option.some.inj h1
    exact wpAny_getItem_list_neg pl.isList (by omega) (by rw [List.size_toArray]; omega) (by omega)
      (by rw [ej]; simpa using eu) ⟨v, H, I, ru, q⟩
theorem at_in {α : Type} {xs : List α} {v : Int} (h0 : 0 ≤ v) (h1 : v < xs.length) : ∃ y, atI xs v = some y ∧ y ∈ xs := by
  have h : v.toNat < xs.length := by omega
  have e : v = ((v.toNat : Nat) : Int) := by omega
  refine ⟨xs[v.toNat], ?_, List.getElem_mem h⟩
  have z := atI_nat (xs := xs) (j := v.toNat) (List.getElem?_eq_getElem h)
  rw [← e] at z
  exact z
end Ow
namespace Ow
open PySem PySem.Spec PyProof.Rows L2
/-- a built-in class by its name -/
theorem pe_ty {X : Cx} (n : String) {x : Str} {pos : Pos} (hg : Gl X x) (hm : X.mg x = none) (hv : bootBuiltins x = some (.type n))
    (hn : x ≠ "__name__" := by decide) (hd : (x == ("__debug__" : Str)) = false := by decide) : PE X (.Name x pos) (tC (.ty n)) :=
  pe_bltn hg hm hv rfl hn hd
theorem sz (n : Nat) (h : n ≤ 1000 := by decide) : n ≤ sizeLine := Nat.le_trans h (by decide)
/-- a statement and the rest, with a word between -/
theorem pss_mid {X : Cx} {st : Stmt} {rest : List Stmt} {t u : TS} (a : PS X st t) (b : PSs X rest u) :
    PSs X (st :: rest) fun D σ H => ∃ Mid : L2.St → Hp → Prop, t { D with nx := Mid } σ H ∧ ∀ σ' H', Mid σ' H' → u D σ' H' := by
  refine ⟨fun pins s σ H D I ⟨Mid, hm, hu⟩ => ?_⟩
  refine wpAny_execs_cons (thn (a.run pins s σ H { D with nx := Mid } I hm) fun f s1 q => ?_)
  cases f with
  | next =>
    obtain ⟨σ', H', I', q⟩ := q
    exact b.run pins s1 σ' H' D I' (hu σ' H' q)
  | ret v => exact q
  | brk => exact q
  | cont => exact q
end Ow
namespace K1
open PySem PySem.Spec PyProof.Rows L2 Ow
def topS (i : Nat) : Stmt := PySem.Challenge.pw_turnshelves_k06_rows_in_sectors.main.body.getD i (.Pass ⟨0, 0, 0, 0⟩)
/-- the names that the top leaves alone -/
structure Bl (mg : Str → Option Value) : Prop where
  range : mg "range" = none
  len : mg "len" = none
  int : mg "int" = none
  str : mg "str" = none
  bool : mg "bool" = none
  list : mg "list" = none
  tuple : mg "tuple" = none
  isinstance : mg "isinstance" = none
  min : mg "min" = none
  abs : mg "abs" = none
  ord : mg "ord" = none
/-- the signs of a text are those of values -/
def Pr (z : Str) : Prop := ∀ c ∈ z.cps.toList, 32 ≤ c ∧ c < 127 ∧ c ≠ 37
instance (z : Str) : Decidable (Pr z) := inferInstanceAs (Decidable (∀ c ∈ z.cps.toList, 32 ≤ c ∧ c < 127 ∧ c ≠ 37))
theorem joinL_mem : ∀ (ps : List (List Nat)) (c : Nat), c ∈ TL.joinL [] ps → ∃ p ∈ ps, c ∈ p
  | [], _, h => nomatch h
  | [p], c, h => ⟨p, List.mem_singleton.mpr rfl, h⟩
  | p :: q :: r, c, h => by
    have h' : c ∈ p ++ ([] ++ TL.joinL [] (q :: r)) := h
    rw [List.nil_append] at h'
    rcases List.mem_append.mp h' with z | z
    · exact ⟨p, List.mem_cons_self, z⟩
    · obtain ⟨x, m, i⟩ := joinL_mem (q :: r) c z
      exact ⟨x, List.mem_cons_of_mem _ m, i⟩
theorem joinL_len : ∀ (ps : List (List Nat)), (TL.joinL [] ps).length = (ps.map (·.length)).sum
  | [] => rfl
  | [p] => by simp [TL.joinL]
  | p :: q :: r => by
    have e : TL.joinL [] (p :: q :: r) = p ++ ([] ++ TL.joinL [] (q :: r)) := rfl
    rw [e, List.nil_append, List.length_append, joinL_len (q :: r)]
    rfl
theorem Pr.join {ys : List Str} (h : ∀ y ∈ ys, Pr y) : Pr (Txt.join (PySem.Str.ofString "") ys) := by
  intro c hc
  rw [TL.join_eq] at hc
  have h1 : c ∈ TL.joinL [] (ys.map fun z => z.cps.toList) := by
    have hc' : c ∈ TL.tl (Str.join (PySem.Str.ofString "") ys) := hc
    rw [TL.tl_join] at hc'
    exact hc'
  obtain ⟨p, m, i⟩ := joinL_mem _ _ h1
  obtain ⟨y, my, rfl⟩ := List.mem_map.mp m
  exact h y my c i
theorem join_size {ys : List Str} : (Txt.join (PySem.Str.ofString "") ys).length = (ys.map (·.length)).sum := by
  rw [TL.join_eq]
  have e : (TL.tl (Str.join (PySem.Str.ofString "") ys)).length = (Str.join (PySem.Str.ofString "") ys).length := by
    show (Str.join (PySem.Str.ofString "") ys).cps.toList.length = _
    rw [Array.length_toList]
    rfl
  rw [← e, TL.tl_join]
  show (TL.joinL [] (ys.map fun z => z.cps.toList)).length = _
  rw [joinL_len, List.map_map]
  congr 1
/-- a value of a row -/
def Scal (v : V) : Prop := (∃ i, v = .int i ∧ i.natAbs < 2 ^ 140) ∨ ∃ z, v = .str z ∧ Pr z ∧ z.length ≤ 200
def spMix : Sp := fun vs H Q _ => ∃ c k : Int, vs = [.int c, .int k] ∧
  ∀ v : Int, 0 ≤ v → v < 9973 → Q (.int v) H
def spDraws (K : PySem.W.Frag) : Sp := fun vs H Q _ => ∃ (a : Addr) (ns : List Int), vs = [.ref a] ∧
  SqL K H a (ns.map V.int) ∧ ns.length ≤ 63 ∧ ∀ (H' : Hp) (p : Addr) (ds : List Int), Same H H' → H p = none →
    H' p = some (.lst (ds.map V.int)) → Q (.ref p) H'
def spAt (K : PySem.W.Frag) : Sp := fun vs H Q _ => ∃ (d : Addr) (ds : List Int) (i : Int), vs = [.ref d, .int i] ∧
  SqL K H d (ds.map V.int) ∧ 0 ≤ i ∧ ∀ v : Int, Q (.int v) H
def spNext : Sp := fun vs H Q _ => ∃ (p d : Addr) (l : Int), vs = [.ref p, .int l] ∧ 0 < l ∧ Rng d H p ∧
  Drw p d H Q fun x _ => ∃ v : Int, x = .int v ∧ 0 ≤ v ∧ v < l
def spText : Sp := fun vs H Q _ => ∃ (p d : Addr) (m : Nat), vs = [.ref p, .int (m : Int)] ∧ m ≤ 1000 ∧ Rng d H p ∧
  Drw p d H Q fun x _ => ∃ z : Str, x = .str z ∧ Pr z ∧ z.length ≤ m
def spValue : Sp := fun vs H Q _ => ∃ p d : Addr, vs = [.ref p] ∧ Rng d H p ∧ Drw p d H Q fun x _ => Scal x
def spRow : Sp := fun vs H Q _ => ∃ (p d : Addr) (n : Nat), vs = [.ref p, .int (n : Int)] ∧ n ≤ 1000 ∧ Rng d H p ∧
  Drw p d H Q fun x H' => ∃ (q : Addr) (xs : List V), x = .ref q ∧ H' q = some (.tup xs) ∧ xs.length = n ∧ ∀ y ∈ xs, Scal y
/-- every tuple stays -/
def Tk (K : PySem.W.Frag) (H H' : Hp) : Prop := ∀ (a : Addr) (xs : List V), SqT K H a xs → SqT K H' a xs
theorem Tk.same {K : PySem.W.Frag} {H H' : Hp} (s : Same H H') : Tk K H H' := fun a xs h => by
  rcases h with (h | ⟨o, h⟩) | h
  · exact .inl (.inl (s _ _ h))
  · exact .inl (.inr ⟨o, s _ _ h⟩)
  · exact .inr h
theorem Tk.trans {K : PySem.W.Frag} {H H1 H2 : Hp} (a : Tk K H H1) (b : Tk K H1 H2) : Tk K H H2 := fun c xs h => b c xs (a c xs h)
theorem Tk.gw {K : PySem.W.Frag} {H H' : Hp} {p : Addr} {us : List V} (e : H p = some (.lst us)) (g : Gw p H H') : Tk K H H' := fun a xs h => by
  rcases h with (h | ⟨o, h⟩) | h
  · exact .inl (.inl (g _ _ (fun z => by rw [z, e] at h; cases h) h))
  · exact .inl (.inr ⟨o, g _ _ (fun z => by rw [z, e] at h; cases h) h⟩)
  · exact .inr h
theorem Tk.put {K : PySem.W.Frag} {H : Hp} {p : Addr} {us : List V} {o : HO} (e : H p = some (.lst us)) : Tk K H (upd H p o) := Tk.gw e Gw.put
/-- a def that makes something and keeps all else -/
def Mak (H : Hp) (Q : VK) (R : V → Hp → Prop) : Prop := ∀ x H', R x H' → Same H H' → Q x H'
theorem SqL.same {K : PySem.W.Frag} {H H' : Hp} {a : Addr} {xs : List V} (s : Same H H') (h : SqL K H a xs) : SqL K H' a xs := s.seq h
end K1
namespace K1
open PySem PySem.Spec PyProof.Rows L2 Ow
/-! the bytes of data -/
def numB (n : Nat) : List Int := if n ≤ 127 then [(n : Int)] else (128 + (n : Int) % 128) :: numB (n / 128)
termination_by n
decreasing_by omega
theorem numB_small {n : Nat} (h : n ≤ 127) : numB n = [(n : Int)] := by rw [numB, if_pos h]
theorem numB_big {n : Nat} (h : ¬ n ≤ 127) : numB n = (128 + (n : Int) % 128) :: numB (n / 128) := by rw [numB, if_neg h]
theorem numB_len : ∀ (k n : Nat), n < 128 ^ k → (numB n).length ≤ k + 1
  | 0, n, h => by
    rw [numB_small (by simp at h; omega)]; simp
  | k + 1, n, h => by
    by_cases e : n ≤ 127
    · rw [numB_small e]; simp
    · rw [numB_big e, List.length_cons]
      have h2 : n / 128 < 128 ^ k := by
        rw [Nat.pow_succ] at h
        exact Nat.div_lt_of_lt_mul (by rw [Nat.mul_comm]; exact h)
      have := numB_len k (n / 128) h2
      omega
theorem numB_20 {n : Nat} (h : n < 2 ^ 140) : (numB n).length ≤ 21 := numB_len 20 n (by
  have : (128 : Nat) ^ 20 = 2 ^ 140 := by decide
  omega)
def cpB (z : Str) : List Int := z.cps.toList.map fun (c : Nat) => (c : Int)
theorem cpB_len (z : Str) : (cpB z).length = z.length := by
  unfold cpB
  rw [List.length_map, Array.length_toList]
  rfl
def strB (z : Str) : List Int := numB z.length ++ cpB z
def intB (i : Int) : List Int := (if i < 0 then 1 else 0) :: numB i.natAbs
def valB : V → List Int
  | .int i => 0 :: intB i
  | .str z => 1 :: strB z
  | _ => []
def listB (xs : List (List Int)) : List Int := numB xs.length ++ xs.flatten
def rowB (xs : List V) : List Int := listB (xs.map valB)
theorem strB_len {z : Str} (h : z.length ≤ 200) : (strB z).length ≤ 221 := by
  unfold strB
  rw [List.length_append, cpB_len]
  have := numB_20 (n := z.length) (Nat.lt_of_le_of_lt h (by decide))
  omega
theorem valB_len {v : V} (h : Scal v) : (valB v).length ≤ 222 := by
  rcases h with ⟨i, rfl, h⟩ | ⟨z, rfl, _, h⟩
  · unfold valB intB
    rw [List.length_cons, List.length_cons]
    have := numB_20 h
    omega
  · unfold valB
    rw [List.length_cons]
    have := strB_len h
    omega
theorem flat_len : ∀ {xs : List (List Int)} {b : Nat}, (∀ x ∈ xs, x.length ≤ b) → xs.flatten.length ≤ xs.length * b
  | [], _, _ => by simp
  | x :: xs, b, h => by
    have h1 := h x List.mem_cons_self
    have h2 := flat_len (xs := xs) (b := b) fun y m => h y (List.mem_cons_of_mem _ m)
    rw [List.flatten_cons, List.length_append, List.length_cons, Nat.succ_mul]
    omega
theorem listB_len {xs : List (List Int)} {b : Nat} (h : ∀ x ∈ xs, x.length ≤ b) (l : xs.length ≤ 1000) : (listB xs).length ≤ 21 + xs.length * b := by
  unfold listB
  rw [List.length_append]
  have := flat_len h
  have := numB_20 (n := xs.length) (Nat.lt_of_le_of_lt l (by decide))
  omega
theorem rowB_len {xs : List V} (h : ∀ x ∈ xs, Scal x) (l : xs.length ≤ 10) : (rowB xs).length ≤ 2300 := by
  have h1 := listB_len (xs := xs.map valB) (b := 222) (fun y m => by
    obtain ⟨x, mx, rfl⟩ := List.mem_map.mp m
    exact valB_len (h x mx)) (by rw [List.length_map]; omega)
  unfold rowB
  rw [List.length_map] at h1
  omega
/-! rows in sectors -/
structure Pk where
  S : List (List Int)
  cur : List Int
  cnt : Int
def pk0 : Pk := ⟨[], [], 0⟩
def pkS (p : Pk) (c : List Int) : Pk := if p.cur.length + c.length > 63 then ⟨p.S ++ [p.cnt :: p.cur], c, 1⟩ else ⟨p.S, p.cur ++ c, p.cnt + 1⟩
def pkAll (p : Pk) : List (List Int) := if p.cnt > 0 then p.S ++ [p.cnt :: p.cur] else p.S
def padS (s : List Int) : List Int := s ++ List.replicate (64 - s.length) 0
def pkF (cs : List (List Int)) : Pk := cs.foldl pkS pk0
def packO (cs : List (List Int)) : Option (List (List Int)) :=
  if cs.all (fun c => decide (c.length ≤ 63)) = true then some ((pkAll (pkF cs)).map padS) else none
structure PkOk (n : Nat) (p : Pk) : Prop where
  z : p.cnt = 0 → p.S = [] ∧ p.cur = []
  nn : 0 ≤ p.cnt
  l : p.S.length + (if p.cnt > 0 then 1 else 0) ≤ n
  c : p.cur.length ≤ 63
  s : ∀ x ∈ p.S, x.length ≤ 64 ∧ x ≠ []
theorem pk0_ok : PkOk 0 pk0 := ⟨fun _ => ⟨rfl, rfl⟩, Int.le_refl _, by simp [pk0], by simp [pk0], fun _ h => nomatch h⟩
theorem pkS_ok {n : Nat} {p : Pk} {c : List Int} (h : PkOk n p) (hc : c.length ≤ 63) : PkOk (n + 1) (pkS p c) := by
  have h1 := h.z; have h2 := h.nn; have h3 := h.l; have h4 := h.c; have h5 := h.s
  unfold pkS
  split
  · rename_i e
    have e0 : p.cnt ≠ 0 := fun z => by
      rw [(h1 z).2] at e
      simp at e
      omega
    have e1 : p.cnt > 0 := by omega
    rw [if_pos e1] at h3
    refine ⟨fun z => ?_, ?_, ?_, hc, fun x m => ?_⟩
    · have z' : (1 : Int) = 0 := z
      omega
    · show (0 : Int) ≤ 1
      decide
    · show (p.S ++ [p.cnt :: p.cur]).length + (if (1 : Int) > 0 then 1 else 0) ≤ n + 1
      rw [List.length_append, if_pos (by decide)]
      simp
      omega
    · rcases List.mem_append.mp m with m | m
      · exact h5 x m
      · rw [List.mem_singleton.mp m, List.length_cons]
        exact ⟨by omega, by simp⟩
  · rename_i e
    refine ⟨fun z => ?_, ?_, ?_, ?_, h5⟩
    · have z' : p.cnt + 1 = 0 := z
      omega
    · show 0 ≤ p.cnt + 1
      omega
    · show p.S.length + (if p.cnt + 1 > 0 then 1 else 0) ≤ n + 1
      rw [if_pos (by omega)]
      split at h3
      · omega
      · have z : p.cnt = 0 := by omega
        rw [(h1 z).1]
        simp
    · show (p.cur ++ c).length ≤ 63
      rw [List.length_append]
      omega
theorem pkF_ok : ∀ (cs : List (List Int)) (n : Nat) (p : Pk), PkOk n p → (∀ c ∈ cs, c.length ≤ 63) → PkOk (n + cs.length) (cs.foldl pkS p)
  | [], n, p, h, _ => h
  | c :: cs, n, p, h, hc => by
    have := pkF_ok cs (n + 1) (pkS p c) (pkS_ok h (hc c List.mem_cons_self)) fun x m => hc x (List.mem_cons_of_mem _ m)
    rw [List.foldl_cons, List.length_cons, Nat.add_comm cs.length 1, ← Nat.add_assoc]
    exact this
/-! the bucket -/
def buk (bs : List Int) : Int := bs.foldl (fun h b => 31 * h + b + 1) 0
theorem buk_mod (m : Int) : ∀ (bs : List Int) (h g : Int), g = h % m → bs.foldl (fun g b => (31 * g + b + 1) % m) g = (bs.foldl (fun h b => 31 * h + b + 1) h) % m
  | [], h, g, e => e
  | b :: bs, h, g, e => by
    rw [List.foldl_cons, List.foldl_cons]
    refine buk_mod m bs _ _ ?_
    rw [e]
    have h1 : 31 * (h % m) + b + 1 = 31 * (h % m) + (b + 1) := by omega
    have h2 : 31 * h + b + 1 = 31 * h + (b + 1) := by omega
    rw [h1, h2, Int.add_emod, Int.mul_emod, Int.emod_emod_of_dvd _ (Int.dvd_refl m), ← Int.mul_emod, ← Int.add_emod]
end K1
namespace K1
open PySem PySem.Spec PyProof.Rows L2 Ow
abbrev s_law_mix : Stmt := topS 11
abbrev N_law_mix : List Str := ["cell", "k", "value"]
theorem sc_law_mix : FnScope N_law_mix ["cell", "k"] (defScope s_law_mix) := ⟨rfl, rfl, rfl, by decide +kernel, rfl, by decide +kernel, by decide +kernel⟩
section
variable {P : Program} {w : World} {K : PySem.W.Frag} {mg : Str → Option Value} {base : Heap}
theorem ok_mix {f : Addr} {fd : FuncData} (F : Fun K "_law_mix" "_law_mix" s_law_mix f fd) (T : Bl mg) :
    FnOk P w K mg base CX0 1 f fd ["cell", "k"] spMix := by
  refine F.ok sc_law_mix (fun vs H Q E h => ?_) (fun cdv A outer s H vs Q E hr h => ?_)
  · obtain ⟨c, k, rfl, _⟩ := h
    rfl
  · obtain ⟨c, k, rfl, q⟩ := h
    refine ⟨_, (pss_cons (ps_set (i := 2) sc_law_mix.nd rfl (.inl rfl) (pe_op op_mod (pe_callTy call_int1 (by rfl) T.int (by decide +kernel) (pa_cons (pe_op op_add (pe_op op_add (pe_op op_mul (pe_callTy call_int1 (by rfl) T.int (by decide +kernel) (pa_cons (pv 0) pa_nil)) pe_int) (pe_op op_mul (pv 1) pe_int)) pe_int) pa_nil)) pe_int))
      (pss_cons (ps_set (i := 2) sc_law_mix.nd rfl (.inl rfl) (pe_op op_mod (pe_callTy call_int1 (by rfl) T.int (by decide +kernel) (pa_cons (pe_op op_add (pe_op op_add (pe_op op_mul (pv 2) (pv 2)) (pe_op op_mul (pv 1) pe_int)) pe_int) pa_nil)) pe_int))
      (pss_one (ps_ret (pe_op op_mod (pe_op op_fdiv (pv 2) pe_int) pe_int))))), ?_⟩
    refine ⟨_, rfl, .inl ⟨c, rfl, c, 48271, rfl, rfl, .inr ⟨by decide, by decide⟩, _, rfl, k, 69621, rfl, rfl,
      .inr ⟨by decide, by decide⟩, _, _, rfl, rfl, _, _, rfl, rfl, .inl ⟨_, rfl, _, 2147483647, rfl, rfl, (by show (0 : Int) < 2147483647; decide), ?_⟩⟩⟩
    refine ⟨_, rfl, _, rfl, _, _, rfl, rfl, .inl ⟨by omega, by omega⟩, _, rfl, k, 40692, rfl, rfl,
      .inr ⟨by decide, by decide⟩, _, _, rfl, rfl, _, _, rfl, rfl, .inl ⟨_, rfl, _, 2147483399, rfl, rfl, (by show (0 : Int) < 2147483399; decide), ?_⟩⟩
    refine ⟨_, rfl, _, 5, rfl, rfl, ⟨by decide, by decide⟩, _, 9973, rfl, rfl, (by show (0 : Int) < 9973; decide), ?_⟩
    exact q _ (Int.emod_nonneg _ (by decide)) (Int.emod_lt_of_pos _ (by decide))
end
end K1
namespace K1
open PySem PySem.Spec PyProof.Rows L2 Ow
abbrev s_law_at : Stmt := topS 13
abbrev N_law_at : List Str := ["draws", "index"]
theorem sc_law_at : FnScope N_law_at ["draws", "index"] (defScope s_law_at) := ⟨rfl, rfl, rfl, by decide +kernel, rfl, by decide +kernel, by decide +kernel⟩
section
variable {P : Program} {w : World} {K : PySem.W.Frag} {mg : Str → Option Value} {base : Heap}
theorem ok_at {f : Addr} {fd : FuncData} (F : Fun K "_law_at" "_law_at" s_law_at f fd) (T : Bl mg)
    (D_law_mix : Kn P w K mg base 1 "_law_mix" ["cell", "k"] spMix) :
    FnOk P w K mg base CX0 2 f fd ["draws", "index"] (spAt K) := by
  refine F.ok sc_law_at (fun vs H Q E h => ?_) (fun cdv A outer s H vs Q E hr h => ?_)
  · obtain ⟨d, ds, i, rfl, _⟩ := h
    rfl
  · obtain ⟨d, ds, i, rfl, hd, hi, q⟩ := h
    refine ⟨_, (pss_cons (ps_if (pt_cmpR op_lt (pv 1) (pe_callB call_len_seq (by rfl) T.len PySem.boot_len (pa_cons (pv 0) pa_nil)) (nomark _)) (pss_one (ps_ret (pe_ix ix_list (pv 0) (pv 1) (fun _ _ => rfl)))) pss_nil)
      (pss_cons (ps_if (pt_cmpR op_eq (pe_callB call_len_seq (by rfl) T.len PySem.boot_len (pa_cons (pv 0) pa_nil)) pe_int (nomark _)) (pss_one (ps_ret (pe_kn D_law_mix hr (pa_cons (pv 1) (pa_cons pe_int pa_nil))))) pss_nil)
      (pss_one (ps_ret (pe_kn D_law_mix hr (pa_cons (pe_op op_add (pe_ix ix_list (pv 0) (pe_op op_mod (pe_callTy call_int1 (by rfl) T.int (by decide +kernel) (pa_cons (pv 1) pa_nil)) (pe_callB call_len_seq (by rfl) T.len PySem.boot_len (pa_cons (pv 0) pa_nil))) (fun _ _ => rfl)) (pe_op op_mul (pv 1) pe_int)) (pa_cons (pv 1) pa_nil))))))), ?_⟩
    refine ⟨_, rfl, _, rfl, d, ds.map V.int, rfl, .inl hd, _, _, rfl, rfl, _, rfl, ite2 (fun e => ?_) (fun e => ?_)⟩
    · have e1 : i < ((ds.map V.int).length : Int) := of_decide_eq_true e
      rw [List.length_map] at e1
      have e2 : i.toNat < ds.length := by omega
      refine ⟨_, rfl, _, rfl, d, ds.map V.int, i, .int ds[i.toNat], rfl, rfl, hd, ?_, q _⟩
      exact at_of (j := i.toNat) (by omega) (by rw [List.getElem?_map, List.getElem?_eq_getElem e2]; rfl)
    · refine ⟨_, rfl, d, ds.map V.int, rfl, .inl hd, rfl, _, rfl, ite2 (fun e2 => ?_) (fun e2 => ?_)⟩
      · exact ⟨_, rfl, i, 77, rfl, fun v _ _ => q v⟩
      · have n0 : 0 < ds.length := by
          apply Nat.pos_of_ne_zero
          intro z
          apply e2
          apply decide_eq_true
          rw [List.length_map, z]
          rfl
        have m0 : 0 ≤ i % (ds.length : Int) := Int.emod_nonneg _ (by omega)
        have m1 : i % (ds.length : Int) < ds.length := Int.emod_lt_of_pos _ (by omega)
        have m2 : (i % (ds.length : Int)).toNat < ds.length := by omega
        refine ⟨_, rfl, _, rfl, .inl ⟨_, rfl, _, rfl, d, ds.map V.int, rfl, .inl hd, _, _, rfl, rfl, ?_, d, ds.map V.int, _,
          .int ds[(i % (ds.length : Int)).toNat], rfl, rfl, hd, ?_, _, rfl, i, 131, rfl, rfl, .inr ⟨by decide, by decide⟩, _, _, rfl, rfl, _, rfl, _, _, rfl, fun v _ _ => q v⟩⟩
        · show (0 : Int) < ((ds.map V.int).length : Int)
          rw [List.length_map]
          omega
        · rw [List.length_map]
          exact at_of (j := (i % (ds.length : Int)).toNat) (by omega) (by rw [List.getElem?_map, List.getElem?_eq_getElem m2]; rfl)
end
end K1
namespace K1
open PySem PySem.Spec PyProof.Rows L2 Ow
abbrev s_law_draws : Stmt := topS 12
abbrev N_law_draws : List Str := ["script", "draws", "k", "cell", "place"]
theorem sc_law_draws : FnScope N_law_draws ["script"] (defScope s_law_draws) := ⟨rfl, rfl, rfl, by decide +kernel, rfl, by decide +kernel, by decide +kernel⟩
section
variable {P : Program} {w : World} {K : PySem.W.Frag} {mg : Str → Option Value} {base : Heap}
theorem ok_draws {f : Addr} {fd : FuncData} (F : Fun K "_law_draws" "_law_draws" s_law_draws f fd) (T : Bl mg)
    (D_law_mix : Kn P w K mg base 1 "_law_mix" ["cell", "k"] spMix) :
    FnOk P w K mg base CX0 2 f fd ["script"] (spDraws K) := by
  refine F.ok sc_law_draws (fun vs H Q E h => ?_) (fun cdv A outer s H vs Q E hr h => ?_)
  · obtain ⟨a, ns, rfl, _⟩ := h
    rfl
  · obtain ⟨a, ns, rfl, hS, hlen, q⟩ := h
    refine ⟨_, (pss_cons (ps_set (i := 1) sc_law_draws.nd rfl (.inl rfl) (pe_lst pa_nil))
      (pss_cons (ps_for PassesOwn.never rfl (pi_range1 (by rfl) T.range (pa_cons (pe_callB (call_min2 rfl) (by rfl) T.min (by decide +kernel) (pa_cons pe_int (pa_cons (pe_callB call_len_seq (by rfl) T.len PySem.boot_len (pa_cons (pv 0) pa_nil)) pa_nil))) pa_nil)) (pg_name (i := 2) sc_law_draws.nd rfl (.inl rfl)) (pss_cons (ps_set (i := 3) sc_law_draws.nd rfl (.inl rfl) (pe_callTy call_int1 (by rfl) T.int (by decide +kernel) (pa_cons (pe_ix ix_list (pv 0) (pv 2) (fun _ _ => rfl)) pa_nil)))
      (pss_one (ps_if (pt_cmpR op_lt (pv 3) (pe_op op_pow pe_int pe_int) (nomark _)) (pss_one (ps_expr (pe_bm PySem.F.plainAttrs_list PySem.F.slot_list_append PySem.F.type_list_append mt_append (pv 1) (pa_cons (pe_kn D_law_mix hr (pa_cons (pv 3) (pa_cons (pv 2) pa_nil))) pa_nil)))) (pss_one (ps_for PassesOwn.never rfl (pi_range1 (by rfl) T.range (pa_cons pe_int pa_nil)) (pg_name (i := 4) sc_law_draws.nd rfl (.inl rfl)) (pss_one (ps_if (pt_cmpR op_gt (pv 3) pe_int (nomark _)) (pss_cons (ps_expr (pe_bm PySem.F.plainAttrs_list PySem.F.slot_list_append PySem.F.type_list_append mt_append (pv 1) (pa_cons (pe_op op_mod (pe_callTy call_int1 (by rfl) T.int (by decide +kernel) (pa_cons (pv 3) pa_nil)) pe_int) pa_nil)))
      (pss_one (ps_set (i := 3) sc_law_draws.nd rfl (.inl rfl) (pe_op op_fdiv (pv 3) pe_int)))) pss_nil))))))))
      (pss_one (ps_ret (pv 1))))), ?_⟩
    refine ⟨Nat.zero_le _, fun o no => ?_⟩
    have s1 : Same H (upd H o (.lst [])) := Same.new no
    have en : (if ((ns.map V.int).length : Int) < 63 then ((ns.map V.int).length : Int) else 63) = (ns.length : Int) := by
      rw [List.length_map]
      split <;> omega
    refine ⟨_, rfl, a, ns.map V.int, rfl, .inl (s1.seq hS), 63, ((ns.map V.int).length : Int), rfl, (ns.length : Int), by rw [en], by omega, by omega,
      for_range (lo := 0) (n := (ns.length : Int).toNat) (fun i σ H3 => ∃ (y2 y3 y4 : Option V) (ds : List Int), σ = [some (.ref a), some (.ref o), y2, y3, y4] ∧
        Same H H3 ∧ H3 o = some (.lst (ds.map V.int)) ∧ ds.length ≤ 60 * i) ⟨none, none, none, [], rfl, s1, upd_same, Nat.zero_le _⟩ (fun i σ H3 hi hP => ?_) (fun σ H3 hP => ?_)⟩
    · obtain ⟨y2, y3, y4, ds, rfl, sm, eo, hl⟩ := hP
      have hi' : i < ns.length := by omega
      have g : (ns.map V.int)[i]? = some (.int ns[i]) := by
        rw [List.getElem?_map, List.getElem?_eq_getElem hi']
        rfl
      refine ⟨_, rfl, _, rfl, a, ns.map V.int, _, .int ns[i], rfl, rfl, sm.seq hS, at_of (j := i) (by omega) g, .inl ⟨_, rfl, ?_⟩⟩
      refine ⟨_, rfl, 10, 18, rfl, rfl, ⟨by decide, by decide, by decide⟩, _, _, rfl, rfl, _, rfl, ite2 (fun e => ?_) (fun e => ?_)⟩
      · refine ⟨_, rfl, .inl ⟨rfl, _, .inl (.inl eo)⟩, _, rfl, _, rfl, _, _, rfl, fun v v0 v1 => ⟨o, ds.map V.int, .int v, rfl, rfl, eo, ?_, ?_⟩⟩
        · rw [List.length_map]
          exact small hl (by omega)
        · exact ⟨_, _, _, ds ++ [v], rfl, Same.over sm no, by rw [upd_same, List.map_append]; rfl, by rw [List.length_append]; show ds.length + 1 ≤ _; omega⟩
      · refine ⟨60, rfl, by decide, by decide, for_range (lo := 0) (n := (60 : Int).toNat) (fun j σ H4 => ∃ (c : Int) (y5 : Option V) (es : List Int), σ = [some (.ref a), some (.ref o), some (.int (0 + (i : Int))), some (.int c), y5] ∧
          Same H H4 ∧ H4 o = some (.lst (es.map V.int)) ∧ es.length ≤ 60 * i + j) ⟨ns[i], y4, ds, rfl, sm, eo, hl⟩ (fun j σ H4 hj hP => ?_) (fun σ H4 hP => ?_)⟩
        · obtain ⟨c, y5, es, rfl, sm4, eo4, hl4⟩ := hP
          have hj' : j < 60 := hj
          refine ⟨_, rfl, _, _, rfl, rfl, _, rfl, ite2 (fun e2 => ?_) (fun e2 => ?_)⟩
          · refine ⟨_, rfl, .inl ⟨rfl, _, .inl (.inl eo4)⟩, _, rfl, .inl ⟨c, rfl, c, 9973, rfl, rfl, (by show (0 : Int) < 9973; decide), o, es.map V.int, _, rfl, rfl, eo4, ?_, ?_⟩⟩
            · rw [List.length_map]
              exact small hl4 (by omega)
            · refine ⟨_, rfl, c, 9973, rfl, rfl, ⟨by decide, by decide⟩, ?_⟩
              exact ⟨c / 9973, _, es ++ [c % 9973], rfl, Same.over sm4 no, by rw [upd_same, List.map_append]; rfl, by rw [List.length_append]; show es.length + 1 ≤ _; omega⟩
          · exact ⟨c, _, es, rfl, sm4, eo4, by omega⟩
        · obtain ⟨c, y5, es, rfl, sm4, eo4, hl4⟩ := hP
          have hl5 : es.length ≤ 60 * i + 60 := hl4
          exact ⟨_, _, _, es, rfl, sm4, eo4, by omega⟩
    · obtain ⟨y2, y3, y4, ds, rfl, sm, eo, hl⟩ := hP
      exact ⟨_, rfl, q H3 o ds sm no eo⟩
end
end K1
namespace K1
open PySem PySem.Spec PyProof.Rows L2 Ow
abbrev s_law_next : Stmt := topS 16
abbrev N_law_next : List Str := ["state", "limit"]
theorem sc_law_next : FnScope N_law_next ["state", "limit"] (defScope s_law_next) := ⟨rfl, rfl, rfl, by decide +kernel, rfl, by decide +kernel, by decide +kernel⟩
section
variable {P : Program} {w : World} {K : PySem.W.Frag} {mg : Str → Option Value} {base : Heap}
theorem ok_next {f : Addr} {fd : FuncData} (F : Fun K "_law_next" "_law_next" s_law_next f fd) (T : Bl mg)
    (D_law_at : Kn P w K mg base 2 "_law_at" ["draws", "index"] (spAt K)) :
    FnOk P w K mg base CX0 3 f fd ["state", "limit"] spNext := by
  refine F.ok sc_law_next (fun vs H Q E h => ?_) (fun cdv A outer s H vs Q E hr h => ?_)
  · obtain ⟨p, d, l, rfl, _⟩ := h
    rfl
  · obtain ⟨p, d, l, rfl, hl, ⟨ds, k, hp, hk, hd⟩, q⟩ := h
    have nd := Rng.ne hp hd
    refine ⟨_, (pss_cons (ps_augS (pv 0) pe_int pget_list pe_int ip_add set_list)
      (pss_one (ps_ret (pe_op op_mod (pe_kn D_law_at hr (pa_cons (pe_ix ix_list (pv 0) pe_int (fun _ _ => rfl)) (pa_cons (pe_ix ix_list (pv 0) pe_int (fun _ _ => rfl)) pa_nil))) (pv 1))))), ?_⟩
    refine ⟨_, rfl, p, [.ref d, .int k], 1, .int k, rfl, rfl, SqL.of hp, rfl, k, 1, rfl, rfl, p, [.ref d, .int k], 1, 1, rfl, rfl, hp, rfl, ?_⟩
    have e1 : (upd H p (.lst [.ref d, .int (k + 1)])) d = some (.lst (ds.map V.int)) := by
      rw [upd_ne nd]
      exact hd
    refine ⟨_, rfl, p, [.ref d, .int (k + 1)], 0, .ref d, rfl, rfl, SqL.of upd_same, rfl, _, rfl, p, [.ref d, .int (k + 1)], 1, .int (k + 1), rfl, rfl, SqL.of upd_same, rfl,
      d, ds, k + 1, rfl, SqL.of e1, by omega, fun v => ⟨_, rfl, v, l, rfl, rfl, hl, ?_⟩⟩
    exact q _ _ ⟨_, rfl, Int.emod_nonneg _ (by omega), Int.emod_lt_of_pos _ hl⟩ Gw.put ⟨ds, k + 1, upd_same, by omega, e1⟩
end
end K1
namespace K1
open PySem PySem.Spec PyProof.Rows L2 Ow
abbrev s_law_text : Stmt := topS 19
abbrev N_law_text : List Str := ["state", "most", "chars", "start", "step", "k"]
theorem sc_law_text : FnScope N_law_text ["state", "most"] (defScope s_law_text) := ⟨rfl, rfl, rfl, by decide +kernel, rfl, by decide +kernel, by decide +kernel⟩
theorem join_len : ∀ (ys : List Str) (n : Nat), (∀ y ∈ ys, y.length ≤ 1) → ys.length ≤ n → (ys.map (·.length)).sum ≤ n
  | [], _, _, _ => Nat.zero_le _
  | y :: r, 0, _, h => by simp at h
  | y :: r, n + 1, h, hl => by
    have ih := join_len r n (fun z hz => h z (List.mem_cons_of_mem _ hz)) (by simpa using hl)
    have h1 := h y List.mem_cons_self
    rw [List.map_cons, List.sum_cons]
    omega
section
variable {P : Program} {w : World} {K : PySem.W.Frag} {mg : Str → Option Value} {base : Heap}
theorem ok_text {f : Addr} {fd : FuncData} (F : Fun K "_law_text" "_law_text" s_law_text f fd) (T : Bl mg)
    (D_law_next : Kn P w K mg base 3 "_law_next" ["state", "limit"] spNext) :
    FnOk P w K mg base CX0 4 f fd ["state", "most"] spText := by
  refine F.ok sc_law_text (fun vs H Q E h => ?_) (fun cdv A outer s H vs Q E hr h => ?_)
  · obtain ⟨p, d, m, rfl, _⟩ := h
    rfl
  · obtain ⟨p, d, m, rfl, hm, rg, q⟩ := h
    refine ⟨_, (pss_cons (ps_set (i := 2) sc_law_text.nd rfl (.inr rfl) pe_str)
      (pss_cons (ps_set (i := 3) sc_law_text.nd rfl (.inr rfl) (pe_kn D_law_next hr (pa_cons (pv 0) (pa_cons pe_int pa_nil))))
      (pss_cons (ps_set (i := 4) sc_law_text.nd rfl (.inr rfl) (pe_kn D_law_next hr (pa_cons (pv 0) (pa_cons pe_int pa_nil))))
      (pss_one (ps_ret (pe_join pe_str (pe_lc (own := [("k", 5)]) (g := gName 5) rfl sc_law_text.nd (pi_range1 (by rfl) T.range (pa_cons (pe_kn D_law_next hr (pa_cons (pv 0) (pa_cons (pe_op op_add (pv 1) pe_int) pa_nil))) pa_nil)) (blkOk_by (own := [("k", 5)]) (N := N_law_text) (sc := defScope s_law_text) (by decide +kernel)) (fun _ _ _ _ _ => pg_name (i := 5) sc_law_text.nd rfl (Or.inl rfl)) (fun _ _ _ _ _ => pts_nil) (fun _ _ _ _ _ => (pe_ix ix_str (pv 2) (pe_op op_mod (pe_op op_add (pv 3) (pe_op op_mul (pv 4) (pv 5))) pe_int) (fun _ _ => rfl)))))))))), ?_⟩
    refine ⟨_, rfl, p, d, 94, rfl, by decide, rg, ?_⟩
    rintro x1 H1 ⟨b, rfl, b0, b1⟩ gw1 rg1
    refine ⟨_, rfl, p, d, 94, rfl, by decide, rg1, ?_⟩
    rintro x2 H2 ⟨c, rfl, c0, c1⟩ gw2 rg2
    refine ⟨⟨_, rfl⟩, _, rfl, _, rfl, (m : Int), 1, rfl, rfl, p, d, (m : Int) + 1, rfl, by omega, rg2, ?_⟩
    rintro x3 H3 ⟨n, rfl, n0, n1⟩ gw3 rg3
    have gw : Gw p H H3 := (gw1.trans gw2).trans gw3
    refine ⟨n, rfl, by omega, by omega, fun D nD => lc_range (lo := 0) (n := n.toNat) (fun i H4 => ∃ ys : List Str, H4 D = some (.lst (ys.map V.str)) ∧
      ys.length = i ∧ (∀ y ∈ ys, y.length ≤ 1 ∧ Pr y) ∧ Gw p H H4 ∧ Rng d H4 p) ⟨[], upd_same, rfl, fun _ z => (nomatch z), Gw.over gw (gw.free nD (rg3.free nD).1), rg3.same (Same.new nD)⟩ (fun i H4 hi hP => ?_) (fun H4 hP => ?_)⟩
    · obtain ⟨ys, eD, ly, l1, gw4, rg4⟩ := hP
      refine ⟨rfl, ?_⟩
      refine ⟨_, rfl, _, rfl, _, rfl, _, rfl, c, _, rfl, rfl, .inl ⟨by omega, by omega⟩, _, _, rfl, rfl, _, 94, rfl, rfl, (by show (0 : Int) < 94; decide), ?_⟩
      obtain ⟨ch, hch, mch⟩ := at_in (xs := (PySem.Str.ofString " !\"#$&'()*+,-./0123456789:;<=>?@ABCDEFGHIJKLMNOPQRSTUVWXYZ[\\]^_`abcdefghijklmnopqrstuvwxyz{|}~").cps.toList)
        (v := (b + c * (0 + (i : Int))) % 94) (Int.emod_nonneg _ (by decide)) (by
          rw [show (PySem.Str.ofString " !\"#$&'()*+,-./0123456789:;<=>?@ABCDEFGHIJKLMNOPQRSTUVWXYZ[\\]^_`abcdefghijklmnopqrstuvwxyz{|}~").cps.toList.length = 94 by decide +kernel]
          exact Int.emod_lt_of_pos _ (by decide))
      refine ⟨_, _, ch, rfl, rfl, by decide +kernel, hch, ys.map V.str, eD, ?_, ?_⟩
      · rw [List.length_map]
        exact small (m := 1000) (by omega) (by decide)
      · refine ⟨ys ++ [⟨#[ch]⟩], by rw [upd_same, List.map_append]; rfl, by rw [List.length_append, ly]; rfl, fun y hy => ?_, ?_, ?_⟩
        · rcases List.mem_append.mp hy with h | h
          · exact l1 y h
          · rw [List.mem_singleton.mp h]
            refine ⟨Nat.le_refl _, fun z hz => ?_⟩
            have ez : z = ch := List.mem_singleton.mp hz
            rw [ez]
            exact (by decide +kernel : ∀ c ∈ (PySem.Str.ofString " !\"#$&'()*+,-./0123456789:;<=>?@ABCDEFGHIJKLMNOPQRSTUVWXYZ[\\]^_`abcdefghijklmnopqrstuvwxyz{|}~").cps.toList, 32 ≤ c ∧ c < 127 ∧ c ≠ 37) ch mch
        · exact Gw.over gw4 (gw.free nD (rg3.free nD).1)
        · exact rg4.upd (rg3.free nD)
    · obtain ⟨ys, eD, ly, l1, gw4, rg4⟩ := hP
      have hs : (ys.map (·.length)).sum ≤ m := join_len ys m (fun y hy => (l1 y hy).1) (by omega)
      refine ⟨_, D, ys, rfl, rfl, .inl (SqL.of eD), ?_, ?_⟩
      · show (ys.map (·.length)).sum + ys.length * 0 ≤ _
        omega
      · exact q _ _ ⟨_, rfl, Pr.join fun y hy => (l1 y hy).2, by rw [join_size]; exact hs⟩ gw4 rg4
end
end K1
namespace K1
open PySem PySem.Spec PyProof.Rows L2 Ow
abbrev s_law_value : Stmt := topS 20
abbrev N_law_value : List Str := ["state", "pick", "number", "k"]
theorem sc_law_value : FnScope N_law_value ["state"] (defScope s_law_value) := ⟨rfl, rfl, rfl, by decide +kernel, rfl, by decide +kernel, by decide +kernel⟩
section
variable {P : Program} {w : World} {K : PySem.W.Frag} {mg : Str → Option Value} {base : Heap}
theorem ok_value {f : Addr} {fd : FuncData} (F : Fun K "_law_value" "_law_value" s_law_value f fd) (T : Bl mg)
    (D_law_next : Kn P w K mg base 3 "_law_next" ["state", "limit"] spNext)
    (D_law_text : Kn P w K mg base 4 "_law_text" ["state", "most"] spText) :
    FnOk P w K mg base CX0 5 f fd ["state"] spValue := by
  refine F.ok sc_law_value (fun vs H Q E h => ?_) (fun cdv A outer s H vs Q E hr h => ?_)
  · obtain ⟨p, d, rfl, _⟩ := h
    rfl
  · obtain ⟨p, d, rfl, rg, q⟩ := h
    refine ⟨_, (pss_cons (ps_set (i := 1) sc_law_value.nd rfl (.inl rfl) (pe_kn D_law_next hr (pa_cons (pv 0) (pa_cons pe_int pa_nil))))
      (pss_cons (ps_if (pt_cmpR op_lt (pv 1) pe_int (nomark _)) (pss_one (ps_ret (pe_op op_sub (pe_kn D_law_next hr (pa_cons (pv 0) (pa_cons pe_int pa_nil))) pe_int))) pss_nil)
      (pss_cons (ps_if (pt_cmpR op_eq (pv 1) pe_int (nomark _)) (pss_cons (ps_set (i := 2) sc_law_value.nd rfl (.inl rfl) pe_int)
      (pss_cons (ps_for PassesOwn.never rfl (pi_range1 (by rfl) T.range (pa_cons (pe_op op_add pe_int (pe_kn D_law_next hr (pa_cons (pv 0) (pa_cons pe_int pa_nil)))) pa_nil)) (pg_name (i := 3) sc_law_value.nd rfl (.inl rfl)) (pss_one (ps_set (i := 2) sc_law_value.nd rfl (.inl rfl) (pe_op op_add (pe_op op_mul (pv 2) pe_int) (pe_kn D_law_next hr (pa_cons (pv 0) (pa_cons pe_int pa_nil)))))))
      (pss_one (ps_ret (pe_op op_mul (pv 2) (pe_ix ix_list (pe_lst (pa_cons pe_int (pa_cons (pe_un un_neg pe_int) pa_nil))) (pe_kn D_law_next hr (pa_cons (pv 0) (pa_cons pe_int pa_nil))) (fun _ _ => rfl))))))) pss_nil)
      (pss_cons (ps_if (pt_cmpR op_eq (pv 1) pe_int (nomark _)) (pss_one (ps_ret (pe_ix ix_list (pe_lst (pa_cons (pe_op op_sub (pe_op op_pow pe_int pe_int) pe_int) (pa_cons (pe_op op_sub pe_int (pe_op op_pow pe_int pe_int)) (pa_cons pe_int (pa_cons pe_int (pa_cons (pe_un un_neg pe_int) (pa_cons pe_int pa_nil))))))) (pe_kn D_law_next hr (pa_cons (pv 0) (pa_cons pe_int pa_nil))) (fun _ _ => rfl)))) pss_nil)
      (pss_cons (ps_if (pt_cmpR op_lt (pv 1) pe_int (nomark _)) (pss_one (ps_ret (pe_ix ix_list (pe_lst (pa_cons pe_str (pa_cons pe_str (pa_cons pe_str (pa_cons pe_str (pa_cons pe_str (pa_cons pe_str (pa_cons pe_str pa_nil)))))))) (pe_kn D_law_next hr (pa_cons (pv 0) (pa_cons pe_int pa_nil))) (fun _ _ => rfl)))) pss_nil)
      (pss_one (ps_ret (pe_kn D_law_text hr (pa_cons (pv 0) (pa_cons pe_int pa_nil)))))))))), ?_⟩
    refine ⟨_, rfl, p, d, 9, rfl, by decide, rg, ?_⟩
    rintro x1 H1 ⟨b, rfl, b0, b1⟩ gw1 rg1
    refine ⟨_, rfl, _, _, rfl, rfl, _, rfl, ite2 (fun e => ?_) (fun e => ?_)⟩
    · refine ⟨_, rfl, p, d, 5, rfl, by decide, rg1, ?_⟩
      rintro x2 H2 ⟨c, rfl, c0, c1⟩ gw2 rg2
      exact ⟨c, 2, rfl, rfl, q _ _ (.inl ⟨_, rfl, by omega⟩) (gw1.trans gw2) rg2⟩
    refine ⟨_, rfl, rfl, _, rfl, ite2 (fun e => ?_) (fun e => ?_)⟩
    · refine ⟨_, rfl, p, d, 7, rfl, by decide, rg1, ?_⟩
      rintro x2 H2 ⟨c, rfl, c0, c1⟩ gw2 rg2
      refine ⟨1, c, rfl, rfl, 1 + c, rfl, by omega, by omega, for_range (lo := 0) (n := (1 + c).toNat) (fun i σ H3 => ∃ (n : Int) (y3 : Option V),
        σ = [some (.ref p), some (.int b), some (.int n), y3] ∧ 0 ≤ n ∧ n < 9973 ^ i ∧ Gw p H H3 ∧ Rng d H3 p) ⟨0, none, rfl, by decide, by decide, gw1.trans gw2, rg2⟩ (fun i σ H3 hi hP => ?_) (fun σ H3 hP => ?_)⟩
      · obtain ⟨n, y3, rfl, n0, n1, gw3, rg3⟩ := hP
        refine ⟨_, rfl, n, 9973, rfl, rfl, .inr ⟨by decide, by decide⟩, _, rfl, p, d, 9973, rfl, by decide, rg3, ?_⟩
        rintro x4 H4 ⟨z, rfl, z0, z1⟩ gw4 rg4
        exact ⟨_, _, rfl, rfl, _, _, rfl, by omega, by rw [Int.pow_succ]; omega, gw3.trans gw4, rg4⟩
      · obtain ⟨n, y3, rfl, n0, n1, gw3, rg3⟩ := hP
        have n2 : n < 9973 ^ 7 := by
          have : (1 + c).toNat ≤ 7 := by omega
          have h := Nat.pow_le_pow_right (n := 9973) (by decide) this
          have h' : ((9973 ^ (1 + c).toNat : Nat) : Int) ≤ ((9973 ^ 7 : Nat) : Int) := by omega
          rw [Int.natCast_pow, Int.natCast_pow] at h'
          exact Int.lt_of_lt_of_le n1 h'
        refine ⟨_, rfl, 1, rfl, by decide, fun o no => ⟨_, rfl, p, d, 2, rfl, by decide, rg3.same (Same.new no), ?_⟩⟩
        rintro x5 H5 ⟨v, rfl, v0, v1⟩ gw5 rg5
        obtain ⟨y, hy, my⟩ := at_in (xs := [V.int 1, V.int (-1)]) v0 v1
        refine ⟨o, _, v, y, rfl, rfl, SqL.of (gw5.keep upd_same (rg3.free no).1), hy, ?_⟩
        have gw6 : Gw p H H5 := (gw3.trans (Gw.new no)).trans gw5
        simp only [List.mem_cons, List.not_mem_nil, or_false] at my
        rcases my with rfl | rfl
        · exact ⟨n, 1, rfl, rfl, .inr ⟨by decide, by decide⟩, q _ _ (.inl ⟨_, rfl, by omega⟩) gw6 rg5⟩
        · exact ⟨n, -1, rfl, rfl, .inr ⟨by decide, by decide⟩, q _ _ (.inl ⟨_, rfl, by omega⟩) gw6 rg5⟩
    refine ⟨_, rfl, rfl, _, rfl, ite2 (fun e => ?_) (fun e => ?_)⟩
    · refine ⟨10, 30, rfl, rfl, ⟨by decide, by decide, by decide⟩, _, 1, rfl, rfl, 10, 30, rfl, rfl, ⟨by decide, by decide, by decide⟩, 1, _, rfl, rfl, 128, rfl, by decide, fun o no => ⟨_, rfl, p, d, 6, rfl, by decide, rg1.same (Same.new no), ?_⟩⟩
      rintro x5 H5 ⟨v, rfl, v0, v1⟩ gw5 rg5
      obtain ⟨y, hy, my⟩ := at_in (xs := [V.int ((10 : Int) ^ (30 : Int).toNat - 1), V.int (1 - (10 : Int) ^ (30 : Int).toNat), V.int 127, V.int 128, V.int (-128), V.int 16384]) v0 v1
      refine ⟨o, _, v, y, rfl, rfl, SqL.of (gw5.keep upd_same (rg1.free no).1), hy, q _ _ ?_ ((gw1.trans (Gw.new no)).trans gw5) rg5⟩
      simp only [List.mem_cons, List.not_mem_nil, or_false] at my
      rcases my with rfl | rfl | rfl | rfl | rfl | rfl <;> exact .inl ⟨_, rfl, by decide⟩
    refine ⟨_, rfl, _, _, rfl, rfl, _, rfl, ite2 (fun e => ?_) (fun e => ?_)⟩
    · refine ⟨by decide, fun o no => ⟨_, rfl, p, d, 7, rfl, by decide, rg1.same (Same.new no), ?_⟩⟩
      rintro x5 H5 ⟨v, rfl, v0, v1⟩ gw5 rg5
      obtain ⟨y, hy, my⟩ := at_in (xs := [V.str "", V.str "a", V.str "b", V.str "ab", V.str "a ", V.str "0", V.str "1"]) v0 v1
      refine ⟨o, _, v, y, rfl, rfl, SqL.of (gw5.keep upd_same (rg1.free no).1), hy, q _ _ ?_ ((gw1.trans (Gw.new no)).trans gw5) rg5⟩
      simp only [List.mem_cons, List.not_mem_nil, or_false] at my
      rcases my with rfl | rfl | rfl | rfl | rfl | rfl | rfl <;> exact .inr ⟨_, rfl, by decide +kernel, by decide +kernel⟩
    · refine ⟨_, rfl, p, d, 30, rfl, by decide, rg1, ?_⟩
      rintro x2 H2 ⟨z, rfl, pz, lz⟩ gw2 rg2
      exact q _ _ (.inr ⟨_, rfl, pz, by omega⟩) (gw1.trans gw2) rg2
end
end K1
namespace K1
open PySem PySem.Spec PyProof.Rows L2 Ow
abbrev s_law_row : Stmt := topS 21
abbrev N_law_row : List Str := ["state", "width", "k"]
theorem sc_law_row : FnScope N_law_row ["state", "width"] (defScope s_law_row) := ⟨rfl, rfl, rfl, by decide +kernel, rfl, by decide +kernel, by decide +kernel⟩
section
variable {P : Program} {w : World} {K : PySem.W.Frag} {mg : Str → Option Value} {base : Heap}
theorem ok_row {f : Addr} {fd : FuncData} (F : Fun K "_law_row" "_law_row" s_law_row f fd) (T : Bl mg)
    (D_law_value : Kn P w K mg base 5 "_law_value" ["state"] spValue) :
    FnOk P w K mg base CX0 6 f fd ["state", "width"] spRow := by
  refine F.ok sc_law_row (fun vs H Q E h => ?_) (fun cdv A outer s H vs Q E hr h => ?_)
  · obtain ⟨p, d, n, rfl, _⟩ := h
    rfl
  · obtain ⟨p, d, n, rfl, hn, rg, q⟩ := h
    refine ⟨_, (pss_one (ps_ret (pe_callTy call_tuple_of (by rfl) T.tuple (by decide +kernel) (pa_cons (pe_lc (own := [("k", 2)]) (g := gName 2) rfl sc_law_row.nd (pi_range1 (by rfl) T.range (pa_cons (pv 1) pa_nil)) (blkOk_by (own := [("k", 2)]) (N := N_law_row) (sc := defScope s_law_row) (by decide +kernel)) (fun _ _ _ _ _ => pg_name (i := 2) sc_law_row.nd rfl (Or.inl rfl)) (fun _ _ _ _ _ => pts_nil) (fun _ _ _ _ _ => (pe_kn D_law_value hr (pa_cons (pv 0) pa_nil)))) pa_nil)))), ?_⟩
    refine ⟨_, rfl, (n : Int), rfl, by omega, by omega, fun D nD => lc_range (lo := 0) (n := (n : Int).toNat) (fun i H4 => ∃ ys : List V, H4 D = some (.lst ys) ∧
      ys.length = i ∧ (∀ y ∈ ys, Scal y) ∧ Gw p H H4 ∧ Rng d H4 p) ⟨[], upd_same, rfl, fun _ z => (nomatch z), Gw.new nD, rg.same (Same.new nD)⟩ (fun i H4 hi hP => ?_) (fun H4 hP => ?_)⟩
    · obtain ⟨ys, eD, ly, l1, gw4, rg4⟩ := hP
      refine ⟨rfl, ?_⟩
      refine ⟨_, rfl, p, d, rfl, rg4, ?_⟩
      rintro x H5 sx gw5 rg5
      refine ⟨ys, gw5.keep eD (rg.free nD).1, small (m := 1000) (by omega) (by decide), ys ++ [x], upd_same, by rw [List.length_append, ly]; rfl, fun y hy => ?_, Gw.over (gw4.trans gw5) nD, rg5.upd (rg.free nD)⟩
      rcases List.mem_append.mp hy with h | h
      · exact l1 y h
      · rw [List.mem_singleton.mp h]
        exact sx
    · obtain ⟨ys, eD, ly, l1, gw4, rg4⟩ := hP
      exact ⟨D, ys, rfl, .inl ⟨SqL.of eD, fun l nl => q _ _ ⟨l, ys, rfl, upd_same, by omega, l1⟩ (Gw.over gw4 (gw4.free nl (rg4.free nl).1)) (rg4.upd (rg4.free nl))⟩⟩
end
end K1
namespace Ow
open PySem PySem.Spec PyProof.Rows L2
theorem for_str {x : Str} {g : TG} {tb : TS} {D : Ends} {σ : L2.St} {H : Hp} (Pv : Nat → L2.St → Hp → Prop) (h0 : Pv 0 σ H)
    (hs : ∀ i c σ H, x.cps[i]? = some c → Pv i σ H → g (.str ⟨#[c]⟩) σ H fun σ2 H2 => tb { D with nx := Pv (i + 1), ct := Pv (i + 1), bk := D.nx } σ2 H2) (hd : ∀ σ H, Pv x.cps.size σ H → D.nx σ H) :
    ∃ W : Nat → Nat → L2.St → Hp → Prop, (∃ m, W 0 m σ H) ∧ ∀ i m σ H, W i m σ H →
      ((Its x).stop i H ∧ D.nx σ H) ∨ ((Its x).go i H ∧ ∃ N : L2.St → Hp → Prop, (∀ σ' H', N σ' H' → ∃ m', m' < m ∧ W (i + 1) m' σ' H') ∧ ∀ v H', (Its x).yld i H v H' → g v σ H' fun σ2 H2 => tb { D with nx := N, ct := N, bk := D.nx } σ2 H2) := by
  refine ⟨fun i m σ H => m = x.cps.size - i ∧ i ≤ x.cps.size ∧ Pv i σ H, ⟨x.cps.size, by simp, Nat.zero_le _, h0⟩, ?_⟩
  rintro i m σ H ⟨rfl, hi, p⟩
  by_cases hlt : i < x.cps.size
  · refine .inr ⟨hlt, Pv (i + 1), fun σ' H' p' => ⟨x.cps.size - (i + 1), by omega, rfl, hlt, p'⟩, fun v H' y => ?_⟩
    obtain ⟨rfl, c, ec, rfl⟩ := y
    exact hs i c σ _ ec p
  · have e : i = x.cps.size := by omega
    subst e
    exact .inl ⟨Nat.le_refl _, hd σ H p⟩
theorem lc_str {x : Str} {g : TG} {tt : TT} {te : TE} {vs : List Nat} {σ : L2.St} {H1 : Hp} {D : Addr} {Qd : Hp → Prop} (Pv : Nat → Hp → Prop) (h0 : Pv 0 (upd H1 D (.lst [])))
    (hs : ∀ i c H, x.cps[i]? = some c → Pv i H → g (.str ⟨#[c]⟩) (wipe σ vs) H fun σ2 H2 => wipe σ2 vs = wipe σ vs ∧ tt σ2 H2 fun b H3 =>
      if b = true then te σ2 H3 fun y H4 => ∃ acc, H4 D = some (.lst acc) ∧ acc.length < sizeLine ∧ Pv (i + 1) (upd H4 D (.lst (acc ++ [y]))) else Pv (i + 1) H3) (hd : ∀ H, Pv x.cps.size H → Qd H) :
    ∃ W : Nat → Nat → Hp → Prop, (∃ m, W 0 m (upd H1 D (.lst []))) ∧ ∀ i m H, W i m H →
      ((Its x).stop i H ∧ Qd H) ∨ ((Its x).go i H ∧ ∃ Nx : Hp → Prop, (∀ H', Nx H' → ∃ m', m' < m ∧ W (i + 1) m' H') ∧ ∀ v H', (Its x).yld i H v H' → g v (wipe σ vs) H' fun σ2 H2 => wipe σ2 vs = wipe σ vs ∧ tt σ2 H2 fun b H3 =>
        if b = true then te σ2 H3 fun y H4 => ∃ acc, H4 D = some (.lst acc) ∧ acc.length < sizeLine ∧ Nx (upd H4 D (.lst (acc ++ [y]))) else Nx H3) := by
  refine ⟨fun i m H => m = x.cps.size - i ∧ i ≤ x.cps.size ∧ Pv i H, ⟨x.cps.size, by simp, Nat.zero_le _, h0⟩, ?_⟩
  rintro i m H ⟨rfl, hi, p⟩
  by_cases hlt : i < x.cps.size
  · refine .inr ⟨hlt, Pv (i + 1), fun H' p' => ⟨x.cps.size - (i + 1), by omega, rfl, hlt, p'⟩, fun v H' y => ?_⟩
    obtain ⟨rfl, c, ec, rfl⟩ := y
    exact hs i c _ ec p
  · have e : i = x.cps.size := by omega
    subst e
    exact .inl ⟨Nat.le_refl _, hd H p⟩
/-- a text times a number -/
theorem op_mul_str {X : Cx} : OpR X (binaryOp .Mult) (fun x y H Q => ∃ z n, x = .str z ∧ y = .int n ∧ 1 ≤ z.length ∧ 0 ≤ n ∧ (z.length : Int) * n ≤ 10000 ∧ Q (.str (Txt.mul z n)) H) := by
  intro pins s σ H x y v u Q I rx ry h
  obtain ⟨z, n, rfl, rfl, h1, h0, hz, q⟩ := h
  obtain ⟨t, rfl⟩ := rx
  obtain ⟨t', rfl⟩ := ry
  have hn : n ≤ 10000 := by
    have : (1 : Int) * n ≤ (z.length : Int) * n := Int.mul_le_mul_of_nonneg_right (by omega) h0
    omega
  have hl : (z.length : Int) ≤ 10000 ∨ n < 1 := by
    by_cases hn0 : n < 1
    · exact .inr hn0
    · left
      have : (z.length : Int) * 1 ≤ (z.length : Int) * n := Int.mul_le_mul_of_nonneg_left (by omega) (by omega)
      omega
  refine SB.mul ⟨?_, ?_, ?_⟩ (fun t' k => ⟨.str (Txt.mul z n), H, I.tok _, ⟨_, rfl⟩, q⟩)
  · rw [decide_eq_false (by omega), decide_eq_false (by omega)]
    rfl
  · intro a _ b
    have c : (2 ^ 63 - 1 : Int) / n ≥ (2 ^ 63 - 1 : Int) / 10000 := by
      have h3 : (2 ^ 63 - 1 : Int) / 10000 * n ≤ 2 ^ 63 - 1 := by
        have : (2 ^ 63 - 1 : Int) / 10000 * n ≤ (2 ^ 63 - 1 : Int) / 10000 * 10000 := Int.mul_le_mul_of_nonneg_left hn (by decide)
        have h4 : (2 ^ 63 - 1 : Int) / 10000 * 10000 ≤ 2 ^ 63 - 1 := by decide
        omega
      exact (Int.le_ediv_iff_mul_le (by omega)).mpr h3
    have d : (2 ^ 63 - 1 : Int) / 10000 ≥ 10001 := by decide
    omega
  · intro a _
    have e : ((z.length * n.toNat : Nat) : Int) = (z.length : Int) * n := by
      rw [Int.natCast_mul, Int.toNat_of_nonneg h0]
    have e2 : z.length * n.toNat ≤ 10000 := by omega
    show decide _ = false
    exact decide_eq_false (by
      have : sizeLine = 16777216 := rfl
      omega)
end Ow
namespace K1
open PySem PySem.Spec PyProof.Rows L2 Ow
abbrev swrite_number : Stmt := topS 1
abbrev Nwrite_number : List Str := ["number", "data"]
theorem scwrite_number : FnScope Nwrite_number ["number"] (defScope swrite_number) := ⟨rfl, rfl, rfl, by decide +kernel, rfl, by decide +kernel, by decide +kernel⟩
abbrev s_law_number : Stmt := topS 17
abbrev N_law_number : List Str := ["number", "data"]
theorem sc_law_number : FnScope N_law_number ["number"] (defScope s_law_number) := ⟨rfl, rfl, rfl, by decide +kernel, rfl, by decide +kernel, by decide +kernel⟩
/-- a def that hands back a new list of ints -/
def MkL (H : Hp) (Q : VK) (xs : List Int) : Prop := ∀ H' p, Same H H' → H p = none → H' p = some (.lst (xs.map V.int)) → Q (.ref p) H'
def spNumber : Sp := fun vs H Q _ => ∃ n : Nat, vs = [.int (n : Int)] ∧ n < 2 ^ 140 ∧ MkL H Q (numB n)
def mu1 : L2.St → Hp → Nat := fun σ _ => match σ with
  | some (.int n) :: _ => n.toNat
  | _ => 0
section
variable {P : Program} {w : World} {K : PySem.W.Frag} {mg : Str → Option Value} {base : Heap}
theorem ok_number {f : Addr} {fd : FuncData} (F : Fun K "write_number" "write_number" swrite_number f fd) (T : Bl mg) :
    FnOk P w K mg base CX0 1 f fd ["number"] spNumber := by
  refine F.ok scwrite_number (fun vs H Q E h => ?_) (fun cdv A outer s H vs Q E hr h => ?_)
  · obtain ⟨n, rfl, _⟩ := h
    rfl
  · obtain ⟨N, rfl, hN, q⟩ := h
    refine ⟨_, (pss_cons (ps_set (i := 1) scwrite_number.nd rfl (.inl rfl) (pe_lst pa_nil))
      (pss_cons (ps_while PassesOwn.never (pt_cmpR op_gt (pv 0) pe_int (nomark _)) (pss_cons (ps_expr (pe_bm PySem.F.plainAttrs_list PySem.F.slot_list_append PySem.F.type_list_append mt_append (pv 1) (pa_cons (pe_op op_add pe_int (pe_op op_and (pv 0) pe_int)) pa_nil)))
        (pss_one (ps_set (i := 0) scwrite_number.nd rfl (.inl rfl) (pe_op op_shr (pv 0) pe_int)))))
      (pss_cons (ps_expr (pe_bm PySem.F.plainAttrs_list PySem.F.slot_list_append PySem.F.type_list_append mt_append (pv 1) (pa_cons (pv 0) pa_nil)))
      (pss_one (ps_ret (pv 1)))))), ?_⟩
    have lN := numB_20 hN
    refine ⟨Nat.zero_le _, fun o no => ?_⟩
    refine while_by (fun σ H2 => ∃ (n : Nat) (acc : List Int), σ = [some (.int (n : Int)), some (.ref o)] ∧ Same H H2 ∧ H2 o = some (.lst (acc.map V.int)) ∧ acc ++ numB n = numB N) mu1
      ⟨N, [], rfl, Same.new no, upd_same, rfl⟩ ?_ ?_
    · rintro σ H2 ⟨n, acc, rfl, sm, eo, ea⟩
      have la : acc.length ≤ 21 := by
        have := congrArg List.length ea
        rw [List.length_append] at this
        omega
      refine ⟨_, rfl, _, _, rfl, rfl, _, rfl, ite2 (fun e => ?_) (fun e => ?_)⟩
      · have e1 : (127 : Int) < (n : Int) := of_decide_eq_true e
        refine ⟨_, rfl, .inl ⟨rfl, _, .inl (.inl eo)⟩, _, rfl, (n : Int), 127, rfl, rfl, 128, _, rfl, rfl, o, acc.map V.int, _, rfl, rfl, eo, ?_, ?_⟩
        · rw [List.length_map]
          exact small la (by decide)
        · refine ⟨_, rfl, (n : Int), 7, rfl, rfl, (by show (0 : Int) ≤ 7; decide), ⟨n / 128, acc ++ [128 + (n : Int) % 128], ?_, Same.over sm no, ?_, ?_⟩, ?_⟩
          · rfl
          · rw [upd_same, List.map_append, bitAnd_m7]
            rfl
          · rw [numB_big (by omega)] at ea
            rw [List.append_assoc]
            exact ea
          · show n / 128 < n
            omega
      · have e1 : ¬ (127 : Int) < (n : Int) := fun z => e (decide_eq_true z)
        rw [numB_small (by omega)] at ea
        refine ⟨_, rfl, .inl ⟨rfl, _, .inl (.inl eo)⟩, _, rfl, o, acc.map V.int, _, rfl, rfl, eo, ?_, ?_⟩
        · rw [List.length_map]
          exact small la (by decide)
        · refine ⟨_, rfl, q _ _ (Same.over sm no) no ?_⟩
          rw [upd_same, ← ea, List.map_append]
          rfl
    · rintro σ H2 Q1 Q2 hq ⟨v, hv, i, j, hi, hj, k, hk, z⟩
      exact ⟨v, hv, i, j, hi, hj, k, hk, hq _ _ z⟩
theorem ok_lnumber {f : Addr} {fd : FuncData} (F : Fun K "_law_number" "_law_number" s_law_number f fd) (T : Bl mg) :
    FnOk P w K mg base CX0 1 f fd ["number"] spNumber := by
  refine F.ok sc_law_number (fun vs H Q E h => ?_) (fun cdv A outer s H vs Q E hr h => ?_)
  · obtain ⟨n, rfl, _⟩ := h
    rfl
  · obtain ⟨N, rfl, hN, q⟩ := h
    refine ⟨_, (pss_cons (ps_set (i := 1) sc_law_number.nd rfl (.inl rfl) (pe_lst pa_nil))
      (pss_cons (ps_while PassesOwn.never (pt_cmpR op_gt (pv 0) pe_int (nomark _)) (pss_cons (ps_expr (pe_bm PySem.F.plainAttrs_list PySem.F.slot_list_append PySem.F.type_list_append mt_append (pv 1) (pa_cons (pe_op op_add pe_int (pe_op op_mod (pv 0) pe_int)) pa_nil)))
        (pss_one (ps_set (i := 0) sc_law_number.nd rfl (.inl rfl) (pe_op op_fdiv (pv 0) pe_int)))))
      (pss_one (ps_ret (pe_op op_cat (pv 1) (pe_lst (pa_cons (pv 0) pa_nil))))))), ?_⟩
    have lN := numB_20 hN
    refine ⟨Nat.zero_le _, fun o no => ?_⟩
    refine while_by (fun σ H2 => ∃ (n : Nat) (acc : List Int), σ = [some (.int (n : Int)), some (.ref o)] ∧ Same H H2 ∧ H2 o = some (.lst (acc.map V.int)) ∧ acc ++ numB n = numB N) mu1
      ⟨N, [], rfl, Same.new no, upd_same, rfl⟩ ?_ ?_
    · rintro σ H2 ⟨n, acc, rfl, sm, eo, ea⟩
      have la : acc.length ≤ 21 := by
        have := congrArg List.length ea
        rw [List.length_append] at this
        omega
      refine ⟨_, rfl, _, _, rfl, rfl, _, rfl, ite2 (fun e => ?_) (fun e => ?_)⟩
      · have e1 : (127 : Int) < (n : Int) := of_decide_eq_true e
        refine ⟨_, rfl, .inl ⟨rfl, _, .inl (.inl eo)⟩, _, rfl, (n : Int), 128, rfl, rfl, (by show (0 : Int) < 128; decide), 128, _, rfl, rfl, o, acc.map V.int, _, rfl, rfl, eo, ?_, ?_⟩
        · rw [List.length_map]
          exact small la (by decide)
        · refine ⟨_, rfl, (n : Int), 128, rfl, rfl, ⟨by decide, by decide⟩, ⟨n / 128, acc ++ [128 + (n : Int) % 128], ?_, Same.over sm no, ?_, ?_⟩, ?_⟩
          · rfl
          · rw [upd_same, List.map_append]
            rfl
          · rw [numB_big (by omega)] at ea
            rw [List.append_assoc]
            exact ea
          · show n / 128 < n
            omega
      · have e1 : ¬ (127 : Int) < (n : Int) := fun z => e (decide_eq_true z)
        rw [numB_small (by omega)] at ea
        refine ⟨_, rfl, _, rfl, sz 1, fun t nt => ⟨o, t, acc.map V.int, [.int (n : Int)], rfl, rfl, (Same.new nt) _ _ eo, upd_same, ?_, fun u nu => q _ _ ((sm.trans (Same.new nt)).trans (Same.new nu)) (sm.free ((Same.new nt).free nu)) ?_⟩⟩
        · rw [List.length_map]
          exact sz _ (by show acc.length + 1 ≤ 1000; omega)
        · rw [upd_same, ← ea, List.map_append]
          rfl
    · rintro σ H2 Q1 Q2 hq ⟨v, hv, i, j, hi, hj, k, hk, z⟩
      exact ⟨v, hv, i, j, hi, hj, k, hk, hq _ _ z⟩
end
end K1
namespace K1
open PySem PySem.Spec PyProof.Rows L2 Ow
abbrev swrite_integer : Stmt := topS 2
abbrev Nwrite_integer : List Str := ["number", "sign"]
theorem scwrite_integer : FnScope Nwrite_integer ["number"] (defScope swrite_integer) := ⟨rfl, rfl, rfl, by decide +kernel, rfl, by decide +kernel, by decide +kernel⟩
abbrev swrite_string : Stmt := topS 3
abbrev Nwrite_string : List Str := ["text", "char"]
theorem scwrite_string : FnScope Nwrite_string ["text"] (defScope swrite_string) := ⟨rfl, rfl, rfl, by decide +kernel, rfl, by decide +kernel, by decide +kernel⟩
abbrev swrite_value : Stmt := topS 4
abbrev Nwrite_value : List Str := ["value"]
theorem scwrite_value : FnScope Nwrite_value ["value"] (defScope swrite_value) := ⟨rfl, rfl, rfl, by decide +kernel, rfl, by decide +kernel, by decide +kernel⟩
abbrev swrite_row : Stmt := topS 5
abbrev Nwrite_row : List Str := ["row", "data", "value"]
theorem scwrite_row : FnScope Nwrite_row ["row"] (defScope swrite_row) := ⟨rfl, rfl, rfl, by decide +kernel, rfl, by decide +kernel, by decide +kernel⟩
def spInteger : Sp := fun vs H Q _ => ∃ i : Int, vs = [.int i] ∧ i.natAbs < 2 ^ 140 ∧ MkL H Q (intB i)
def spString : Sp := fun vs H Q _ => ∃ z : Str, vs = [.str z] ∧ Pr z ∧ z.length ≤ 200 ∧ MkL H Q (strB z)
def spVB : Sp := fun vs H Q _ => ∃ x : V, vs = [x] ∧ Scal x ∧ MkL H Q (valB x)
def spRB (K : PySem.W.Frag) : Sp := fun vs H Q _ => ∃ (a : Addr) (xs : List V), vs = [.ref a] ∧ SqT K H a xs ∧ (∀ x ∈ xs, Scal x) ∧ xs.length ≤ 10 ∧ MkL H Q (rowB xs)
theorem abs_eq (i : Int) : (if i < 0 then -i else i) = ((i.natAbs : Nat) : Int) := by split <;> omega
theorem take_snoc {α : Type} {xs : List α} {i : Nat} {x : α} (h : xs[i]? = some x) : xs.take (i + 1) = xs.take i ++ [x] := by
  rw [List.take_add_one, h]
  rfl
theorem cp_take {z : Str} {i c : Nat} (h : z.cps[i]? = some c) : (cpB z).take (i + 1) = (cpB z).take i ++ [(c : Int)] := by
  refine take_snoc ?_
  unfold cpB
  rw [List.getElem?_map]
  have : z.cps.toList[i]? = some c := by rw [Array.getElem?_toList]; exact h
  rw [this]
  rfl
section
variable {P : Program} {w : World} {K : PySem.W.Frag} {mg : Str → Option Value} {base : Heap}
theorem ok_integer {f : Addr} {fd : FuncData} (F : Fun K "write_integer" "write_integer" swrite_integer f fd) (T : Bl mg)
    (Dwrite_number : Kn P w K mg base 1 "write_number" ["number"] spNumber) :
    FnOk P w K mg base CX0 2 f fd ["number"] spInteger := by
  refine F.ok scwrite_integer (fun vs H Q E h => ?_) (fun cdv A outer s H vs Q E hr h => ?_)
  · obtain ⟨i, rfl, _⟩ := h
    rfl
  · obtain ⟨i, rfl, hi, q⟩ := h
    refine ⟨_, (pss_cons (ps_set (i := 1) scwrite_integer.nd rfl (.inl rfl) (pe_ifExp (pt_cmpR op_lt (pv 0) pe_int (nomark _)) pe_int pe_int))
      (pss_one (ps_ret (pe_op op_cat (pe_lst (pa_cons (pv 1) pa_nil)) (pe_kn Dwrite_number hr (pa_cons (pe_callB call_abs (by rfl) T.abs (by decide +kernel) (pa_cons (pv 0) pa_nil)) pa_nil)))))), ?_⟩
    have ln := numB_20 hi
    have fin : ∀ (t : Addr) (nt : H t = none) (s : Int) (hs : s = if i < 0 then 1 else 0) (H1 : Hp) (p : Addr), Same (upd H t (.lst [.int s])) H1 → (upd H t (.lst [.int s])) p = none → H1 p = some (.lst ((numB i.natAbs).map V.int)) →
        rCat (.ref t) (.ref p) H1 Q := fun t nt s hs H1 p sm np hp => by
      refine ⟨t, p, [.int s], (numB i.natAbs).map V.int, rfl, rfl, sm _ _ upd_same, hp, ?_, fun u nu => ?_⟩
      · rw [List.length_map]
        exact sz _ (by show 1 + (numB i.natAbs).length ≤ 1000; omega)
      · refine q _ _ (((Same.new nt).trans sm).trans (Same.new nu)) (((Same.new nt).trans sm).free nu) ?_
        rw [upd_same, hs]
        rfl
    refine ⟨_, rfl, _, _, rfl, rfl, _, rfl, ite2 (fun e => ?_) (fun e => ?_)⟩
    · have e1 : i < 0 := of_decide_eq_true e
      refine ⟨_, rfl, sz 1, fun t nt => ⟨_, rfl, i, rfl, i.natAbs, by rw [abs_eq]; rfl, hi, fun H1 p sm np hp => fin t nt 1 (by rw [if_pos e1]) H1 p sm np hp⟩⟩
    · have e1 : ¬ i < 0 := fun z => e (decide_eq_true z)
      refine ⟨_, rfl, sz 1, fun t nt => ⟨_, rfl, i, rfl, i.natAbs, by rw [abs_eq]; rfl, hi, fun H1 p sm np hp => fin t nt 0 (by rw [if_neg e1]) H1 p sm np hp⟩⟩
theorem ok_string {f : Addr} {fd : FuncData} (F : Fun K "write_string" "write_string" swrite_string f fd) (T : Bl mg)
    (Dwrite_number : Kn P w K mg base 1 "write_number" ["number"] spNumber) :
    FnOk P w K mg base CX0 2 f fd ["text"] spString := by
  refine F.ok scwrite_string (fun vs H Q E h => ?_) (fun cdv A outer s H vs Q E hr h => ?_)
  · obtain ⟨z, rfl, _⟩ := h
    rfl
  · obtain ⟨z, rfl, pz, lz, q⟩ := h
    refine ⟨_, (pss_one (ps_ret (pe_op op_cat (pe_kn Dwrite_number hr (pa_cons (pe_callB call_len_str (by rfl) T.len PySem.boot_len (pa_cons (pv 0) pa_nil)) pa_nil)) (pe_lc (own := [("char", 1)]) (g := gName 1) rfl scwrite_string.nd (pi_str (pv 0)) (blkOk_by (own := [("char", 1)]) (N := Nwrite_string) (sc := defScope swrite_string) (by decide +kernel)) (fun _ _ _ _ _ => pg_name (i := 1) scwrite_string.nd rfl (Or.inl rfl)) (fun _ _ _ _ _ => pts_nil) (fun _ _ _ _ _ => (pe_callB call_ord (by rfl) T.ord (by decide +kernel) (pa_cons (pv 1) pa_nil))))))), ?_⟩
    refine ⟨_, rfl, z, rfl, Nat.le_trans lz (by decide), z.length, rfl, Nat.lt_of_le_of_lt lz (by decide), fun H1 p sm np hp => ?_⟩
    refine ⟨_, rfl, z, rfl, fun D nD => lc_str (x := z) (fun i H4 => H4 D = some (.lst (((cpB z).take i).map V.int)) ∧ Same H1 H4) ⟨upd_same, Same.new nD⟩ (fun i c H4 hc hP => ?_) (fun H4 hP => ?_)⟩
    · obtain ⟨eD, s4⟩ := hP
      refine ⟨rfl, ?_⟩
      refine ⟨_, rfl, _, rfl, rfl, _, eD, ?_, ?_, Same.over s4 nD⟩
      · rw [List.length_map, List.length_take, cpB_len]
        exact small (m := 200) (by omega) (by decide)
      · rw [upd_same, cp_take hc, List.map_append]
        rfl
    · obtain ⟨eD, s4⟩ := hP
      have e : (cpB z).take z.cps.size = cpB z := List.take_of_length_le (by rw [cpB_len]; exact Nat.le_refl _)
      rw [e] at eD
      have ln := strB_len lz
      refine ⟨p, D, _, _, rfl, rfl, s4 _ _ hp, eD, ?_, fun u nu => q _ _ ((sm.trans s4).trans (Same.new nu)) ((sm.trans s4).free nu) ?_⟩
      · rw [← List.length_append, ← List.map_append, List.length_map]
        exact sz _ (Nat.le_trans ln (by decide))
      · rw [upd_same, ← List.map_append]
        rfl
theorem ok_wvalue {f : Addr} {fd : FuncData} (F : Fun K "write_value" "write_value" swrite_value f fd) (T : Bl mg)
    (Dwrite_string : Kn P w K mg base 2 "write_string" ["text"] spString)
    (Dwrite_integer : Kn P w K mg base 2 "write_integer" ["number"] spInteger) :
    FnOk P w K mg base CX0 3 f fd ["value"] spVB := by
  refine F.ok scwrite_value (fun vs H Q E h => ?_) (fun cdv A outer s H vs Q E hr h => ?_)
  · obtain ⟨i, rfl, _⟩ := h
    rfl
  · obtain ⟨x, rfl, sx, q⟩ := h
    refine ⟨_, (pss_cons (ps_if (pt_val (pe_callB call_isi (by rfl) T.isinstance (by decide +kernel) (pa_cons (pv 0) (pa_cons (pe_ty "str" (by rfl) T.str (by decide +kernel)) pa_nil)))) (pss_one (ps_ret (pe_op op_cat (pe_lst (pa_cons pe_int pa_nil)) (pe_kn Dwrite_string hr (pa_cons (pv 0) pa_nil))))) pss_nil)
      (pss_one (ps_ret (pe_op op_cat (pe_lst (pa_cons pe_int pa_nil)) (pe_kn Dwrite_integer hr (pa_cons (pv 0) pa_nil)))))), ?_⟩
    have fin : ∀ (t : Addr) (nt : H t = none) (s : Int) (bs : List Int) (hs : valB x = s :: bs) (H1 : Hp) (p : Addr), Same (upd H t (.lst [.int s])) H1 → (upd H t (.lst [.int s])) p = none → H1 p = some (.lst (bs.map V.int)) →
        rCat (.ref t) (.ref p) H1 Q := fun t nt s bs hs H1 p sm np hp => by
      have l := valB_len sx
      rw [hs, List.length_cons] at l
      refine ⟨t, p, [.int s], bs.map V.int, rfl, rfl, sm _ _ upd_same, hp, ?_, fun u nu => ?_⟩
      · rw [List.length_map]
        exact sz _ (by show 1 + bs.length ≤ 1000; omega)
      · refine q _ _ (((Same.new nt).trans sm).trans (Same.new nu)) (((Same.new nt).trans sm).free nu) ?_
        rw [upd_same, hs]
        rfl
    rcases sx with ⟨i, rfl, hi⟩ | ⟨z, rfl, pz, lz⟩
    · refine ⟨_, rfl, _, _, .type "int", .type "str", false, rfl, .ty _, .base (.int i), kit_ty (by decide +kernel), ?_⟩
      refine ⟨_, rfl, iteF ?_⟩
      exact ⟨sz 1, fun t nt => ⟨_, rfl, i, rfl, hi, fun H1 p sm np hp => fin t nt 0 _ rfl H1 p sm np hp⟩⟩
    · refine ⟨_, rfl, _, _, .type "str", .type "str", true, rfl, .ty _, .base (.str z), kit_ty (by decide +kernel), ?_⟩
      refine ⟨_, rfl, iteT ?_⟩
      exact ⟨sz 1, fun t nt => ⟨_, rfl, z, rfl, pz, lz, fun H1 p sm np hp => fin t nt 1 _ rfl H1 p sm np hp⟩⟩
theorem rowB_eq (xs : List V) : rowB xs = numB xs.length ++ (xs.map valB).flatten := by
  unfold rowB listB
  rw [List.length_map]
theorem row_pre {xs : List V} {i : Nat} {x : V} (h : xs[i]? = some x) :
    numB xs.length ++ ((xs.take (i + 1)).map valB).flatten = (numB xs.length ++ ((xs.take i).map valB).flatten) ++ valB x := by
  rw [take_snoc h, List.map_append, List.flatten_append, List.append_assoc]
  simp
theorem row_pre_len {xs : List V} (h : ∀ x ∈ xs, Scal x) (l : xs.length ≤ 10) (i : Nat) : (numB xs.length ++ ((xs.take i).map valB).flatten).length ≤ 2300 := by
  have h1 := flat_len (xs := (xs.take i).map valB) (b := 222) fun y m => by
    obtain ⟨x, mx, rfl⟩ := List.mem_map.mp m
    exact valB_len (h x (List.mem_of_mem_take mx))
  rw [List.length_map, List.length_take] at h1
  have h2 := numB_20 (n := xs.length) (Nat.lt_of_le_of_lt l (by decide))
  rw [List.length_append]
  have h3 : min i xs.length * 222 ≤ 10 * 222 := Nat.mul_le_mul_right _ (by omega)
  omega
theorem ok_wrow {f : Addr} {fd : FuncData} (F : Fun K "write_row" "write_row" swrite_row f fd) (T : Bl mg)
    (Dwrite_number : Kn P w K mg base 1 "write_number" ["number"] spNumber)
    (Dwrite_value : Kn P w K mg base 3 "write_value" ["value"] spVB) :
    FnOk P w K mg base CX0 4 f fd ["row"] (spRB K) := by
  refine F.ok scwrite_row (fun vs H Q E h => ?_) (fun cdv A outer s H vs Q E hr h => ?_)
  · obtain ⟨a, xs, rfl, _⟩ := h
    rfl
  · obtain ⟨a, xs, rfl, hx, sx, lx, q⟩ := h
    refine ⟨_, (pss_cons (ps_set (i := 1) scwrite_row.nd rfl (.inl rfl) (pe_kn Dwrite_number hr (pa_cons (pe_callB call_len_seq (by rfl) T.len PySem.boot_len (pa_cons (pv 0) pa_nil)) pa_nil)))
      (pss_cons (ps_for PassesOwn.never rfl (pi_tup (pv 0)) (pg_name (i := 2) scwrite_row.nd rfl (.inl rfl)) (pss_one (ps_expr (pe_bm PySem.F.plainAttrs_list PySem.F.slot_list_extend PySem.F.type_list_extend mt_extend (pv 1) (pa_cons (pe_kn Dwrite_value hr (pa_cons (pv 2) pa_nil)) pa_nil)))))
      (pss_one (ps_ret (pv 1))))), ?_⟩
    refine ⟨_, rfl, a, xs, rfl, .inr hx, xs.length, rfl, Nat.lt_of_le_of_lt lx (by decide), fun H1 o sm no ho => ?_⟩
    refine ⟨_, rfl, a, rfl, ⟨_, Tk.same sm _ _ hx⟩, for_tup (K := K) (a := a) (xs := xs) (fun i σ H4 => ∃ y2 : Option V, σ = [some (.ref a), some (.ref o), y2] ∧ Same H H4 ∧ H4 o = some (.lst ((numB xs.length ++ ((xs.take i).map valB).flatten).map V.int)))
      ⟨none, rfl, sm, by rw [ho]; simp⟩ (fun i σ H4 hi hP => ?_) (fun i x σ H4 hi hP => ?_) (fun σ H4 hP => ?_)⟩
    · obtain ⟨y2, _, s4, _⟩ := hP
      exact Tk.same s4 _ _ hx
    · obtain ⟨y2, rfl, s4, eo⟩ := hP
      refine ⟨_, rfl, .inl ⟨rfl, _, .inl (.inl eo)⟩, _, rfl, x, rfl, sx x (List.mem_of_getElem? hi), fun H5 p s5 np hp => ?_⟩
      refine ⟨o, p, _, _, rfl, rfl, s5 _ _ eo, hp, ?_, _, rfl, Same.over (s4.trans s5) no, ?_⟩
      · rw [← List.length_append, ← List.map_append, List.length_map, ← row_pre hi]
        exact Nat.le_trans (row_pre_len sx lx _) (by decide)
      · rw [upd_same, row_pre hi, ← List.map_append]
    · obtain ⟨y2, rfl, s4, eo⟩ := hP
      rw [List.take_length, ← rowB_eq] at eo
      exact ⟨_, rfl, q _ _ s4 no eo⟩
end
end K1
namespace K1
open PySem PySem.Spec PyProof.Rows L2 Ow
abbrev s_law_listed : Stmt := topS 18
abbrev N_law_listed : List Str := ["parts", "data", "part"]
theorem sc_law_listed : FnScope N_law_listed ["parts"] (defScope s_law_listed) := ⟨rfl, rfl, rfl, by decide +kernel, rfl, by decide +kernel, by decide +kernel⟩
abbrev s_law_string : Stmt := topS 22
abbrev N_law_string : List Str := ["text", "chars", "codes", "char"]
theorem sc_law_string : FnScope N_law_string ["text"] (defScope s_law_string) := ⟨rfl, rfl, rfl, by decide +kernel, rfl, by decide +kernel, by decide +kernel⟩
abbrev s_law_value_bytes : Stmt := topS 23
abbrev N_law_value_bytes : List Str := ["value"]
theorem sc_law_value_bytes : FnScope N_law_value_bytes ["value"] (defScope s_law_value_bytes) := ⟨rfl, rfl, rfl, by decide +kernel, rfl, by decide +kernel, by decide +kernel⟩
abbrev s_law_row_bytes : Stmt := topS 24
abbrev N_law_row_bytes : List Str := ["row", "value"]
theorem sc_law_row_bytes : FnScope N_law_row_bytes ["row"] (defScope s_law_row_bytes) := ⟨rfl, rfl, rfl, by decide +kernel, rfl, by decide +kernel, by decide +kernel⟩
/-- the lists of ints at the addresses -/
def Parts (H : Hp) (qs : List (Addr × List Int)) : Prop := ∀ t ∈ qs, H t.1 = some (.lst (t.2.map V.int))
def refs (qs : List (Addr × List Int)) : List V := qs.map fun t => .ref t.1
theorem Parts.same {H H' : Hp} {qs : List (Addr × List Int)} (s : Same H H') (h : Parts H qs) : Parts H' qs := fun t m => s _ _ (h t m)
theorem refs_get {qs : List (Addr × List Int)} {i : Nat} {x : V} (h : (refs qs)[i]? = some x) : ∃ t, qs[i]? = some t ∧ x = .ref t.1 := by
  unfold refs at h
  rw [List.getElem?_map] at h
  cases e : qs[i]? with
  | none => rw [e] at h; cases h
  | some t => rw [e] at h; exact ⟨t, rfl, (Option.some.inj h).symm⟩
theorem refs_snoc {qs : List (Addr × List Int)} {t : Addr × List Int} : refs (qs ++ [t]) = refs qs ++ [.ref t.1] := by
  unfold refs
  rw [List.map_append]
  rfl
def spListed : Sp := fun vs H Q _ => ∃ (a : Addr) (qs : List (Addr × List Int)), vs = [.ref a] ∧ H a = some (.lst (refs qs)) ∧ Parts H qs ∧ qs.length ≤ 300 ∧ (∀ t ∈ qs, t.2.length ≤ 300) ∧
  MkL H Q (listB (qs.map (·.2)))
abbrev CH : Str := PySem.Str.ofString " !\"#$&'()*+,-./0123456789:;<=>?@ABCDEFGHIJKLMNOPQRSTUVWXYZ[\\]^_`abcdefghijklmnopqrstuvwxyz{|}~"
def chIx (c : Nat) : Nat := if c < 37 then c - 32 else c - 33
theorem ch_at0 : ∀ c, c < 127 → 32 ≤ c → c ≠ 37 → (Builtin.Str.occurrences CH ⟨#[c]⟩ 0 CH.length 1).head? = some (chIx c) := by decide +kernel
theorem ch_at {c : Nat} (h : c < 127) (h1 : 32 ≤ c) (h2 : c ≠ 37) : ∃ rest, Builtin.Str.occurrences CH ⟨#[c]⟩ 0 CH.length 1 = chIx c :: rest := by
  have := ch_at0 c h h1 h2
  cases e : Builtin.Str.occurrences CH ⟨#[c]⟩ 0 CH.length 1 with
  | nil => rw [e] at this; cases this
  | cons x r =>
    rw [e] at this
    exact ⟨r, by rw [Option.some.inj this]⟩
theorem ch_val {c : Nat} (h1 : 32 ≤ c) (h2 : c ≠ 37) : (32 : Int) + ((chIx c : Nat) : Int) + (if decide ((4 : Int) < ((chIx c : Nat) : Int)) = true then 1 else 0) = (c : Int) := by
  unfold chIx
  by_cases h : c < 37
  · rw [if_pos h, if_neg (by simp; omega)]
    omega
  · rw [if_neg h, if_pos (by simp; omega)]
    omega
theorem flat1 (xs : List Int) : (xs.map fun x => [x]).flatten = xs := by
  induction xs with
  | nil => rfl
  | cons x xs ih => rw [List.map_cons, List.flatten_cons, ih]; rfl
theorem listed_str (z : Str) : listB ((cpB z).map fun x => [x]) = strB z := by
  unfold listB strB
  rw [flat1, List.length_map, cpB_len]
theorem listed_pre {qs : List (Addr × List Int)} {i : Nat} {t : Addr × List Int} (h : qs[i]? = some t) :
    numB qs.length ++ ((qs.take (i + 1)).map (·.2)).flatten = (numB qs.length ++ ((qs.take i).map (·.2)).flatten) ++ t.2 := by
  rw [take_snoc h, List.map_append, List.flatten_append, List.append_assoc]
  simp
theorem listed_pre_len {qs : List (Addr × List Int)} (h : ∀ t ∈ qs, t.2.length ≤ 300) (l : qs.length ≤ 300) (i : Nat) : (numB qs.length ++ ((qs.take i).map (·.2)).flatten).length ≤ 90021 := by
  have h1 := flat_len (xs := (qs.take i).map (·.2)) (b := 300) fun y m => by
    obtain ⟨x, mx, rfl⟩ := List.mem_map.mp m
    exact h x (List.mem_of_mem_take mx)
  rw [List.length_map, List.length_take] at h1
  have h2 := numB_20 (n := qs.length) (Nat.lt_of_le_of_lt l (by decide))
  rw [List.length_append]
  have h3 : min i qs.length * 300 ≤ 300 * 300 := Nat.mul_le_mul_right _ (by omega)
  omega
section
variable {P : Program} {w : World} {K : PySem.W.Frag} {mg : Str → Option Value} {base : Heap}
theorem ok_listed {f : Addr} {fd : FuncData} (F : Fun K "_law_listed" "_law_listed" s_law_listed f fd) (T : Bl mg)
    (D_law_number : Kn P w K mg base 1 "_law_number" ["number"] spNumber) :
    FnOk P w K mg base CX0 2 f fd ["parts"] spListed := by
  refine F.ok sc_law_listed (fun vs H Q E h => ?_) (fun cdv A outer s H vs Q E hr h => ?_)
  · obtain ⟨a, qs, rfl, _⟩ := h
    rfl
  · obtain ⟨a, qs, rfl, ha, hp, lq, bq, q⟩ := h
    refine ⟨_, (pss_cons (ps_set (i := 1) sc_law_listed.nd rfl (.inl rfl) (pe_kn D_law_number hr (pa_cons (pe_callB call_len_seq (by rfl) T.len PySem.boot_len (pa_cons (pv 0) pa_nil)) pa_nil)))
      (pss_cons (ps_for PassesOwn.never rfl (pi_list (pv 0)) (pg_name (i := 2) sc_law_listed.nd rfl (.inl rfl)) (pss_one (ps_set (i := 1) sc_law_listed.nd rfl (.inl rfl) (pe_op op_cat (pv 1) (pv 2)))))
      (pss_one (ps_ret (pv 1))))), ?_⟩
    have le : (refs qs).length = qs.length := by unfold refs; rw [List.length_map]
    refine ⟨_, rfl, a, refs qs, rfl, .inl (SqL.of ha), qs.length, by rw [le]; rfl, Nat.lt_of_le_of_lt lq (by decide), fun H1 o sm no ho => ?_⟩
    refine ⟨_, rfl, a, rfl, ⟨_, SqL.of (sm _ _ ha)⟩, for_list (K := K) (a := a) (xs := refs qs) (fun i σ H4 => ∃ (o : Addr) (y2 : Option V), σ = [some (.ref a), some (.ref o), y2] ∧ Same H H4 ∧ H o = none ∧
        H4 o = some (.lst ((numB qs.length ++ ((qs.take i).map (·.2)).flatten).map V.int)))
      ⟨o, none, rfl, sm, no, by rw [ho]; simp⟩ (fun i σ H4 hi hP => ?_) (fun i x σ H4 hi hP => ?_) (fun σ H4 hP => ?_)⟩
    · obtain ⟨o, y2, _, s4, _⟩ := hP
      exact SqL.of (s4 _ _ ha)
    · obtain ⟨o, y2, rfl, s4, no, eo⟩ := hP
      obtain ⟨t, et, rfl⟩ := refs_get hi
      have mt := List.mem_of_getElem? et
      refine ⟨_, rfl, _, rfl, o, t.1, _, _, rfl, rfl, eo, s4 _ _ (hp t mt), ?_, fun u nu => ⟨u, _, rfl, s4.trans (Same.new nu), s4.free nu, ?_⟩⟩
      · rw [← List.length_append, ← List.map_append, List.length_map, ← listed_pre et]
        exact Nat.le_trans (listed_pre_len bq lq _) (by decide)
      · rw [upd_same, listed_pre et, ← List.map_append]
    · obtain ⟨o, y2, rfl, s4, no, eo⟩ := hP
      have e2 : qs.take (refs qs).length = qs := by rw [le, List.take_length]
      rw [e2] at eo
      refine ⟨_, rfl, q _ _ s4 no ?_⟩
      rw [eo]
      unfold listB
      rw [List.length_map]
theorem ok_lstring {f : Addr} {fd : FuncData} (F : Fun K "_law_string" "_law_string" s_law_string f fd) (T : Bl mg)
    (D_law_listed : Kn P w K mg base 2 "_law_listed" ["parts"] spListed) :
    FnOk P w K mg base CX0 3 f fd ["text"] spString := by
  refine F.ok sc_law_string (fun vs H Q E h => ?_) (fun cdv A outer s H vs Q E hr h => ?_)
  · obtain ⟨z, rfl, _⟩ := h
    rfl
  · obtain ⟨z, rfl, pz, lz, q⟩ := h
    refine ⟨_, (pss_cons (ps_set (i := 1) sc_law_string.nd rfl (.inl rfl) pe_str)
      (pss_cons (ps_set (i := 2) sc_law_string.nd rfl (.inl rfl) (pe_lst pa_nil))
      (pss_cons (ps_for PassesOwn.never rfl (pi_str (pv 0)) (pg_name (i := 3) sc_law_string.nd rfl (.inl rfl)) (pss_one (ps_expr (pe_bm PySem.F.plainAttrs_list PySem.F.slot_list_append PySem.F.type_list_append mt_append (pv 2) (pa_cons (pe_lst (pa_cons (pe_op op_add (pe_op op_add pe_int (pe_m1 PySem.F.slot_str_index PySem.F.type_str_index mt_sindex (pv 1) (pv 3))) (pe_callTy call_int1 (by rfl) T.int (by decide +kernel) (pa_cons (pe_cmpR op_gt (pe_m1 PySem.F.slot_str_index PySem.F.type_str_index mt_sindex (pv 1) (pv 3)) pe_int (nomark _)) pa_nil))) pa_nil)) pa_nil)))))
      (pss_one (ps_ret (pe_kn D_law_listed hr (pa_cons (pv 2) pa_nil))))))), ?_⟩
    refine ⟨sz 0, fun o no => ?_⟩
    refine ⟨_, rfl, z, rfl, for_str (x := z) (fun i σ H4 => ∃ (y3 : Option V) (qs : List (Addr × List Int)), σ = [some (.str z), some (.str CH), some (.ref o), y3] ∧ Same H H4 ∧ H4 o = some (.lst (refs qs)) ∧
        Parts H4 qs ∧ (∀ t ∈ qs, t.1 ≠ o) ∧ qs.map (·.2) = ((cpB z).take i).map (fun x => [x]) ∧ qs.length = i)
      ⟨none, [], rfl, Same.new no, upd_same, (fun _ m => nomatch m), (fun _ m => nomatch m), rfl, rfl⟩ (fun i c σ H4 hc hP => ?_) (fun σ H4 hP => ?_)⟩
    · obtain ⟨y3, qs, rfl, s4, eo, pq, nq, mq, lq⟩ := hP
      have mc : c ∈ z.cps.toList := List.mem_of_getElem? (i := i) (by rw [Array.getElem?_toList]; exact hc)
      obtain ⟨c1, c2, c3⟩ := pz c mc
      obtain ⟨rest, er⟩ := ch_at c2 c1 c3
      have iz : i < z.length := (Array.getElem?_eq_some_iff.mp hc).1
      refine ⟨_, rfl, .inl ⟨rfl, _, .inl (.inl eo)⟩, _, rfl, ⟨_, rfl⟩, _, rfl, CH, ⟨#[c]⟩, chIx c, rest, rfl, rfl, er, 32, _, rfl, rfl, _, rfl, ⟨_, rfl⟩, _, rfl, CH, ⟨#[c]⟩, chIx c, rest, rfl, rfl, er, _, _, rfl, rfl,
        .inr ⟨_, rfl, _, _, rfl, rfl, sz 1, fun t nt => ⟨o, refs qs, _, rfl, rfl, (Same.new nt) _ _ eo, ?_, ?_⟩⟩⟩
      · unfold refs
        rw [List.length_map]
        exact small (m := 1000) (by omega) (by decide)
      · have no4 : t ≠ o := fun z => by rw [z, eo] at nt; cases nt
        refine ⟨_, qs ++ [(t, [(c : Int)])], rfl, Same.over (s4.trans (Same.new nt)) no, ?_, ?_, ?_, ?_, ?_⟩
        · rw [upd_same, refs_snoc]
        · intro u mu
          rcases List.mem_append.mp mu with m | m
          · rw [upd_ne (nq u m), upd_ne (ne_of_none (pq u m) nt)]
            exact pq u m
          · rw [List.mem_singleton.mp m, upd_ne no4, upd_same]
            show some (HO.lst [V.int _]) = _
            rw [ch_val c1 c3]
            rfl
        · intro u mu
          rcases List.mem_append.mp mu with m | m
          · exact nq u m
          · rw [List.mem_singleton.mp m]
            exact no4
        · rw [List.map_append, mq, cp_take hc, List.map_append]
          rfl
        · rw [List.length_append, lq]
          rfl
    · obtain ⟨y3, qs, rfl, s4, eo, pq, nq, mq, lq⟩ := hP
      have e : (cpB z).take z.cps.size = cpB z := List.take_of_length_le (by rw [cpB_len]; exact Nat.le_refl _)
      rw [e] at mq
      have lz' : z.cps.size ≤ 200 := lz
      refine ⟨_, rfl, o, qs, rfl, eo, pq, by omega, fun t m => ?_, fun H5 p s5 np hp => ?_⟩
      · have m2 : t.2 ∈ qs.map (·.2) := List.mem_map.mpr ⟨t, m, rfl⟩
        rw [mq] at m2
        obtain ⟨x, _, ex⟩ := List.mem_map.mp m2
        rw [← ex]
        show 1 ≤ 300
        decide
      · refine q _ _ (s4.trans s5) (s4.free np) ?_
        rw [hp, mq, listed_str]
theorem ok_lvalb {f : Addr} {fd : FuncData} (F : Fun K "_law_value_bytes" "_law_value_bytes" s_law_value_bytes f fd) (T : Bl mg)
    (D_law_number : Kn P w K mg base 1 "_law_number" ["number"] spNumber)
    (D_law_string : Kn P w K mg base 3 "_law_string" ["text"] spString) :
    FnOk P w K mg base CX0 4 f fd ["value"] spVB := by
  refine F.ok sc_law_value_bytes (fun vs H Q E h => ?_) (fun cdv A outer s H vs Q E hr h => ?_)
  · obtain ⟨i, rfl, _⟩ := h
    rfl
  · obtain ⟨x, rfl, sx, q⟩ := h
    refine ⟨_, (pss_cons (ps_if (pt_val (pe_callB call_isi (by rfl) T.isinstance (by decide +kernel) (pa_cons (pv 0) (pa_cons (pe_ty "int" (by rfl) T.int (by decide +kernel)) pa_nil)))) (pss_one (ps_ret (pe_op op_cat (pe_lst (pa_cons pe_int (pa_cons (pe_callTy call_int1 (by rfl) T.int (by decide +kernel) (pa_cons (pe_cmpR op_lt (pv 0) pe_int (nomark _)) pa_nil)) pa_nil))) (pe_kn D_law_number hr (pa_cons (pe_callB call_abs (by rfl) T.abs (by decide +kernel) (pa_cons (pv 0) pa_nil)) pa_nil))))) pss_nil)
      (pss_one (ps_ret (pe_op op_cat (pe_lst (pa_cons pe_int pa_nil)) (pe_kn D_law_string hr (pa_cons (pv 0) pa_nil)))))), ?_⟩
    have fin : ∀ (t : Addr) (nt : H t = none) (ss : List Int) (ls : ss.length ≤ 2) (bs : List Int) (hs : valB x = ss ++ bs) (H1 : Hp) (p : Addr), Same (upd H t (.lst (ss.map V.int))) H1 → (upd H t (.lst (ss.map V.int))) p = none → H1 p = some (.lst (bs.map V.int)) →
        rCat (.ref t) (.ref p) H1 Q := fun t nt ss ls bs hs H1 p sm np hp => by
      have l := valB_len sx
      rw [hs, List.length_append] at l
      refine ⟨t, p, ss.map V.int, bs.map V.int, rfl, rfl, sm _ _ upd_same, hp, ?_, fun u nu => ?_⟩
      · rw [List.length_map, List.length_map]
        exact sz _ (by omega)
      · refine q _ _ (((Same.new nt).trans sm).trans (Same.new nu)) (((Same.new nt).trans sm).free nu) ?_
        rw [upd_same, hs, List.map_append]
    rcases sx with ⟨i, rfl, hi⟩ | ⟨z, rfl, pz, lz⟩
    · refine ⟨_, rfl, _, _, .type "int", .type "int", true, rfl, .ty _, .base (.int i), kit_ty (by decide +kernel), ?_⟩
      refine ⟨_, rfl, iteT ?_⟩
      refine ⟨_, rfl, _, _, rfl, rfl, .inr ⟨_, rfl, sz 2, fun t nt => ⟨_, rfl, i, rfl, i.natAbs, by rw [abs_eq]; rfl, hi, fun H1 p sm np hp => ?_⟩⟩⟩
      refine fin t nt [0, if decide (i < 0) = true then 1 else 0] (Nat.le_refl _) (numB i.natAbs) ?_ H1 p sm np hp
      show 0 :: (if i < 0 then 1 else 0) :: numB i.natAbs = _
      by_cases e : i < 0
      · rw [if_pos e, if_pos (decide_eq_true e)]; rfl
      · rw [if_neg e, if_neg (fun z => e (of_decide_eq_true z))]; rfl
    · refine ⟨_, rfl, _, _, .type "str", .type "int", false, rfl, .ty _, .base (.str z), kit_ty (by decide +kernel), ?_⟩
      refine ⟨_, rfl, iteF ?_⟩
      exact ⟨sz 1, fun t nt => ⟨_, rfl, z, rfl, pz, lz, fun H1 p sm np hp => fin t nt [1] (by decide) _ rfl H1 p sm np hp⟩⟩
theorem ok_lrowb {f : Addr} {fd : FuncData} (F : Fun K "_law_row_bytes" "_law_row_bytes" s_law_row_bytes f fd) (T : Bl mg)
    (D_law_listed : Kn P w K mg base 2 "_law_listed" ["parts"] spListed)
    (D_law_value_bytes : Kn P w K mg base 4 "_law_value_bytes" ["value"] spVB) :
    FnOk P w K mg base CX0 5 f fd ["row"] (spRB K) := by
  refine F.ok sc_law_row_bytes (fun vs H Q E h => ?_) (fun cdv A outer s H vs Q E hr h => ?_)
  · obtain ⟨a, xs, rfl, _⟩ := h
    rfl
  · obtain ⟨a, xs, rfl, hx, sx, lx, q⟩ := h
    refine ⟨_, (pss_one (ps_ret (pe_kn D_law_listed hr (pa_cons (pe_lc (own := [("value", 1)]) (g := gName 1) rfl sc_law_row_bytes.nd (pi_tup (pv 0)) (blkOk_by (own := [("value", 1)]) (N := N_law_row_bytes) (sc := defScope s_law_row_bytes) (by decide +kernel)) (fun _ _ _ _ _ => pg_name (i := 1) sc_law_row_bytes.nd rfl (Or.inl rfl)) (fun _ _ _ _ _ => pts_nil) (fun _ _ _ _ _ => (pe_kn D_law_value_bytes hr (pa_cons (pv 1) pa_nil)))) pa_nil)))), ?_⟩
    refine ⟨_, rfl, a, rfl, ⟨_, hx⟩, fun D nD => lc_tup (K := K) (a := a) (xs := xs) (fun i H4 => ∃ qs : List (Addr × List Int), Same H H4 ∧ H4 D = some (.lst (refs qs)) ∧
        Parts H4 qs ∧ (∀ t ∈ qs, t.1 ≠ D) ∧ qs.map (·.2) = (xs.take i).map valB ∧ qs.length = i) ⟨[], Same.new nD, upd_same, (fun _ m => nomatch m), (fun _ m => nomatch m), rfl, rfl⟩ (fun i H4 hi hP => ?_) (fun i x H4 hi hP => ?_) (fun H4 hP => ?_)⟩
    · obtain ⟨qs, sm, _⟩ := hP
      exact Tk.same sm _ _ hx
    · obtain ⟨qs, sm, eD, pq, nq, mq, lq⟩ := hP
      have il : i < xs.length := (List.getElem?_eq_some_iff.mp hi).1
      refine ⟨rfl, ?_⟩
      refine ⟨_, rfl, x, rfl, sx x (List.mem_of_getElem? hi), fun H5 p s5 np hp => ?_⟩
      have no4 : p ≠ D := fun z => by rw [z, eD] at np; cases np
      refine ⟨refs qs, s5 _ _ eD, ?_, qs ++ [(p, valB x)], Same.over (sm.trans s5) nD, ?_, ?_, ?_, ?_, ?_⟩
      · unfold refs
        rw [List.length_map]
        exact small (m := 1000) (by omega) (by decide)
      · rw [upd_same, refs_snoc]
      · intro u mu
        rcases List.mem_append.mp mu with m | m
        · rw [upd_ne (nq u m)]
          exact s5 _ _ (pq u m)
        · rw [List.mem_singleton.mp m, upd_ne no4]
          exact hp
      · intro u mu
        rcases List.mem_append.mp mu with m | m
        · exact nq u m
        · rw [List.mem_singleton.mp m]
          exact no4
      · rw [List.map_append, mq, take_snoc hi, List.map_append]
        rfl
      · rw [List.length_append, lq]
        rfl
    · obtain ⟨qs, sm, eD, pq, nq, mq, lq⟩ := hP
      rw [List.take_length] at mq
      refine ⟨D, qs, rfl, eD, pq, by omega, fun t m => ?_, fun H5 p s5 np hp => ?_⟩
      · have m2 : t.2 ∈ qs.map (·.2) := List.mem_map.mpr ⟨t, m, rfl⟩
        rw [mq] at m2
        obtain ⟨x, mx, ex⟩ := List.mem_map.mp m2
        rw [← ex]
        exact Nat.le_trans (valB_len (sx x mx)) (by decide)
      · refine q _ _ (sm.trans s5) (sm.free np) ?_
        rw [hp, mq]
        rfl
end
end K1
namespace K1
open PySem PySem.Spec PyProof.Rows L2 Ow
abbrev s_law_small : Stmt := topS 27
abbrev N_law_small : List Str := ["state", "pick"]
theorem sc_law_small : FnScope N_law_small ["state"] (defScope s_law_small) := ⟨rfl, rfl, rfl, by decide +kernel, rfl, by decide +kernel, by decide +kernel⟩
abbrev s_law_long_row : Stmt := topS 28
abbrev N_law_long_row : List Str := ["state", "text", "more"]
theorem sc_law_long_row : FnScope N_law_long_row ["state"] (defScope s_law_long_row) := ⟨rfl, rfl, rfl, by decide +kernel, rfl, by decide +kernel, by decide +kernel⟩
abbrev sbucket_of_values : Stmt := topS 9
abbrev Nbucket_of_values : List Str := ["values", "buckets", "number", "byte"]
theorem scbucket_of_values : FnScope Nbucket_of_values ["values", "buckets"] (defScope sbucket_of_values) := ⟨rfl, rfl, rfl, by decide +kernel, rfl, by decide +kernel, by decide +kernel⟩
abbrev s_law_bucket : Stmt := topS 26
abbrev N_law_bucket : List Str := ["values", "buckets", "number", "byte"]
theorem sc_law_bucket : FnScope N_law_bucket ["values", "buckets"] (defScope s_law_bucket) := ⟨rfl, rfl, rfl, by decide +kernel, rfl, by decide +kernel, by decide +kernel⟩
def spLong : Sp := fun vs H Q _ => ∃ p d : Addr, vs = [.ref p] ∧ Rng d H p ∧
  Drw p d H Q fun x H' => ∃ (q : Addr) (xs : List V), x = .ref q ∧ H' q = some (.tup xs) ∧ xs.length = 3 ∧ ∀ y ∈ xs, Scal y
def spBuck (K : PySem.W.Frag) : Sp := fun vs H Q _ => ∃ (a : Addr) (xs : List V) (b : Int), vs = [.ref a, .int b] ∧ SqT K H a xs ∧ (∀ x ∈ xs, Scal x) ∧ xs.length ≤ 10 ∧ 0 < b ∧
  ∀ H', Same H H' → Q (.int (buk (rowB xs) % b)) H'
theorem q_ok : Pr (Txt.mul (PySem.Str.ofString "q") 30) ∧ (Txt.mul (PySem.Str.ofString "q") 30).length ≤ 200 := by decide +kernel
theorem w_ok : ∀ k, k < 7 → Pr (Txt.mul (PySem.Str.ofString "w") (24 + ((k : Nat) : Int))) ∧ (Txt.mul (PySem.Str.ofString "w") (24 + ((k : Nat) : Int))).length ≤ 200 := by decide +kernel
theorem take_fold {α β : Type} {xs : List β} {i : Nat} {x : β} (h : xs[i]? = some x) (f : α → β → α) (a : α) : (xs.take (i + 1)).foldl f a = f ((xs.take i).foldl f a) x := by
  rw [take_snoc h, List.foldl_append]
  rfl
theorem ints_get {ns : List Int} {i : Nat} {x : V} (h : (ns.map V.int)[i]? = some x) : ∃ n, ns[i]? = some n ∧ x = .int n := by
  rw [List.getElem?_map] at h
  cases e : ns[i]? with
  | none => rw [e] at h; cases h
  | some t => rw [e] at h; exact ⟨t, rfl, (Option.some.inj h).symm⟩
section
variable {P : Program} {w : World} {K : PySem.W.Frag} {mg : Str → Option Value} {base : Heap}
theorem ok_small {f : Addr} {fd : FuncData} (F : Fun K "_law_small" "_law_small" s_law_small f fd) (T : Bl mg)
    (D_law_next : Kn P w K mg base 3 "_law_next" ["state", "limit"] spNext)
    (D_law_value : Kn P w K mg base 5 "_law_value" ["state"] spValue) :
    FnOk P w K mg base CX0 6 f fd ["state"] spValue := by
  refine F.ok sc_law_small (fun vs H Q E h => ?_) (fun cdv A outer s H vs Q E hr h => ?_)
  · obtain ⟨p, d, rfl, _⟩ := h
    rfl
  · obtain ⟨p, d, rfl, rg, q⟩ := h
    refine ⟨_, (pss_cons (ps_set (i := 1) sc_law_small.nd rfl (.inl rfl) (pe_kn D_law_next hr (pa_cons (pv 0) (pa_cons pe_int pa_nil))))
      (pss_cons (ps_if (pt_cmpR op_lt (pv 1) pe_int (nomark _)) (pss_one (ps_ret (pe_kn D_law_next hr (pa_cons (pv 0) (pa_cons pe_int pa_nil))))) pss_nil)
      (pss_cons (ps_if (pt_cmpR op_lt (pv 1) pe_int (nomark _)) (pss_one (ps_ret (pe_ix ix_list (pe_lst (pa_cons pe_str (pa_cons pe_str (pa_cons pe_str (pa_cons pe_str pa_nil))))) (pe_kn D_law_next hr (pa_cons (pv 0) (pa_cons pe_int pa_nil))) (fun _ _ => rfl)))) pss_nil)
      (pss_one (ps_ret (pe_kn D_law_value hr (pa_cons (pv 0) pa_nil))))))), ?_⟩
    refine ⟨_, rfl, p, d, 12, rfl, by decide, rg, ?_⟩
    rintro x1 H1 ⟨b, rfl, b0, b1⟩ gw1 rg1
    refine ⟨_, rfl, _, _, rfl, rfl, _, rfl, ite2 (fun e => ?_) (fun e => ?_)⟩
    · refine ⟨_, rfl, p, d, 6, rfl, by decide, rg1, ?_⟩
      rintro x2 H2 ⟨c, rfl, c0, c1⟩ gw2 rg2
      exact q _ _ (.inl ⟨_, rfl, by omega⟩) (gw1.trans gw2) rg2
    refine ⟨_, rfl, _, _, rfl, rfl, _, rfl, ite2 (fun e => ?_) (fun e => ?_)⟩
    · refine ⟨by decide, fun o no => ⟨_, rfl, p, d, 4, rfl, by decide, rg1.same (Same.new no), ?_⟩⟩
      rintro x5 H5 ⟨v, rfl, v0, v1⟩ gw5 rg5
      obtain ⟨y, hy, my⟩ := at_in (xs := [V.str "a", V.str "b", V.str "ab", V.str "lamp"]) v0 v1
      refine ⟨o, _, v, y, rfl, rfl, SqL.of (gw5.keep upd_same (rg1.free no).1), hy, q _ _ ?_ ((gw1.trans (Gw.new no)).trans gw5) rg5⟩
      simp only [List.mem_cons, List.not_mem_nil, or_false] at my
      rcases my with rfl | rfl | rfl | rfl <;> exact .inr ⟨_, rfl, by decide +kernel, by decide +kernel⟩
    · refine ⟨_, rfl, p, d, rfl, rg1, ?_⟩
      rintro x2 H2 sx gw2 rg2
      exact q _ _ sx (gw1.trans gw2) rg2
theorem ok_long {f : Addr} {fd : FuncData} (F : Fun K "_law_long_row" "_law_long_row" s_law_long_row f fd) (T : Bl mg)
    (D_law_next : Kn P w K mg base 3 "_law_next" ["state", "limit"] spNext) :
    FnOk P w K mg base CX0 4 f fd ["state"] spLong := by
  refine F.ok sc_law_long_row (fun vs H Q E h => ?_) (fun cdv A outer s H vs Q E hr h => ?_)
  · obtain ⟨p, d, rfl, _⟩ := h
    rfl
  · obtain ⟨p, d, rfl, rg, q⟩ := h
    refine ⟨_, (pss_cons (ps_set (i := 1) sc_law_long_row.nd rfl (.inl rfl) (pe_op op_mul_str pe_str pe_int))
      (pss_cons (ps_set (i := 2) sc_law_long_row.nd rfl (.inl rfl) (pe_op op_mul_str pe_str (pe_op op_add pe_int (pe_kn D_law_next hr (pa_cons (pv 0) (pa_cons pe_int pa_nil))))))
      (pss_one (ps_ret (pe_tup (pa_cons (pv 1) (pa_cons (pv 2) (pa_cons (pe_kn D_law_next hr (pa_cons (pv 0) (pa_cons pe_int pa_nil))) pa_nil)))))))), ?_⟩
    refine ⟨_, 30, rfl, rfl, by decide +kernel, by decide, by decide +kernel, ?_⟩
    refine ⟨_, rfl, p, d, 7, rfl, by decide, rg, ?_⟩
    rintro x1 H1 ⟨b, rfl, b0, b1⟩ gw1 rg1
    have l1 : ((PySem.Str.ofString "w").length : Int) = 1 := by decide +kernel
    refine ⟨_, _, rfl, rfl, _, _, rfl, rfl, by decide +kernel, by omega, ?_, ?_⟩
    · show ((PySem.Str.ofString "w").length : Int) * (24 + b) ≤ 10000
      rw [l1]
      omega
    refine ⟨_, rfl, _, rfl, _, rfl, p, d, 3, rfl, by decide, rg1, ?_⟩
    rintro x2 H2 ⟨c, rfl, c0, c1⟩ gw2 rg2
    refine ⟨sz 3, fun t nt => ?_⟩
    have eb : b = ((b.toNat : Nat) : Int) := by omega
    have wk := w_ok b.toNat (by omega)
    rw [← eb] at wk
    refine q _ _ ⟨t, _, rfl, upd_same, rfl, fun y hy => ?_⟩ (Gw.over (gw1.trans gw2) ((gw1.trans gw2).free nt (rg2.free nt).1)) (rg2.same (Same.new nt))
    simp only [List.mem_cons, List.not_mem_nil, or_false] at hy
    rcases hy with rfl | rfl | rfl
    · exact .inr ⟨_, rfl, q_ok.1, q_ok.2⟩
    · exact .inr ⟨_, rfl, wk.1, wk.2⟩
    · exact .inl ⟨_, rfl, by omega⟩
theorem ok_buck {f : Addr} {fd : FuncData} (F : Fun K "bucket_of_values" "bucket_of_values" sbucket_of_values f fd) (T : Bl mg)
    (Dwrite_row : Kn P w K mg base 4 "write_row" ["row"] (spRB K)) :
    FnOk P w K mg base CX0 5 f fd ["values", "buckets"] (spBuck K) := by
  refine F.ok scbucket_of_values (fun vs H Q E h => ?_) (fun cdv A outer s H vs Q E hr h => ?_)
  · obtain ⟨a, xs, b, rfl, _⟩ := h
    rfl
  · obtain ⟨a, xs, b, rfl, hx, sx, lx, b0, q⟩ := h
    refine ⟨_, (pss_cons (ps_set (i := 2) scbucket_of_values.nd rfl (.inl rfl) pe_int)
      (pss_cons (ps_for PassesOwn.never rfl (pi_list (pe_kn Dwrite_row hr (pa_cons (pv 0) pa_nil))) (pg_name (i := 3) scbucket_of_values.nd rfl (.inl rfl)) (pss_one (ps_set (i := 2) scbucket_of_values.nd rfl (.inl rfl) (pe_op op_mod (pe_op op_add (pe_op op_add (pe_op op_mul pe_int (pv 2)) (pv 3)) pe_int) (pv 1)))))
      (pss_one (ps_ret (pv 2))))), ?_⟩
    refine ⟨_, rfl, a, xs, rfl, hx, sx, lx, fun H1 o sm no ho => ?_⟩
    refine ⟨o, rfl, ⟨_, SqL.of ho⟩, for_list (K := K) (a := o) (xs := (rowB xs).map V.int) (fun i σ H4 => ∃ y3 : Option V, σ = [some (.ref a), some (.int b), some (.int (((rowB xs).take i).foldl (fun g c => (31 * g + c + 1) % b) 0)), y3] ∧ Same H1 H4)
      ⟨none, rfl, Same.refl _⟩ (fun i σ H4 hi hP => ?_) (fun i x σ H4 hi hP => ?_) (fun σ H4 hP => ?_)⟩
    · obtain ⟨y3, _, s4⟩ := hP
      exact SqL.of (s4 _ _ ho)
    · obtain ⟨y3, rfl, s4⟩ := hP
      obtain ⟨c, ec, rfl⟩ := ints_get hi
      refine ⟨_, rfl, 31, _, rfl, rfl, .inl ⟨by decide, by decide⟩, _, rfl, _, _, rfl, rfl, _, _, rfl, rfl, _, rfl, _, _, rfl, rfl, b0, ?_⟩
      exact ⟨_, by rw [take_fold ec]; rfl, s4⟩
    · obtain ⟨y3, rfl, s4⟩ := hP
      rw [List.length_map, List.take_length]
      have e := buk_mod b (rowB xs) 0 0 (by rw [Int.zero_emod])
      refine ⟨_, rfl, ?_⟩
      rw [e]
      exact q _ (sm.trans s4)
theorem ok_lbuck {f : Addr} {fd : FuncData} (F : Fun K "_law_bucket" "_law_bucket" s_law_bucket f fd) (T : Bl mg)
    (D_law_row_bytes : Kn P w K mg base 5 "_law_row_bytes" ["row"] (spRB K)) :
    FnOk P w K mg base CX0 6 f fd ["values", "buckets"] (spBuck K) := by
  refine F.ok sc_law_bucket (fun vs H Q E h => ?_) (fun cdv A outer s H vs Q E hr h => ?_)
  · obtain ⟨a, xs, b, rfl, _⟩ := h
    rfl
  · obtain ⟨a, xs, b, rfl, hx, sx, lx, b0, q⟩ := h
    refine ⟨_, (pss_cons (ps_set (i := 2) sc_law_bucket.nd rfl (.inl rfl) pe_int)
      (pss_cons (ps_for PassesOwn.never rfl (pi_list (pe_kn D_law_row_bytes hr (pa_cons (pv 0) pa_nil))) (pg_name (i := 3) sc_law_bucket.nd rfl (.inl rfl)) (pss_one (ps_set (i := 2) sc_law_bucket.nd rfl (.inl rfl) (pe_op op_add (pe_op op_add (pe_op op_mul pe_int (pv 2)) (pv 3)) pe_int))))
      (pss_one (ps_ret (pe_op op_mod (pv 2) (pv 1)))))), ?_⟩
    refine ⟨_, rfl, a, xs, rfl, hx, sx, lx, fun H1 o sm no ho => ?_⟩
    refine ⟨o, rfl, ⟨_, SqL.of ho⟩, for_list (K := K) (a := o) (xs := (rowB xs).map V.int) (fun i σ H4 => ∃ y3 : Option V, σ = [some (.ref a), some (.int b), some (.int (buk ((rowB xs).take i))), y3] ∧ Same H1 H4)
      ⟨none, rfl, Same.refl _⟩ (fun i σ H4 hi hP => ?_) (fun i x σ H4 hi hP => ?_) (fun σ H4 hP => ?_)⟩
    · obtain ⟨y3, _, s4⟩ := hP
      exact SqL.of (s4 _ _ ho)
    · obtain ⟨y3, rfl, s4⟩ := hP
      obtain ⟨c, ec, rfl⟩ := ints_get hi
      refine ⟨_, rfl, 31, _, rfl, rfl, .inl ⟨by decide, by decide⟩, _, rfl, _, _, rfl, rfl, _, _, rfl, rfl, ?_⟩
      exact ⟨_, by unfold buk; rw [take_fold ec]; rfl, s4⟩
    · obtain ⟨y3, rfl, s4⟩ := hP
      rw [List.length_map, List.take_length]
      exact ⟨_, rfl, _, rfl, _, b, rfl, rfl, b0, q _ (sm.trans s4)⟩
end
end K1
namespace K1
open PySem PySem.Spec PyProof.Rows L2 Ow
abbrev s_law_pack : Stmt := topS 25
abbrev N_law_pack : List Str := ["rows", "sectors", "current", "count", "row", "code", "k"]
theorem sc_law_pack : FnScope N_law_pack ["rows"] (defScope s_law_pack) := ⟨rfl, rfl, rfl, by decide +kernel, rfl, by decide +kernel, by decide +kernel⟩
def rrefs (rs : List (Addr × List V)) : List V := rs.map fun t => .ref t.1
def RowsOk (K : PySem.W.Frag) (H : Hp) (rs : List (Addr × List V)) : Prop := ∀ t ∈ rs, SqT K H t.1 t.2 ∧ (∀ x ∈ t.2, Scal x) ∧ t.2.length ≤ 10
def codes (rs : List (Addr × List V)) : List (List Int) := rs.map fun t => rowB t.2
def PkRes (H : Hp) (x : V) (H' : Hp) : Option (List (List Int)) → Prop
  | none => x = .non
  | some ss => ∃ (p : Addr) (ts : List (Addr × List Int)), x = .ref p ∧ H p = none ∧ H' p = some (.lst (refs ts)) ∧ ts.map (·.2) = ss ∧ Parts H' ts ∧ (∀ t ∈ ts, H t.1 = none ∧ t.1 ≠ p) ∧
      ss.length ≤ 100 ∧ ∀ s ∈ ss, s.length ≤ 100
def spPack (K : PySem.W.Frag) : Sp := fun vs H Q _ => ∃ (a : Addr) (rs : List (Addr × List V)), vs = [.ref a] ∧ SqL K H a (rrefs rs) ∧ RowsOk K H rs ∧ rs.length ≤ 99 ∧
  ∀ x H', Same H H' → PkRes H x H' (packO (codes rs)) → Q x H'
theorem rrefs_get {rs : List (Addr × List V)} {i : Nat} {x : V} (h : (rrefs rs)[i]? = some x) : ∃ t, rs[i]? = some t ∧ x = .ref t.1 := by
  unfold rrefs at h
  rw [List.getElem?_map] at h
  cases e : rs[i]? with
  | none => rw [e] at h; cases h
  | some t => rw [e] at h; exact ⟨t, rfl, (Option.some.inj h).symm⟩
theorem codes_get {rs : List (Addr × List V)} {i : Nat} {t : Addr × List V} (h : rs[i]? = some t) : (codes rs)[i]? = some (rowB t.2) := by
  unfold codes
  rw [List.getElem?_map, h]
  rfl
theorem packO_none {cs : List (List Int)} {c : List Int} (m : c ∈ cs) (h : 63 < c.length) : packO cs = none := by
  unfold packO
  rw [if_neg]
  intro z
  have := List.all_eq_true.mp z c m
  have := of_decide_eq_true this
  omega
theorem packO_some {cs : List (List Int)} (h : ∀ c ∈ cs, c.length ≤ 63) : packO cs = some ((pkAll (pkF cs)).map padS) := by
  unfold packO
  rw [if_pos]
  exact List.all_eq_true.mpr fun c m => decide_eq_true (h c m)
theorem pkF_snoc {cs : List (List Int)} {i : Nat} {c : List Int} (h : cs[i]? = some c) : pkF (cs.take (i + 1)) = pkS (pkF (cs.take i)) c := by
  unfold pkF
  rw [take_fold h]
theorem pkF_ok' {cs : List (List Int)} (h : ∀ c ∈ cs, c.length ≤ 63) : PkOk cs.length (pkF cs) := by
  have := pkF_ok cs 0 pk0 pk0_ok h
  rwa [Nat.zero_add] at this
theorem padS_len {s : List Int} (h : s.length ≤ 64) : (padS s).length = 64 := by
  unfold padS
  rw [List.length_append, List.length_replicate]
  omega
theorem pkAll_len {n : Nat} {p : Pk} (h : PkOk n p) : (pkAll p).length ≤ n ∧ ∀ s ∈ pkAll p, s.length ≤ 64 := by
  have h3 := h.l
  unfold pkAll
  by_cases e : p.cnt > 0
  · rw [if_pos e] at h3 ⊢
    refine ⟨by rw [List.length_append]; exact h3, fun s m => ?_⟩
    rcases List.mem_append.mp m with m | m
    · exact (h.s s m).1
    · rw [List.mem_singleton.mp m, List.length_cons]
      have := h.c
      omega
  · rw [if_neg e] at h3 ⊢
    exact ⟨h3, fun s m => (h.s s m).1⟩
theorem zeros_snoc (n : Nat) : (List.replicate n (0 : Int)).map V.int ++ [V.int 0] = (List.replicate (n + 1) (0 : Int)).map V.int := by
  rw [List.replicate_succ']
  rw [List.map_append]
  rfl
theorem Parts.snoc {H : Hp} {qs : List (Addr × List Int)} {o t : Addr} {c : List Int} (h : Parts H qs) (n : ∀ u ∈ qs, u.1 ≠ o) (to : t ≠ o) (ht : H t = some (.lst (c.map V.int))) (u : HO) : Parts (upd H o u) (qs ++ [(t, c)]) := by
  intro v mv
  rcases List.mem_append.mp mv with m | m
  · rw [upd_ne (n v m)]
    exact h v m
  · rw [List.mem_singleton.mp m, upd_ne to]
    exact ht
theorem all_take {cs : List (List Int)} {i : Nat} {c : List Int} (h : cs[i]? = some c) (a : ∀ x ∈ cs.take i, x.length ≤ 63) (hc : c.length ≤ 63) : ∀ x ∈ cs.take (i + 1), x.length ≤ 63 := by
  rw [take_snoc h]
  intro x m
  rcases List.mem_append.mp m with m | m
  · exact a x m
  · rw [List.mem_singleton.mp m]
    exact hc
section
variable {P : Program} {w : World} {K : PySem.W.Frag} {mg : Str → Option Value} {base : Heap}
theorem ok_lpack {f : Addr} {fd : FuncData} (F : Fun K "_law_pack" "_law_pack" s_law_pack f fd) (T : Bl mg)
    (D_law_row_bytes : Kn P w K mg base 5 "_law_row_bytes" ["row"] (spRB K)) :
    FnOk P w K mg base CX0 6 f fd ["rows"] (spPack K) := by
  refine F.ok sc_law_pack (fun vs H Q E h => ?_) (fun cdv A outer s H vs Q E hr h => ?_)
  · obtain ⟨a, rs, rfl, _⟩ := h
    rfl
  · obtain ⟨a, rs, rfl, ha, hR, lr, q⟩ := h
    refine ⟨_, (pss_cons (ps_set (i := 1) sc_law_pack.nd rfl (.inl rfl) (pe_lst pa_nil))
      (pss_cons (ps_set (i := 2) sc_law_pack.nd rfl (.inl rfl) (pe_lst pa_nil))
      (pss_cons (ps_set (i := 3) sc_law_pack.nd rfl (.inl rfl) pe_int)
      (pss_cons (ps_for PassesOwn.never rfl (pi_list (pv 0)) (pg_name (i := 4) sc_law_pack.nd rfl (.inl rfl)) (pss_cons (ps_set (i := 5) sc_law_pack.nd rfl (.inl rfl) (pe_kn D_law_row_bytes hr (pa_cons (pv 4) pa_nil)))
      (pss_cons (ps_if (pt_cmpR op_gt (pe_callB call_len_seq (by rfl) T.len PySem.boot_len (pa_cons (pv 5) pa_nil)) pe_int (nomark _)) (pss_one (ps_ret pe_non)) pss_nil)
      (pss_mid (ps_if (pt_cmpR op_gt (pe_op op_add (pe_callB call_len_seq (by rfl) T.len PySem.boot_len (pa_cons (pv 2) pa_nil)) (pe_callB call_len_seq (by rfl) T.len PySem.boot_len (pa_cons (pv 5) pa_nil))) pe_int (nomark _)) (pss_cons (ps_expr (pe_bm PySem.F.plainAttrs_list PySem.F.slot_list_append PySem.F.type_list_append mt_append (pv 1) (pa_cons (pe_op op_cat (pe_op op_cat (pe_lst (pa_cons (pv 3) pa_nil)) (pv 2)) (pe_lc (own := [("k", 6)]) (g := gName 6) rfl sc_law_pack.nd (pi_range1 (by rfl) T.range (pa_cons (pe_op op_sub pe_int (pe_callB call_len_seq (by rfl) T.len PySem.boot_len (pa_cons (pv 2) pa_nil))) pa_nil)) (blkOk_by (own := [("k", 6)]) (N := N_law_pack) (sc := defScope s_law_pack) (by decide +kernel)) (fun _ _ _ _ _ => pg_name (i := 6) sc_law_pack.nd rfl (Or.inl rfl)) (fun _ _ _ _ _ => pts_nil) (fun _ _ _ _ _ => pe_int))) pa_nil)))
      (pss_cons (ps_set (i := 2) sc_law_pack.nd rfl (.inl rfl) (pe_lst pa_nil))
      (pss_one (ps_set (i := 3) sc_law_pack.nd rfl (.inl rfl) pe_int)))) pss_nil)
      (pss_cons (ps_set (i := 2) sc_law_pack.nd rfl (.inl rfl) (pe_op op_cat (pv 2) (pv 5)))
      (pss_one (ps_set (i := 3) sc_law_pack.nd rfl (.inl rfl) (pe_op op_add (pv 3) pe_int))))))))
      (pss_cons (ps_if (pt_cmpR op_gt (pv 3) pe_int (nomark _)) (pss_one (ps_expr (pe_bm PySem.F.plainAttrs_list PySem.F.slot_list_append PySem.F.type_list_append mt_append (pv 1) (pa_cons (pe_op op_cat (pe_op op_cat (pe_lst (pa_cons (pv 3) pa_nil)) (pv 2)) (pe_lc (own := [("k", 6)]) (g := gName 6) rfl sc_law_pack.nd (pi_range1 (by rfl) T.range (pa_cons (pe_op op_sub pe_int (pe_callB call_len_seq (by rfl) T.len PySem.boot_len (pa_cons (pv 2) pa_nil))) pa_nil)) (blkOk_by (own := [("k", 6)]) (N := N_law_pack) (sc := defScope s_law_pack) (by decide +kernel)) (fun _ _ _ _ _ => pg_name (i := 6) sc_law_pack.nd rfl (Or.inl rfl)) (fun _ _ _ _ _ => pts_nil) (fun _ _ _ _ _ => pe_int))) pa_nil)))) pss_nil)
      (pss_one (ps_ret (pv 1)))))))), ?_⟩
    refine ⟨sz 0, fun o no => ⟨sz 0, fun c0 nc0 => ?_⟩⟩
    have lc : (codes rs).length = rs.length := by unfold codes; rw [List.length_map]
    have lrr : (rrefs rs).length = rs.length := by unfold rrefs; rw [List.length_map]
    have nco : c0 ≠ o := (ne_of_none upd_same nc0).symm
    refine ⟨_, rfl, a, rfl, ⟨_, ((Same.new no).trans (Same.new nc0)).seq ha⟩, for_list (K := K) (a := a) (xs := rrefs rs) (fun i σ H4 => ∃ (c : Addr) (y4 y5 : Option V) (ts : List (Addr × List Int)),
        σ = [some (.ref a), some (.ref o), some (.ref c), some (.int (pkF ((codes rs).take i)).cnt), y4, y5, none] ∧ Same H H4 ∧ H4 o = some (.lst (refs ts)) ∧ ts.map (·.2) = (pkF ((codes rs).take i)).S.map padS ∧
        Parts H4 ts ∧ (∀ t ∈ ts, H t.1 = none ∧ t.1 ≠ o) ∧ H4 c = some (.lst ((pkF ((codes rs).take i)).cur.map V.int)) ∧ c ≠ o ∧ H c = none ∧ (∀ x ∈ (codes rs).take i, x.length ≤ 63))
      ⟨c0, none, none, [], rfl, (Same.new no).trans (Same.new nc0), (Same.new nc0) _ _ upd_same, rfl, (fun _ m => nomatch m), (fun _ m => nomatch m), upd_same, nco, (Same.new no).free nc0, (fun _ m => nomatch m)⟩ (fun i σ H4 hi hP => ?_) (fun i x σ H4 hi hP => ?_) (fun σ H4 hP => ?_)⟩
    · obtain ⟨c, y4, y5, ts, _, s4, _⟩ := hP
      exact s4.seq ha
    · obtain ⟨c, y4, y5, ts, rfl, s4, eo, mt, pt, nt, ec, co, nc, al⟩ := hP
      obtain ⟨t, et, rfl⟩ := rrefs_get hi
      have mem := List.mem_of_getElem? et
      obtain ⟨ht, st, lt⟩ := hR t mem
      have gc := codes_get et
      have il : i < rs.length := (List.getElem?_eq_some_iff.mp et).1
      refine ⟨_, rfl, t.1, t.2, rfl, Tk.same s4 _ _ ht, st, lt, fun H5 p s5 np hp => ?_⟩
      have lrow := rowB_len st lt
      refine ⟨_, rfl, p, _, rfl, .inl (SqL.of hp), _, _, rfl, rfl, _, rfl, ?_⟩
      rw [List.length_map]
      refine ite2 (fun e => ?_) (fun e => ?_)
      · have e1 : (63 : Int) < ((rowB t.2).length : Int) := of_decide_eq_true e
        refine q _ _ (s4.trans s5) ?_
        rw [packO_none (List.mem_of_getElem? gc) (by omega)]
        rfl
      have e1 : (rowB t.2).length ≤ 63 := by
        have : ¬ (63 : Int) < ((rowB t.2).length : Int) := fun z => e (decide_eq_true z)
        omega
      have al2 := all_take gc al e1
      have ok := pkF_ok' al
      have ok2 := pkF_ok' al2
      have eS := pkF_snoc gc
      have pc := ok.c
      have ol := ok.l
      rw [List.length_take] at ol
      have eo5 := s5 _ _ eo
      have ec5 := s5 _ _ ec
      have pt5 := pt.same s5
      have s6 := s4.trans s5
      have npH : H p = none := s4.free np
      have po : p ≠ o := fun z => by rw [z, eo] at np; cases np
      generalize hpk : pkF ((codes rs).take i) = pk at *
      refine ⟨fun σ H6 => ∃ (c : Addr) (cu : List Int) (n : Int) (ts : List (Addr × List Int)), σ = [some (.ref a), some (.ref o), some (.ref c), some (.int n), some (.ref t.1), some (.ref p), none] ∧
          Same H H6 ∧ H6 o = some (.lst (refs ts)) ∧ ts.map (·.2) = (pkS pk (rowB t.2)).S.map padS ∧ Parts H6 ts ∧ (∀ t ∈ ts, H t.1 = none ∧ t.1 ≠ o) ∧ H6 c = some (.lst (cu.map V.int)) ∧ c ≠ o ∧ H c = none ∧
          cu ++ rowB t.2 = (pkS pk (rowB t.2)).cur ∧ n + 1 = (pkS pk (rowB t.2)).cnt ∧ H6 p = some (.lst ((rowB t.2).map V.int)), ?_, ?_⟩
      · refine ⟨_, rfl, c, _, rfl, .inl (SqL.of ec5), _, rfl, p, _, rfl, .inl (SqL.of hp), _, _, rfl, rfl, _, _, rfl, rfl, _, rfl, ?_⟩
        rw [List.length_map, List.length_map]
        refine ite2 (fun e2 => ?_) (fun e2 => ?_)
        · have e3 : (63 : Int) < (pk.cur.length : Int) + ((rowB t.2).length : Int) := of_decide_eq_true e2
          have eS' : pkS pk (rowB t.2) = ⟨pk.S ++ [pk.cnt :: pk.cur], rowB t.2, 1⟩ := by
            unfold pkS
            rw [if_pos (by omega)]
          refine ⟨_, rfl, .inl ⟨rfl, _, .inl (.inl eo5)⟩, _, rfl, sz 1, fun u1 nu1 => ⟨_, rfl, u1, c, [V.int pk.cnt], pk.cur.map V.int, rfl, rfl, upd_same, (Same.new nu1) _ _ ec5, ?_, fun u2 nu2 => ?_⟩⟩
          · rw [List.length_map]
            exact sz _ (by show 1 + pk.cur.length ≤ 1000; omega)
          have s57 := (Same.new (o := .lst [V.int pk.cnt]) nu1).trans (Same.new (o := .lst ([V.int pk.cnt] ++ pk.cur.map V.int)) nu2)
          have e7 := upd_same (H := upd H5 u1 (.lst [V.int pk.cnt])) (a := u2) (o := .lst ([V.int pk.cnt] ++ pk.cur.map V.int))
          generalize (upd (upd H5 u1 (.lst [V.int pk.cnt])) u2 (.lst ([V.int pk.cnt] ++ pk.cur.map V.int))) = H7 at *
          refine ⟨_, rfl, c, _, rfl, .inl (SqL.of (s57 _ _ ec5)), _, _, rfl, rfl, ?_⟩
          refine ⟨_, rfl, by rw [List.length_map]; omega, by rw [List.length_map]; omega, fun D nD => lc_range (lo := 0) (n := (63 - ((pk.cur.map V.int).length : Int)).toNat) (fun j H8 => H8 D = some (.lst ((List.replicate j (0 : Int)).map V.int)) ∧ Same H7 H8)
            ⟨upd_same, Same.new nD⟩ (fun j H8 hj hP => ?_) (fun H8 hP => ?_)⟩
          · obtain ⟨eD, s8⟩ := hP
            refine ⟨rfl, ?_⟩
            refine ⟨_, eD, ?_, ?_, Same.over s8 nD⟩
            · rw [List.length_map, List.length_replicate]
              exact small (m := 1000) (by omega) (by decide)
            · rw [upd_same, zeros_snoc]
          · obtain ⟨eD, s8⟩ := hP
            refine ⟨u2, D, _, _, rfl, rfl, s8 _ _ e7, eD, ?_, fun u3 nu3 => ?_⟩
            · rw [List.length_append, List.length_map, List.length_map, List.length_replicate]
              exact sz _ (by show 1 + pk.cur.length + _ ≤ 1000; omega)
            have s9 := (s57.trans s8).trans (Same.new (o := .lst ([V.int pk.cnt] ++ pk.cur.map V.int ++ (List.replicate (63 - ((pk.cur.map V.int).length : Int)).toNat (0 : Int)).map V.int)) nu3)
            have e9 := upd_same (H := H8) (a := u3) (o := .lst ([V.int pk.cnt] ++ pk.cur.map V.int ++ (List.replicate (63 - ((pk.cur.map V.int).length : Int)).toNat (0 : Int)).map V.int))
            have nu5 : H5 u3 = none := (s57.trans s8).free nu3
            generalize (upd H8 u3 (.lst ([V.int pk.cnt] ++ pk.cur.map V.int ++ (List.replicate (63 - ((pk.cur.map V.int).length : Int)).toNat (0 : Int)).map V.int))) = H9 at *
            have epad : [V.int pk.cnt] ++ pk.cur.map V.int ++ (List.replicate (63 - ((pk.cur.map V.int).length : Int)).toNat (0 : Int)).map V.int = (padS (pk.cnt :: pk.cur)).map V.int := by
              unfold padS
              rw [List.map_append, List.length_map, List.length_cons]
              have : (63 - (pk.cur.length : Int)).toNat = 64 - (pk.cur.length + 1) := by omega
              rw [this]
              rfl
            rw [epad] at e9
            have uo : u3 ≠ o := fun z => by rw [z, eo5] at nu5; cases nu5
            refine ⟨o, refs ts, _, rfl, rfl, s9 _ _ eo5, ?_, ?_⟩
            · unfold refs
              rw [List.length_map]
              have := congrArg List.length mt
              rw [List.length_map, List.length_map] at this
              exact small (m := 1000) (by omega) (by decide)
            have pts : Parts (upd H9 o (.lst (refs ts ++ [.ref u3]))) (ts ++ [(u3, padS (pk.cnt :: pk.cur))]) := Parts.snoc (pt5.same s9) (fun u m => (nt u m).2) uo e9 _
            have noH : H o = none := no
            refine ⟨sz 0, fun u4 nu4 => ?_⟩
            have uo4 : u4 ≠ o := (ne_of_none upd_same nu4).symm
            have s10 : Same H (upd (upd H9 o (.lst (refs ts ++ [.ref u3]))) u4 (.lst [])) := (Same.over (s6.trans s9) noH).trans (Same.new nu4)
            refine ⟨u4, [], 0, ts ++ [(u3, padS (pk.cnt :: pk.cur))], rfl, s10, ?_, ?_, pts.same (Same.new nu4), ?_, upd_same, uo4, ?_, ?_, ?_, ?_⟩
            · rw [(Same.new nu4) _ _ upd_same, refs_snoc]
            · rw [List.map_append, mt, eS', List.map_append]
              rfl
            · intro v mv
              rcases List.mem_append.mp mv with m | m
              · exact nt v m
              · rw [List.mem_singleton.mp m]
                exact ⟨s6.free nu5, uo⟩
            · exact (Same.over (s6.trans s9) noH).free nu4
            · rw [eS']
              rfl
            · rw [eS']
              rfl
            · exact (Same.new nu4) _ _ (by rw [upd_ne po]; exact s9 _ _ hp)
        · have e3 : ¬ (63 : Int) < (pk.cur.length : Int) + ((rowB t.2).length : Int) := fun z => e2 (decide_eq_true z)
          have eS' : pkS pk (rowB t.2) = ⟨pk.S, pk.cur ++ rowB t.2, pk.cnt + 1⟩ := by
            unfold pkS
            rw [if_neg (by omega)]
          exact ⟨c, pk.cur, pk.cnt, ts, rfl, s6, eo5, by rw [mt, eS'], pt5, nt, ec5, co, nc, by rw [eS'], by rw [eS'], hp⟩
      · rintro σ H6 ⟨c, cu, n, ts, rfl, s6, eo, mt, pt, nt, ec, co, nc, ecu, en, hp6⟩
        have lcu : cu.length + (rowB t.2).length ≤ 126 := by
          have := congrArg List.length ecu
          rw [List.length_append] at this
          have := ok2.c
          rw [eS] at this
          omega
        refine ⟨_, rfl, _, rfl, c, p, _, _, rfl, rfl, ec, hp6, ?_, fun u nu => ?_⟩
        · rw [List.length_map, List.length_map]
          exact sz _ (by omega)
        have uo : u ≠ o := fun z => by rw [z, eo] at nu; cases nu
        refine ⟨_, rfl, _, _, rfl, rfl, u, some (V.ref t.1), some (V.ref p), ts, ?_, s6.trans (Same.new nu), (Same.new nu) _ _ eo, by rw [mt, eS], pt.same (Same.new nu), nt, ?_, uo, s6.free nu, al2⟩
        · rw [eS, ← en]
          rfl
        · rw [upd_same, eS, ← ecu, List.map_append]
    · obtain ⟨c, y4, y5, ts, rfl, s5, eo5, mt, pt5, nt, ec5, co, nc, al⟩ := hP
      have e2 : (codes rs).take (rrefs rs).length = codes rs := by rw [lrr, ← lc, List.take_length]
      rw [e2] at mt ec5 al ⊢
      have ok := pkF_ok' al
      have pc := ok.c
      have ol := ok.l
      have lall := pkAll_len ok
      rw [lc] at ol lall
      have fin := packO_some al
      have lpad : ((pkAll (pkF (codes rs))).map padS).length ≤ 100 ∧ ∀ s ∈ (pkAll (pkF (codes rs))).map padS, s.length ≤ 100 := by
        refine ⟨by rw [List.length_map]; omega, fun s m => ?_⟩
        obtain ⟨x, mx, rfl⟩ := List.mem_map.mp m
        rw [padS_len (lall.2 x mx)]
        decide
      generalize hpk : pkF (codes rs) = pk at *
      refine ⟨_, rfl, _, _, rfl, rfl, _, rfl, ite2 (fun e => ?_) (fun e => ?_)⟩
      · have e1 : pk.cnt > 0 := of_decide_eq_true e
        refine ⟨_, rfl, .inl ⟨rfl, _, .inl (.inl eo5)⟩, _, rfl, sz 1, fun u1 nu1 => ⟨_, rfl, u1, c, [V.int pk.cnt], pk.cur.map V.int, rfl, rfl, upd_same, (Same.new nu1) _ _ ec5, ?_, fun u2 nu2 => ?_⟩⟩
        · rw [List.length_map]
          exact sz _ (by show 1 + pk.cur.length ≤ 1000; omega)
        have s57 := (Same.new (o := .lst [V.int pk.cnt]) nu1).trans (Same.new (o := .lst ([V.int pk.cnt] ++ pk.cur.map V.int)) nu2)
        have e7 := upd_same (H := upd H4 u1 (.lst [V.int pk.cnt])) (a := u2) (o := .lst ([V.int pk.cnt] ++ pk.cur.map V.int))
        generalize (upd (upd H4 u1 (.lst [V.int pk.cnt])) u2 (.lst ([V.int pk.cnt] ++ pk.cur.map V.int))) = H7 at *
        refine ⟨_, rfl, c, _, rfl, .inl (SqL.of (s57 _ _ ec5)), _, _, rfl, rfl, ?_⟩
        refine ⟨_, rfl, by rw [List.length_map]; omega, by rw [List.length_map]; omega, fun D nD => lc_range (lo := 0) (n := (63 - ((pk.cur.map V.int).length : Int)).toNat) (fun j H8 => H8 D = some (.lst ((List.replicate j (0 : Int)).map V.int)) ∧ Same H7 H8)
          ⟨upd_same, Same.new nD⟩ (fun j H8 hj hP => ?_) (fun H8 hP => ?_)⟩
        · obtain ⟨eD, s8⟩ := hP
          refine ⟨rfl, ?_⟩
          refine ⟨_, eD, ?_, ?_, Same.over s8 nD⟩
          · rw [List.length_map, List.length_replicate]
            exact small (m := 1000) (by omega) (by decide)
          · rw [upd_same, zeros_snoc]
        · obtain ⟨eD, s8⟩ := hP
          refine ⟨u2, D, _, _, rfl, rfl, s8 _ _ e7, eD, ?_, fun u3 nu3 => ?_⟩
          · rw [List.length_append, List.length_map, List.length_map, List.length_replicate]
            exact sz _ (by show 1 + pk.cur.length + _ ≤ 1000; omega)
          have s9 := (s57.trans s8).trans (Same.new (o := .lst ([V.int pk.cnt] ++ pk.cur.map V.int ++ (List.replicate (63 - ((pk.cur.map V.int).length : Int)).toNat (0 : Int)).map V.int)) nu3)
          have e9 := upd_same (H := H8) (a := u3) (o := .lst ([V.int pk.cnt] ++ pk.cur.map V.int ++ (List.replicate (63 - ((pk.cur.map V.int).length : Int)).toNat (0 : Int)).map V.int))
          have nu5 : H4 u3 = none := (s57.trans s8).free nu3
          generalize (upd H8 u3 (.lst ([V.int pk.cnt] ++ pk.cur.map V.int ++ (List.replicate (63 - ((pk.cur.map V.int).length : Int)).toNat (0 : Int)).map V.int))) = H9 at *
          have epad : [V.int pk.cnt] ++ pk.cur.map V.int ++ (List.replicate (63 - ((pk.cur.map V.int).length : Int)).toNat (0 : Int)).map V.int = (padS (pk.cnt :: pk.cur)).map V.int := by
            unfold padS
            rw [List.map_append, List.length_map, List.length_cons]
            have : (63 - (pk.cur.length : Int)).toNat = 64 - (pk.cur.length + 1) := by omega
            rw [this]
            rfl
          rw [epad] at e9
          have uo : u3 ≠ o := fun z => by rw [z, eo5] at nu5; cases nu5
          refine ⟨o, refs ts, _, rfl, rfl, s9 _ _ eo5, ?_, ?_⟩
          · unfold refs
            rw [List.length_map]
            have := congrArg List.length mt
            rw [List.length_map, List.length_map] at this
            exact small (m := 1000) (by omega) (by decide)
          have pts : Parts (upd H9 o (.lst (refs ts ++ [.ref u3]))) (ts ++ [(u3, padS (pk.cnt :: pk.cur))]) := Parts.snoc (pt5.same s9) (fun u m => (nt u m).2) uo e9 _
          refine ⟨_, rfl, q _ _ (Same.over (s5.trans s9) no) ?_⟩
          rw [fin]
          refine ⟨o, ts ++ [(u3, padS (pk.cnt :: pk.cur))], rfl, no, by rw [upd_same, refs_snoc], ?_, pts, ?_, lpad.1, lpad.2⟩
          · unfold pkAll
            rw [if_pos e1, List.map_append, mt, List.map_append]
            rfl
          · intro v mv
            rcases List.mem_append.mp mv with m | m
            · exact nt v m
            · rw [List.mem_singleton.mp m]
              exact ⟨s5.free nu5, uo⟩
      · have e1 : ¬ pk.cnt > 0 := fun z => e (decide_eq_true z)
        refine ⟨_, rfl, q _ _ s5 ?_⟩
        rw [fin]
        refine ⟨o, ts, rfl, no, eo5, ?_, pt5, nt, lpad.1, lpad.2⟩
        unfold pkAll
        rw [if_neg e1, mt]
end
end K1
namespace K1
open PySem PySem.Spec PyProof.Rows L2 Ow
abbrev spack : Stmt := topS 8
abbrev Npack : List Str := ["rows", "used", "row", "code", "sector"]
theorem scpack : FnScope Npack ["rows"] (defScope spack) := ⟨rfl, rfl, rfl, by decide +kernel, rfl, by decide +kernel, by decide +kernel⟩
structure Sb (mg : Str → Option Value) : Prop where
  ex : ∃ t, mg "SECTOR_BYTES" = some (.int 64 t)
theorem pe_gi {X : Cx} {x : Str} {n : Int} {t : Tok} {pos : Pos} (hg : Gl X x) (hm : X.mg x = some (.int n t)) (hn : x ≠ "__name__" := by decide) (hd : (x == ("__debug__" : Str)) = false := by decide) : PE X (.Name x pos) (tC (.int n)) := pe_glob (v := .int n) hg hm ⟨_, rfl⟩ (hd := hd)
def rLenK (K : PySem.W.Frag) : List V → Hp → VK → Prop := fun xs H Q => ∃ p ys, xs = [V.ref p] ∧ (SqL K H p ys ∨ SqT K H p ys) ∧ Q (.int (ys.length : Nat)) H
theorem call_len_K {X : Cx} {K : PySem.W.Frag} (e : X.K = K) : CallR X (.builtin "len") (rLenK K) := by
  subst e
  exact call_len_seq
theorem ix0 {n : Nat} (h : 0 < n) : ixN n 0 = some 0 := by
  unfold ixN
  simp
  omega
theorem pk_nil {n : Nat} {pk : Pk} {code : List Int} (ok : PkOk n pk) (hc : code.length ≤ 63) (h : pkAll pk = []) : pkAll (pkS pk code) = [1 :: code] := by
  have z : ¬ pk.cnt > 0 := fun z => by
    unfold pkAll at h
    rw [if_pos z] at h
    exact absurd h (by simp)
  have nn := ok.nn
  have z0 : pk.cnt = 0 := by omega
  obtain ⟨e1, e2⟩ := ok.z z0
  unfold pkS
  rw [if_neg (by rw [e2]; simp; omega), e1, e2, z0]
  rfl
theorem pk_last {n : Nat} {pk : Pk} {xs : List (List Int)} {l : List Int} (ok : PkOk n pk) (h : xs ++ [l] = pkAll pk) : xs = pk.S ∧ l = pk.cnt :: pk.cur ∧ pk.cnt > 0 := by
  have nn := ok.nn
  by_cases e : pk.cnt > 0
  · unfold pkAll at h
    rw [if_pos e] at h
    have := List.append_inj' h rfl
    exact ⟨this.1, (List.cons.inj this.2).1, e⟩
  · unfold pkAll at h
    rw [if_neg e] at h
    have z0 : pk.cnt = 0 := by omega
    rw [(ok.z z0).1] at h
    exact absurd h (by simp)
theorem rep_zero (n : Nat) : (List.replicate n [V.int 0]).flatten = (List.replicate n (0 : Int)).map V.int := by
  induction n with
  | zero => rfl
  | succ n ih => rw [List.replicate_succ, List.flatten_cons, ih, List.replicate_succ, List.map_cons]; rfl
theorem map_take_snoc {α β : Type} {xs : List α} {f : α → β} {i : Nat} {x : α} (h : xs[i]? = some x) : (xs.take (i + 1)).map f = (xs.take i).map f ++ [f x] := by
  rw [take_snoc h, List.map_append]
  rfl
section
variable {P : Program} {w : World} {K : PySem.W.Frag} {mg : Str → Option Value} {base : Heap}
theorem ok_pack {f : Addr} {fd : FuncData} (F : Fun K "pack" "pack" spack f fd) (T : Bl mg) (B : Sb mg)
    (Dwrite_row : Kn P w K mg base 4 "write_row" ["row"] (spRB K)) :
    FnOk P w K mg base CX0 5 f fd ["rows"] (spPack K) := by
  obtain ⟨tk, TB⟩ := B.ex
  refine F.ok scpack (fun vs H Q E h => ?_) (fun cdv A outer s H vs Q E hr h => ?_)
  · obtain ⟨a, rs, rfl, _⟩ := h
    rfl
  · obtain ⟨a, rs, rfl, ha, hR, lr, q⟩ := h
    refine ⟨_, (pss_cons (ps_set (i := 1) scpack.nd rfl (.inl rfl) (pe_lst pa_nil))
      (pss_cons (ps_for PassesOwn.never rfl (pi_list (pv 0)) (pg_name (i := 2) scpack.nd rfl (.inl rfl)) (pss_cons (ps_set (i := 3) scpack.nd rfl (.inl rfl) (pe_kn Dwrite_row hr (pa_cons (pv 2) pa_nil)))
      (pss_cons (ps_if (pt_cmpR op_gt (pe_callB call_len_seq (by rfl) T.len PySem.boot_len (pa_cons (pv 3) pa_nil)) (pe_op op_sub (pe_gi (by rfl) TB) pe_int) (nomark _)) (pss_one (ps_ret pe_non)) pss_nil)
      (pss_mid (ps_if (PW.pt (pw_or (pt_not (pt_truth (pv 1) (by intro _; rfl))) (pw_or1 (pt_cmpR op_gt (pe_op op_add (pe_callB call_len_seq (by rfl) T.len PySem.boot_len (pa_cons (pe_ix ix_list (pv 1) (pe_un un_neg pe_int) (fun _ _ => rfl)) pa_nil)) (pe_callB call_len_seq (by rfl) T.len PySem.boot_len (pa_cons (pv 3) pa_nil))) (pe_gi (by rfl) TB) (nomark _))))) (pss_one (ps_expr (pe_bm PySem.F.plainAttrs_list PySem.F.slot_list_append PySem.F.type_list_append mt_append (pv 1) (pa_cons (pe_lst (pa_cons pe_int pa_nil)) pa_nil)))) pss_nil)
      (pss_cons (ps_set (i := 4) scpack.nd rfl (.inl rfl) (pe_ix ix_list (pv 1) (pe_un un_neg pe_int) (fun _ _ => rfl)))
      (pss_cons (ps_augS (pv 4) pe_int pget_list pe_int ip_add set_list)
      (pss_one (ps_expr (pe_bm PySem.F.plainAttrs_list PySem.F.slot_list_extend PySem.F.type_list_extend mt_extend (pv 4) (pa_cons (pv 3) pa_nil))))))))))
      (pss_one (ps_ret (pe_lc (own := [("sector", 4)]) (g := gName 4) rfl scpack.nd (pi_list (pv 1)) (blkOk_by (own := [("sector", 4)]) (N := Npack) (sc := defScope spack) (by decide +kernel)) (fun _ _ _ _ _ => pg_name (i := 4) scpack.nd rfl (Or.inl rfl)) (fun _ _ _ _ _ => pts_nil) (fun _ _ _ _ _ => (pe_op op_cat (pv 4) (pe_op op_rep (pe_lst (pa_cons pe_int pa_nil)) (pe_op op_sub (pe_gi (by rfl) TB) (pe_callB (call_len_K (K := K) rfl) (by rfl) T.len PySem.boot_len (pa_cons (pv 4) pa_nil))))))))))), ?_⟩
    refine ⟨sz 0, fun o no => ?_⟩
    have lc : (codes rs).length = rs.length := by unfold codes; rw [List.length_map]
    have lrr : (rrefs rs).length = rs.length := by unfold rrefs; rw [List.length_map]
    refine ⟨_, rfl, a, rfl, ⟨_, (Same.new no).seq ha⟩, for_list (K := K) (a := a) (xs := rrefs rs) (fun i σ H4 => ∃ (y2 y3 y4 : Option V) (ts : List (Addr × List Int)),
        σ = [some (.ref a), some (.ref o), y2, y3, y4] ∧ Same H H4 ∧ H4 o = some (.lst (refs ts)) ∧ ts.map (·.2) = pkAll (pkF ((codes rs).take i)) ∧
        Parts H4 ts ∧ (∀ t ∈ ts, H t.1 = none ∧ t.1 ≠ o) ∧ ts.Pairwise (fun x y => x.1 ≠ y.1) ∧ (∀ x ∈ (codes rs).take i, x.length ≤ 63))
      ⟨none, none, none, [], rfl, Same.new no, upd_same, rfl, (fun _ m => nomatch m), (fun _ m => nomatch m), .nil, (fun _ m => nomatch m)⟩ (fun i σ H4 hi hP => ?_) (fun i x σ H4 hi hP => ?_) (fun σ H4 hP => ?_)⟩
    · obtain ⟨y2, y3, y4, ts, _, s4, _⟩ := hP
      exact s4.seq ha
    · obtain ⟨y2, y3, y4, ts, rfl, s4, eo, mt, pt, nt, pw, al⟩ := hP
      obtain ⟨t, et, rfl⟩ := rrefs_get hi
      have mem := List.mem_of_getElem? et
      obtain ⟨ht, st, lt⟩ := hR t mem
      have gc := codes_get et
      have il : i < rs.length := (List.getElem?_eq_some_iff.mp et).1
      refine ⟨_, rfl, t.1, t.2, rfl, Tk.same s4 _ _ ht, st, lt, fun H5 p s5 np hp => ?_⟩
      have lrow := rowB_len st lt
      refine ⟨_, rfl, p, _, rfl, .inl (SqL.of hp), _, _, rfl, rfl, _, _, rfl, rfl, _, rfl, ?_⟩
      rw [List.length_map]
      refine ite2 (fun e => ?_) (fun e => ?_)
      · have e1 : (64 : Int) - 1 < ((rowB t.2).length : Int) := of_decide_eq_true e
        refine q _ _ (s4.trans s5) ?_
        rw [packO_none (List.mem_of_getElem? gc) (by omega)]
        rfl
      have e1 : (rowB t.2).length ≤ 63 := by
        have : ¬ (64 : Int) - 1 < ((rowB t.2).length : Int) := fun z => e (decide_eq_true z)
        omega
      have al2 := all_take gc al e1
      have ok := pkF_ok' al
      have eS := pkF_snoc gc
      have pc := ok.c
      have lall := pkAll_len ok
      rw [List.length_take] at lall
      have eo5 := s5 _ _ eo
      have pt5 := pt.same s5
      have s6 := s4.trans s5
      have npH : H p = none := s4.free np
      have po : p ≠ o := fun z => by rw [z, eo] at np; cases np
      have ltt : ts.length ≤ 99 := by
        have := congrArg List.length mt
        rw [List.length_map] at this
        omega
      generalize hpk : pkF ((codes rs).take i) = pk at *
      refine ⟨fun σ H6 => ∃ (y4 : Option V) (ts : List (Addr × List Int)) (u : Addr) (b : Int) (bs : List Int), σ = [some (.ref a), some (.ref o), some (.ref t.1), some (.ref p), y4] ∧
          Same H H6 ∧ H6 o = some (.lst (refs (ts ++ [(u, b :: bs)]))) ∧ ts.map (·.2) ++ [(b + 1) :: (bs ++ rowB t.2)] = pkAll (pkS pk (rowB t.2)) ∧ Parts H6 (ts ++ [(u, b :: bs)]) ∧
          (∀ t ∈ ts ++ [(u, b :: bs)], H t.1 = none ∧ t.1 ≠ o) ∧ (ts ++ [(u, b :: bs)]).Pairwise (fun x y => x.1 ≠ y.1) ∧ H6 p = some (.lst ((rowB t.2).map V.int)) ∧ p ≠ u ∧ bs.length ≤ 63, ?_, ?_⟩
      · have fresh : ∀ u, H5 u = none → pkAll (pkS pk (rowB t.2)) = ts.map (·.2) ++ [1 :: rowB t.2] →
            ∃ (y4 : Option V) (ts' : List (Addr × List Int)) (u' : Addr) (b : Int) (bs : List Int), [some (V.ref a), some (.ref o), some (.ref t.1), some (.ref p), y4] = [some (.ref a), some (.ref o), some (.ref t.1), some (.ref p), y4] ∧
          Same H (upd (upd H5 u (.lst [.int 0])) o (.lst (refs ts ++ [.ref u]))) ∧ (upd (upd H5 u (.lst [.int 0])) o (.lst (refs ts ++ [.ref u]))) o = some (.lst (refs (ts' ++ [(u', b :: bs)]))) ∧
          ts'.map (·.2) ++ [(b + 1) :: (bs ++ rowB t.2)] = pkAll (pkS pk (rowB t.2)) ∧ Parts (upd (upd H5 u (.lst [.int 0])) o (.lst (refs ts ++ [.ref u]))) (ts' ++ [(u', b :: bs)]) ∧
          (∀ t ∈ ts' ++ [(u', b :: bs)], H t.1 = none ∧ t.1 ≠ o) ∧ (ts' ++ [(u', b :: bs)]).Pairwise (fun x y => x.1 ≠ y.1) ∧ (upd (upd H5 u (.lst [.int 0])) o (.lst (refs ts ++ [.ref u]))) p = some (.lst ((rowB t.2).map V.int)) ∧ p ≠ u' ∧ bs.length ≤ 63 := fun u nu epk => by
          have uo : u ≠ o := fun z => by rw [z, eo5] at nu; cases nu
          have pu : p ≠ u := ne_of_none hp nu
          refine ⟨y4, ts, u, 0, [], rfl, Same.over (s6.trans (Same.new nu)) no, by rw [upd_same, refs_snoc], ?_, ?_, ?_, ?_, ?_, pu, Nat.zero_le _⟩
          · rw [epk]
            rfl
          · exact Parts.snoc (pt5.same (Same.new nu)) (fun v m => (nt v m).2) uo upd_same _
          · intro v mv
            rcases List.mem_append.mp mv with m | m
            · exact nt v m
            · rw [List.mem_singleton.mp m]
              exact ⟨s6.free nu, uo⟩
          · rw [List.pairwise_append]
            refine ⟨pw, List.pairwise_singleton _ _, fun v mv x mx => ?_⟩
            rw [List.mem_singleton.mp mx]
            exact ne_of_none (pt5 v mv) nu
          · rw [upd_ne po, upd_ne pu]
            exact hp
        rcases List.eq_nil_or_concat ts with ets | ⟨t0, last, ets⟩
        · have ealn : pkAll pk = [] := by rw [← mt, ets]; rfl
          refine ⟨_, rfl, false, .inl ⟨_, SqL.of eo5, by rw [ets]; rfl⟩, ?_⟩
          refine iteT ?_
          refine ⟨_, rfl, .inl ⟨rfl, _, .inl (.inl eo5)⟩, sz 1, fun u nu => ⟨o, refs ts, _, rfl, rfl, (Same.new nu) _ _ eo5, by rw [ets]; decide, ?_⟩⟩
          obtain ⟨z4, ts', u', b, bs, _, r⟩ := fresh u nu (by rw [pk_nil ok e1 ealn, ets]; rfl)
          exact ⟨_, ts', u', b, bs, rfl, r⟩
        · have mt' := mt
          rw [ets, List.concat_eq_append, List.map_append] at mt'
          obtain ⟨m1, m2, m3⟩ := pk_last ok mt'
          have m4 : last.2 = pk.cnt :: pk.cur := m2
          have hl5 : H5 last.1 = some (.lst ((pk.cnt :: pk.cur).map V.int)) := by
            rw [← m4]
            exact pt5 last (by rw [ets, List.concat_eq_append]; exact List.mem_append_right _ (List.mem_singleton.mpr rfl))
          have er : refs ts = refs t0 ++ [.ref last.1] := by rw [ets, List.concat_eq_append, refs_snoc]
          have el : ts = t0 ++ [(last.1, pk.cnt :: pk.cur)] := by rw [ets, List.concat_eq_append, ← m4]
          refine ⟨_, rfl, true, .inl ⟨_, SqL.of eo5, by rw [er]; simp⟩, ?_⟩
          refine iteF ?_
          refine ⟨_, rfl, 1, rfl, o, refs ts, -1, .ref last.1, rfl, rfl, SqL.of eo5, by rw [er]; exact atI_last _ _, last.1, _, rfl, .inl (SqL.of hl5), _, rfl, p, _, rfl, .inl (SqL.of hp), _, _, rfl, rfl, _, _, rfl, rfl, _, rfl, ?_⟩
          rw [List.length_map, List.length_map, List.length_cons]
          refine ite2 (fun e2 => ?_) (fun e2 => ?_)
          · have e3 : (64 : Int) < ((pk.cur.length + 1 : Nat) : Int) + ((rowB t.2).length : Int) := of_decide_eq_true e2
            refine ⟨_, rfl, .inl ⟨rfl, _, .inl (.inl eo5)⟩, sz 1, fun u nu => ⟨o, refs ts, _, rfl, rfl, (Same.new nu) _ _ eo5, ?_, ?_⟩⟩
            · unfold refs
              rw [List.length_map]
              exact small ltt (by decide)
            · have eS' : pkS pk (rowB t.2) = ⟨pk.S ++ [pk.cnt :: pk.cur], rowB t.2, 1⟩ := by
                unfold pkS
                rw [if_pos (by omega)]
              obtain ⟨z4, ts', u', b, bs, _, r⟩ := fresh u nu (by rw [eS', mt]; unfold pkAll; rw [if_pos m3]; rfl)
              exact ⟨_, ts', u', b, bs, rfl, r⟩
          · have e3 : ¬ (64 : Int) < ((pk.cur.length + 1 : Nat) : Int) + ((rowB t.2).length : Int) := fun z => e2 (decide_eq_true z)
            have eS' : pkS pk (rowB t.2) = ⟨pk.S, pk.cur ++ rowB t.2, pk.cnt + 1⟩ := by
              unfold pkS
              rw [if_neg (by omega)]
            have pl : p ≠ last.1 := fun z => by
              have := pt last (by rw [ets, List.concat_eq_append]; exact List.mem_append_right _ (List.mem_singleton.mpr rfl))
              rw [← z, np] at this
              cases this
            refine ⟨_, t0, last.1, pk.cnt, pk.cur, rfl, s6, by rw [eo5, el], ?_, by rw [← el]; exact pt5, by rw [← el]; exact nt, by rw [← el]; exact pw, hp, pl, pc⟩
            rw [eS', m1]
            unfold pkAll
            rw [if_pos (show pk.cnt + 1 > 0 by omega)]
      · rintro σ H6 ⟨y4, ts, u, b, bs, rfl, s6, eo6, epk, pt6, nt6, pw6, hp6, pu, lbs⟩
        have hu := pt6 _ (List.mem_append_right _ (List.mem_singleton.mpr rfl))
        have uo := (nt6 _ (List.mem_append_right _ (List.mem_singleton.mpr rfl))).2
        have uH := (nt6 _ (List.mem_append_right _ (List.mem_singleton.mpr rfl))).1
        have hu' : H6 u = some (.lst ((b :: bs).map V.int)) := hu
        rw [List.pairwise_append] at pw6
        have uts : ∀ v ∈ ts, v.1 ≠ u := fun v mv => pw6.2.2 v mv _ (List.mem_singleton.mpr rfl)
        refine ⟨_, rfl, 1, rfl, o, _, -1, .ref u, rfl, rfl, SqL.of eo6, by rw [refs_snoc]; exact atI_last _ _, ?_⟩
        refine ⟨_, rfl, u, (b :: bs).map V.int, 0, .int b, rfl, rfl, SqL.of hu', at_of (j := 0) rfl rfl, b, 1, rfl, rfl, u, (b :: bs).map V.int, 0, 0, rfl, rfl, hu', ix0 (by simp), ?_⟩
        have e7 : (upd H6 u (.lst (((b :: bs).map V.int).set 0 (.int (b + 1))))) u = some (.lst (((b + 1) :: bs).map V.int)) := upd_same
        have p7 : (upd H6 u (.lst (((b :: bs).map V.int).set 0 (.int (b + 1))))) p = some (.lst ((rowB t.2).map V.int)) := by rw [upd_ne pu]; exact hp6
        refine ⟨_, rfl, .inl ⟨rfl, _, .inl (.inl e7)⟩, _, rfl, u, p, _, _, rfl, rfl, e7, p7, ?_, ?_⟩
        · rw [List.length_map, List.length_map]
          exact sz _ (by show bs.length + 1 + _ ≤ 1000; omega)
        · have look : ∀ v : Addr, v ≠ u → (upd (upd H6 u (.lst (((b :: bs).map V.int).set 0 (.int (b + 1))))) u (.lst (((b + 1) :: bs).map V.int ++ (rowB t.2).map V.int))) v = H6 v := fun v nv => by
            rw [upd_ne nv, upd_ne nv]
          refine ⟨some (.ref t.1), some (.ref p), some (.ref u), ts ++ [(u, (b + 1) :: (bs ++ rowB t.2))], rfl, ?_, ?_, ?_, ?_, ?_, ?_, al2⟩
          · intro v x hv
            rw [look v (fun z => by rw [z, uH] at hv; cases hv)]
            exact s6 _ _ hv
          · rw [look o (Ne.symm uo), eo6, refs_snoc, refs_snoc]
          · rw [List.map_append, eS]
            exact epk
          · intro v mv
            rcases List.mem_append.mp mv with m | m
            · rw [look v.1 (uts v m)]
              exact pt6 v (List.mem_append_left _ m)
            · rw [List.mem_singleton.mp m, upd_same, ← List.map_append]
              rfl
          · intro v mv
            rcases List.mem_append.mp mv with m | m
            · exact nt6 v (List.mem_append_left _ m)
            · rw [List.mem_singleton.mp m]
              exact ⟨uH, uo⟩
          · rw [List.pairwise_append]
            refine ⟨pw6.1, List.pairwise_singleton _ _, fun v mv x mx => ?_⟩
            rw [List.mem_singleton.mp mx]
            exact uts v mv
    · obtain ⟨y2, y3, y4, ts, rfl, s4, eo, mt, pt, nt, pw, al⟩ := hP
      have e2 : (codes rs).take (rrefs rs).length = codes rs := by rw [lrr, ← lc, List.take_length]
      rw [e2] at mt al
      have ok := pkF_ok' al
      have lall := pkAll_len ok
      rw [lc] at lall
      have fin := packO_some al
      have lpad : ((pkAll (pkF (codes rs))).map padS).length ≤ 100 ∧ ∀ s ∈ (pkAll (pkF (codes rs))).map padS, s.length ≤ 100 := by
        refine ⟨by rw [List.length_map]; omega, fun s m => ?_⟩
        obtain ⟨x, mx, rfl⟩ := List.mem_map.mp m
        rw [padS_len (lall.2 x mx)]
        decide
      generalize hpk : pkAll (pkF (codes rs)) = ss at *
      have lts : ts.length = ss.length := by rw [← mt, List.length_map]
      refine ⟨_, rfl, o, rfl, ⟨_, SqL.of eo⟩, fun D nD => lc_list (K := K) (a := o) (xs := refs ts) (fun i H8 => ∃ zs : List (Addr × List Int), Same H4 H8 ∧ H8 D = some (.lst (refs zs)) ∧ Parts H8 zs ∧
          (∀ t ∈ zs, H t.1 = none ∧ t.1 ≠ D) ∧ zs.map (·.2) = (ss.take i).map padS ∧ zs.length = i)
        ⟨[], Same.new nD, upd_same, (fun _ m => nomatch m), (fun _ m => nomatch m), rfl, rfl⟩ (fun i H8 hi hP => ?_) (fun i x H8 hi hP => ?_) (fun H8 hP => ?_)⟩
      · obtain ⟨zs, s8, _⟩ := hP
        exact SqL.of (s8 _ _ eo)
      · obtain ⟨zs, s8, eD, pz, nz, mz, lz⟩ := hP
        obtain ⟨t, et, rfl⟩ := refs_get hi
        have mem := List.mem_of_getElem? et
        have es : ss[i]? = some t.2 := by
          rw [← mt, List.getElem?_map, et]
          rfl
        have il : i < ts.length := (List.getElem?_eq_some_iff.mp et).1
        have l64 := lall.2 t.2 (List.mem_of_getElem? es)
        have ht8 := s8 _ _ (pt t mem)
        refine ⟨rfl, ?_⟩
        refine ⟨_, rfl, sz 1, fun u1 nu1 => ⟨_, rfl, t.1, _, rfl, .inl (SqL.of ((Same.new nu1) _ _ ht8)), _, _, rfl, rfl, u1, _, [V.int 0], rfl, rfl, upd_same, ?_, ?_, ?_, fun u2 nu2 => ?_⟩⟩
        · rw [List.length_map]
          omega
        · rw [List.length_map]
          omega
        · rw [List.length_map]
          exact sz _ (by show 1 * _ ≤ 1000; omega)
        have n64 : (64 - ((t.2.map V.int).length : Int)).toNat = 64 - t.2.length := by rw [List.length_map]; omega
        have e3 := upd_same (H := upd H8 u1 (.lst [V.int 0])) (a := u2) (o := .lst (List.replicate (64 - ((t.2.map V.int).length : Int)).toNat [V.int 0]).flatten)
        have s3 := (Same.new (o := .lst [V.int 0]) nu1).trans (Same.new (o := .lst (List.replicate (64 - ((t.2.map V.int).length : Int)).toNat [V.int 0]).flatten) nu2)
        generalize (upd (upd H8 u1 (.lst [V.int 0])) u2 (.lst (List.replicate (64 - ((t.2.map V.int).length : Int)).toNat [V.int 0]).flatten)) = H9 at *
        rw [rep_zero, n64] at e3
        refine ⟨t.1, u2, _, _, rfl, rfl, s3 _ _ ht8, e3, ?_, fun u3 nu3 => ?_⟩
        · rw [List.length_map, List.length_map, List.length_replicate]
          exact sz _ (by omega)
        have s10 := s3.trans (Same.new (o := .lst (t.2.map V.int ++ (List.replicate (64 - t.2.length) (0 : Int)).map V.int)) nu3)
        have eD9 := s10 _ _ eD
        have no3 : u3 ≠ D := fun z => by
          have := s3.free nu3
          rw [z, eD] at this
          cases this
        refine ⟨refs zs, eD9, ?_, zs ++ [(u3, padS t.2)], Same.over (s8.trans s10) nD, by rw [upd_same, refs_snoc], ?_, ?_, ?_, ?_⟩
        · unfold refs
          rw [List.length_map]
          exact small (m := 1000) (by omega) (by decide)
        · refine Parts.snoc (pz.same s10) (fun v m => (nz v m).2) no3 ?_ _
          rw [upd_same, ← List.map_append]
          rfl
        · intro v mv
          rcases List.mem_append.mp mv with m | m
          · exact nz v m
          · rw [List.mem_singleton.mp m]
            exact ⟨(s4.trans s8).free (s3.free nu3), no3⟩
        · rw [List.map_append, mz, map_take_snoc es]
          rfl
        · rw [List.length_append, lz]
          rfl
      · obtain ⟨zs, s8, eD, pz, nz, mz, lz⟩ := hP
        have e3 : ss.take (refs ts).length = ss := by
          unfold refs
          rw [List.length_map, lts, List.take_length]
        rw [e3] at mz
        refine q _ _ (s4.trans s8) ?_
        rw [fin]
        exact ⟨D, zs, rfl, s4.free nD, eD, mz, pz, nz, lpad.1, lpad.2⟩
end
end K1
namespace K1
open PySem PySem.Spec PyProof.Rows L2 Ow
abbrev s_law_is_integer : Stmt := topS 14
abbrev N_law_is_integer : List Str := ["actual"]
theorem sc_law_is_integer : FnScope N_law_is_integer ["actual"] (defScope s_law_is_integer) := ⟨rfl, rfl, rfl, by decide +kernel, rfl, by decide +kernel, by decide +kernel⟩
abbrev s_law_same : Stmt := topS 15
abbrev N_law_same : List Str := ["actual", "expected", "k"]
theorem sc_law_same : FnScope N_law_same ["actual", "expected"] (defScope s_law_same) := ⟨rfl, rfl, rfl, by decide +kernel, rfl, by decide +kernel, by decide +kernel⟩
/-! data of numbers, None and lists -/
mutual
def ist : PyData → Bool
  | .int _ => true
  | .none => true
  | .list xs => decide (xs.length ≤ 1000) && ists xs
  | _ => false
def ists : List PyData → Bool
  | [] => true
  | x :: xs => ist x && ists xs
end
theorem ists_at : ∀ {xs : List PyData}, ists xs = true → ∀ {i : Nat} {d : PyData}, xs[i]? = some d → ist d = true
  | [], _, i, d, h => by simp at h
  | x :: xs, h, i, d, e => by
    rw [ists, Bool.and_eq_true] at h
    cases i with
    | zero =>
      have z : x = d := Option.some.inj e
      rw [← z]; exact h.1
    | succ i => exact ists_at h.2 (i := i) e
theorem ists_all : ∀ {xs : List PyData}, (∀ x ∈ xs, ist x = true) → ists xs = true
  | [], _ => by rw [ists]
  | x :: xs, h => by
    rw [ists, h x List.mem_cons_self, ists_all fun y m => h y (List.mem_cons_of_mem _ m)]
    rfl
mutual
theorem Dp.sm {K : PySem.W.Frag} {H H' : Hp} (t : Same H H') : ∀ (d : PyData) (v : V), Dp K H v d → Dp K H' v d
  | .none, _, .non => .non
  | .bool b, _, .bl _ => .bl b
  | .int i, _, .int _ => .int i
  | .str x, _, .str _ => .str x
  | .list xs, _, .lst s a => .lst (t.seq s) (DpAll.sm t xs _ a)
  | .tuple xs, _, .tup s a => .tup (Tk.same t _ _ s) (DpAll.sm t xs _ a)
theorem DpAll.sm {K : PySem.W.Frag} {H H' : Hp} (t : Same H H') : ∀ (ds : List PyData) (vs : List V), DpAll K H vs ds → DpAll K H' vs ds
  | [], _, .nil => .nil
  | d :: ds, _, .cons a b => .cons (Dp.sm t d _ a) (DpAll.sm t ds _ b)
end
theorem DpAll.len {K : PySem.W.Frag} {H : Hp} : ∀ {vs : List V} {ds : List PyData}, DpAll K H vs ds → vs.length = ds.length
  | _, _, .nil => rfl
  | _, _, .cons _ b => by rw [List.length_cons, List.length_cons, DpAll.len b]
theorem DpAll.get {K : PySem.W.Frag} {H : Hp} : ∀ {vs : List V} {ds : List PyData}, DpAll K H vs ds → ∀ {i : Nat} {d : PyData}, ds[i]? = some d → ∃ v, vs[i]? = some v ∧ Dp K H v d
  | _, _, .nil, i, d, h => by simp at h
  | _, _, .cons a b, 0, d, h => by
    have e := Option.some.inj h
    subst e
    exact ⟨_, rfl, a⟩
  | _, _, .cons a b, i + 1, d, h => DpAll.get b (i := i) h
theorem depth_at : ∀ {xs : List PyData} {n : Nat}, PyData.depthAll xs ≤ n → ∀ {i : Nat} {d : PyData}, xs[i]? = some d → d.depth ≤ n
  | [], _, _, i, d, h => by simp at h
  | x :: xs, n, h, i, d, e => by
    rw [PyData.depthAll] at h
    cases i with
    | zero =>
      have z : x = d := Option.some.inj e
      rw [← z]; exact Nat.le_trans (Nat.le_max_left _ _) h
    | succ i => exact depth_at (Nat.le_trans (Nat.le_max_right _ _) h) (i := i) e
def spIsInt : Sp := fun vs H Q _ => ∃ i : Int, vs = [.int i] ∧ Q (.bl true) H
/-- two equal data of numbers, None and lists, n deep at most -/
def spSame (K : PySem.W.Frag) (n : Nat) : Sp := fun vs H Q _ => ∃ (x y : V) (d : PyData), vs = [x, y] ∧ Dp K H x d ∧ Dp K H y d ∧ ist d = true ∧ d.depth ≤ n ∧
  Mak H Q fun z _ => z = .bl true
theorem lstT {K : PySem.W.Frag} {H : Hp} {a : Addr} {xs : List V} (h : SqL K H a xs) : TyX K H (.ref a) (.type "list") := by
  rcases h with (h | ⟨o, h⟩) | ⟨o, its, n, hk, hc, _⟩
  · exact .base (.lst h)
  · exact .base (.frz h)
  · exact .kList hk hc
theorem kitI {K : PySem.W.Frag} : PySem.W.kitAny K (.type "int") [.type "list", .type "tuple"] = some false :=
  kitAny_cons (b := false) (kit_ty (by decide +kernel)) (fun _ => kitAny_cons (b := false) (kit_ty (by decide +kernel)) (fun _ => rfl) (fun h => Bool.noConfusion h)) (fun h => Bool.noConfusion h)
theorem kitN {K : PySem.W.Frag} : PySem.W.kitAny K (.type "NoneType") [.type "list", .type "tuple"] = some false :=
  kitAny_cons (b := false) (kit_ty (by decide +kernel)) (fun _ => kitAny_cons (b := false) (kit_ty (by decide +kernel)) (fun _ => rfl) (fun h => Bool.noConfusion h)) (fun h => Bool.noConfusion h)
theorem kitL {K : PySem.W.Frag} : PySem.W.kitAny K (.type "list") [.type "list", .type "tuple"] = some true :=
  kitAny_cons (b := true) (kit_ty (by decide +kernel)) (fun h => Bool.noConfusion h) (fun _ => rfl)
section
variable {P : Program} {w : World} {K : PySem.W.Frag} {mg : Str → Option Value} {base : Heap}
theorem ok_isint {f : Addr} {fd : FuncData} (F : Fun K "_law_is_integer" "_law_is_integer" s_law_is_integer f fd) (T : Bl mg) :
    FnOk P w K mg base CX0 1 f fd ["actual"] spIsInt := by
  refine F.ok sc_law_is_integer (fun vs H Q E h => ?_) (fun cdv A outer s0 H vs Q E hr h => ?_)
  · obtain ⟨i, rfl, _⟩ := h
    rfl
  · obtain ⟨i, rfl, q⟩ := h
    refine ⟨_, (pss_one (ps_ret (pe_and (pe_callB call_isi (by rfl) T.isinstance (by decide +kernel) (pa_cons (pv 0) (pa_cons (pe_ty "int" (by rfl) T.int (by decide +kernel)) pa_nil))) (pe_one (pe_not (pe_callB call_isi (by rfl) T.isinstance (by decide +kernel) (pa_cons (pv 0) (pa_cons (pe_ty "bool" (by rfl) T.bool (by decide +kernel)) pa_nil)))))))), ?_⟩
    refine ⟨_, rfl, _, _, .type "int", .type "int", true, rfl, .ty _, .base (.int i), kit_ty (by decide +kernel), ?_⟩
    refine ⟨_, rfl, iteT ?_⟩
    refine ⟨_, rfl, _, _, .type "int", .type "bool", false, rfl, .ty _, .base (.int i), kit_ty (by decide +kernel), ?_⟩
    exact ⟨_, rfl, q⟩
/-- the scalar ways -/
theorem ok_same0 {f : Addr} {fd : FuncData} (F : Fun K "_law_same" "_law_same" s_law_same f fd) (T : Bl mg)
    (D_law_is_integer : Kn P w K mg base 1 "_law_is_integer" ["actual"] spIsInt) :
    FnOk P w K mg base CX0 2 f fd ["actual", "expected"] (spSame K 0) := by
  refine F.ok sc_law_same (fun vs H Q E h => ?_) (fun cdv A outer s0 H vs Q E hr h => ?_)
  · obtain ⟨x, y, d, rfl, _⟩ := h
    rfl
  · obtain ⟨x, y, d, rfl, hx, hy, hi, hd, q⟩ := h
    refine ⟨_, (pss_cons (ps_if (pt_val (pe_callB call_isiT (by rfl) T.isinstance (by decide +kernel) (pa_cons (pv 1) (pa_cons (pe_tup (pa_cons (pe_ty "list" (by rfl) T.list (by decide +kernel)) (pa_cons (pe_ty "tuple" (by rfl) T.tuple (by decide +kernel)) pa_nil))) pa_nil)))) pss_never pss_nil)
      (pss_cons (ps_if (pt_cmpR op_isN (pv 1) pe_non (nomark _)) (pss_one (ps_ret (pe_cmpR op_isN (pv 0) pe_non (nomark _)))) pss_nil)
      (pss_cons (ps_if (pt_val (pe_callB call_isi (by rfl) T.isinstance (by decide +kernel) (pa_cons (pv 1) (pa_cons (pe_ty "bool" (by rfl) T.bool (by decide +kernel)) pa_nil)))) pss_never pss_nil)
      (pss_cons (ps_if (pt_val (pe_callB call_isi (by rfl) T.isinstance (by decide +kernel) (pa_cons (pv 1) (pa_cons (pe_ty "int" (by rfl) T.int (by decide +kernel)) pa_nil)))) (pss_one (ps_ret (pe_and (pe_kn D_law_is_integer hr (pa_cons (pv 0) pa_nil)) (pe_one (pe_cmpR op_eq (pv 0) (pv 1) (nomark _)))))) pss_nil)
      pss_never)))), ?_⟩
    cases hy with
    | int i =>
      cases hx
      refine ⟨_, rfl, sz 2, fun t nt => ?_⟩
      refine ⟨_, _, _, _, _, false, rfl, upd_same, .cons (.ty "list") (.cons (.ty "tuple") .nil), .base (.int i), kitI, ?_⟩
      refine ⟨_, rfl, iteF ?_⟩
      refine ⟨_, rfl, rfl, _, rfl, ite2 (fun e => absurd e (by simp)) (fun _ => ?_)⟩
      refine ⟨_, rfl, _, _, .type "int", .type "bool", false, rfl, .ty _, .base (.int i), kit_ty (by decide +kernel), ?_⟩
      refine ⟨_, rfl, iteF ?_⟩
      refine ⟨_, rfl, _, _, .type "int", .type "int", true, rfl, .ty _, .base (.int i), kit_ty (by decide +kernel), ?_⟩
      refine ⟨_, rfl, iteT ?_⟩
      refine ⟨_, rfl, i, rfl, _, rfl, iteT ?_⟩
      exact ⟨_, rfl, _, rfl, rfl, q _ _ (by rw [decide_eq_true rfl]) (Same.new nt)⟩
    | non =>
      cases hx
      refine ⟨_, rfl, sz 2, fun t nt => ?_⟩
      refine ⟨_, _, _, _, _, false, rfl, upd_same, .cons (.ty "list") (.cons (.ty "tuple") .nil), .base .non, kitN, ?_⟩
      refine ⟨_, rfl, iteF ?_⟩
      refine ⟨_, rfl, rfl, _, rfl, ite2 (fun _ => ?_) (fun e => absurd (decide_eq_true rfl) e)⟩
      exact ⟨_, rfl, rfl, q _ _ (by rw [decide_eq_true rfl]) (Same.new nt)⟩
    | lst _ _ => exact absurd hd (by rw [PyData.depth]; omega)
    | _ => exact absurd hi (by simp [K1.ist])
theorem ok_sameS {f : Addr} {fd : FuncData} (F : Fun K "_law_same" "_law_same" s_law_same f fd) (T : Bl mg) {n : Nat}
    (D_law_is_integer : Kn P w K mg base 1 "_law_is_integer" ["actual"] spIsInt)
    (D_law_same : Kn P w K mg base (n + 2) "_law_same" ["actual", "expected"] (spSame K n)) :
    FnOk P w K mg base CX0 (n + 3) f fd ["actual", "expected"] (spSame K (n + 1)) := by
  refine F.ok sc_law_same (fun vs H Q E h => ?_) (fun cdv A outer s0 H vs Q E hr h => ?_)
  · obtain ⟨x, y, d, rfl, _⟩ := h
    rfl
  · obtain ⟨x, y, d, rfl, hx, hy, hi, hd, q⟩ := h
    refine ⟨_, (pss_cons (ps_if (pt_val (pe_callB call_isiT (by rfl) T.isinstance (by decide +kernel) (pa_cons (pv 1) (pa_cons (pe_tup (pa_cons (pe_ty "list" (by rfl) T.list (by decide +kernel)) (pa_cons (pe_ty "tuple" (by rfl) T.tuple (by decide +kernel)) pa_nil))) pa_nil)))) (pss_cons (ps_if (PW.pt (pw_or (pt_cmpR op_ne (pe_callB call_isi (by rfl) T.isinstance (by decide +kernel) (pa_cons (pv 1) (pa_cons (pe_ty "list" (by rfl) T.list (by decide +kernel)) pa_nil))) (pe_callB call_isi (by rfl) T.isinstance (by decide +kernel) (pa_cons (pv 0) (pa_cons (pe_ty "list" (by rfl) T.list (by decide +kernel)) pa_nil))) (nomark _)) (pw_or1 (pt_cmpR op_ne (pe_callB call_isi (by rfl) T.isinstance (by decide +kernel) (pa_cons (pv 1) (pa_cons (pe_ty "tuple" (by rfl) T.tuple (by decide +kernel)) pa_nil))) (pe_callB call_isi (by rfl) T.isinstance (by decide +kernel) (pa_cons (pv 0) (pa_cons (pe_ty "tuple" (by rfl) T.tuple (by decide +kernel)) pa_nil))) (nomark _))))) (pss_one (ps_ret pe_bl)) pss_nil)
      (pss_cons (ps_if (pt_cmpR op_ne (pe_callB call_len_seq (by rfl) T.len PySem.boot_len (pa_cons (pv 0) pa_nil)) (pe_callB call_len_seq (by rfl) T.len PySem.boot_len (pa_cons (pv 1) pa_nil)) (nomark _)) (pss_one (ps_ret pe_bl)) pss_nil)
      (pss_cons (ps_for PassesOwn.never rfl (pi_range1 (by rfl) T.range (pa_cons (pe_callB call_len_seq (by rfl) T.len PySem.boot_len (pa_cons (pv 1) pa_nil)) pa_nil)) (pg_name (i := 2) sc_law_same.nd rfl (.inl rfl)) (pss_one (ps_if (pt_not (pt_val (pe_kn D_law_same hr (pa_cons (pe_ix ix_seq (pv 0) (pv 2) (fun _ _ => rfl)) (pa_cons (pe_ix ix_seq (pv 1) (pv 2) (fun _ _ => rfl)) pa_nil)) (Nat.le_refl _)))) (pss_one (ps_ret pe_bl)) pss_nil)))
      (pss_one (ps_ret pe_bl))))) pss_nil)
      (pss_cons (ps_if (pt_cmpR op_isN (pv 1) pe_non (nomark _)) (pss_one (ps_ret (pe_cmpR op_isN (pv 0) pe_non (nomark _)))) pss_nil)
      (pss_cons (ps_if (pt_val (pe_callB call_isi (by rfl) T.isinstance (by decide +kernel) (pa_cons (pv 1) (pa_cons (pe_ty "bool" (by rfl) T.bool (by decide +kernel)) pa_nil)))) pss_never pss_nil)
      (pss_cons (ps_if (pt_val (pe_callB call_isi (by rfl) T.isinstance (by decide +kernel) (pa_cons (pv 1) (pa_cons (pe_ty "int" (by rfl) T.int (by decide +kernel)) pa_nil)))) (pss_one (ps_ret (pe_and (pe_kn D_law_is_integer hr (pa_cons (pv 0) pa_nil) (by omega)) (pe_one (pe_cmpR op_eq (pv 0) (pv 1) (nomark _)))))) pss_nil)
      pss_never)))), ?_⟩
    cases hy with
    | int i =>
      cases hx
      refine ⟨_, rfl, sz 2, fun t nt => ?_⟩
      refine ⟨_, _, _, _, _, false, rfl, upd_same, .cons (.ty "list") (.cons (.ty "tuple") .nil), .base (.int i), kitI, ?_⟩
      refine ⟨_, rfl, iteF ?_⟩
      refine ⟨_, rfl, rfl, _, rfl, ite2 (fun e => absurd e (by simp)) (fun _ => ?_)⟩
      refine ⟨_, rfl, _, _, .type "int", .type "bool", false, rfl, .ty _, .base (.int i), kit_ty (by decide +kernel), ?_⟩
      refine ⟨_, rfl, iteF ?_⟩
      refine ⟨_, rfl, _, _, .type "int", .type "int", true, rfl, .ty _, .base (.int i), kit_ty (by decide +kernel), ?_⟩
      refine ⟨_, rfl, iteT ?_⟩
      refine ⟨_, rfl, i, rfl, _, rfl, iteT ?_⟩
      exact ⟨_, rfl, _, rfl, rfl, q _ _ (by rw [decide_eq_true rfl]) (Same.new nt)⟩
    | non =>
      cases hx
      refine ⟨_, rfl, sz 2, fun t nt => ?_⟩
      refine ⟨_, _, _, _, _, false, rfl, upd_same, .cons (.ty "list") (.cons (.ty "tuple") .nil), .base .non, kitN, ?_⟩
      refine ⟨_, rfl, iteF ?_⟩
      refine ⟨_, rfl, rfl, _, rfl, ite2 (fun _ => ?_) (fun e => absurd (decide_eq_true rfl) e)⟩
      exact ⟨_, rfl, rfl, q _ _ (by rw [decide_eq_true rfl]) (Same.new nt)⟩
    | @lst b ys ds sy ay =>
      cases hx with
      | @lst a xs _ sx ax =>
        have lx := DpAll.len ax
        have ly := DpAll.len ay
        refine ⟨_, rfl, sz 2, fun t nt => ?_⟩
        have s1 := Same.new (o := .tup [.ty "list", .ty "tuple"]) nt
        have tx := lstT (s1.seq sx)
        have ty := lstT (s1.seq sy)
        refine ⟨_, _, _, _, _, true, rfl, upd_same, .cons (.ty "list") (.cons (.ty "tuple") .nil), ty, kitL, ?_⟩
        refine ⟨_, rfl, iteT ?_⟩
        refine ⟨_, rfl, _, _, .type "list", .type "list", true, rfl, .ty _, ty, kit_ty (by decide +kernel), ?_⟩
        refine ⟨_, rfl, _, _, .type "list", .type "list", true, rfl, .ty _, tx, kit_ty (by decide +kernel), ?_⟩
        refine ⟨rfl, _, rfl, ?_⟩
        refine iteF ?_
        refine ⟨_, rfl, _, _, .type "list", .type "tuple", false, rfl, .ty _, ty, kit_ty (by decide +kernel), ?_⟩
        refine ⟨_, rfl, _, _, .type "list", .type "tuple", false, rfl, .ty _, tx, kit_ty (by decide +kernel), ?_⟩
        refine ⟨rfl, _, rfl, ?_⟩
        refine iteF ?_
        refine ⟨_, rfl, a, xs, rfl, .inl (s1.seq sx), _, rfl, b, ys, rfl, .inl (s1.seq sy), rfl, _, rfl, ?_⟩
        rw [lx, ly]
        refine iteNS rfl ?_
        have bd : ds.length ≤ 1000 := by
          rw [K1.ist, Bool.and_eq_true] at hi
          exact of_decide_eq_true hi.1
        refine ⟨_, rfl, b, ys, rfl, .inl (s1.seq sy), (ys.length : Int), rfl, by omega, by omega, for_range (lo := 0) (n := (ys.length : Int).toNat) (fun i σ H4 => ∃ y2 : Option V, σ = [some (.ref a), some (.ref b), y2] ∧ Same H H4)
          ⟨none, rfl, s1⟩ (fun i σ H4 hi4 hP => ?_) (fun σ H4 hP => ?_)⟩
        · obtain ⟨y2, rfl, sm⟩ := hP
          have il : i < ds.length := by omega
          have ed := List.getElem?_eq_getElem il
          obtain ⟨u, eu, du⟩ := DpAll.get ax ed
          obtain ⟨v, ev, dv⟩ := DpAll.get ay ed
          have id : ist ds[i] = true := ists_at (by rw [K1.ist, Bool.and_eq_true] at hi; exact hi.2) ed
          have dd : PyData.depthAll ds ≤ n := by
            rw [PyData.depth] at hd
            omega
          refine ⟨_, rfl, _, rfl, .inl ⟨a, xs, _, u, rfl, rfl, sm.seq sx, at_of (j := i) (by omega) eu, _, rfl, _, rfl, .inl ⟨b, ys, _, v, rfl, rfl, sm.seq sy, at_of (j := i) (by omega) ev, u, v, ds[i], rfl,
            Dp.sm sm _ _ du, Dp.sm sm _ _ dv, id, depth_at dd ed, ?_⟩⟩⟩
          rintro z H5 rfl s5
          exact ⟨_, rfl, iteF ⟨_, rfl, sm.trans s5⟩⟩
        · obtain ⟨y2, rfl, sm⟩ := hP
          exact q _ _ rfl sm
    | _ => exact absurd hi (by simp [K1.ist])
end
end K1
namespace K1
open PySem PySem.Spec PyProof.Rows L2 Ow
abbrev slaw : Stmt := topS 29
abbrev Nlaw : List Str := ["script", "state", "rows", "k", "passed", "due", "told", "sector", "values", "buckets", "row", "j"]
theorem sclaw : FnScope Nlaw ["script"] (defScope slaw) := ⟨rfl, rfl, rfl, by decide +kernel, rfl, by decide +kernel, by decide +kernel⟩
def spLaw (K : PySem.W.Frag) : Sp := fun vs H Q _ => ∃ (a : Addr) (ns : List Int), vs = [.ref a] ∧ SqL K H a (ns.map V.int) ∧ ns.length ≤ 63 ∧ ∀ H', Q (.bl true) H'
theorem Rng.tk {K : PySem.W.Frag} {d p : Addr} {H H' : Hp} (r : Rng d H p) (g : Gw p H H') : Tk K H H' := by
  obtain ⟨ds, k, h, _⟩ := r
  exact Tk.gw h g
theorem RowsOk.tk {K : PySem.W.Frag} {H H' : Hp} {rs : List (Addr × List V)} (t : Tk K H H') (h : RowsOk K H rs) : RowsOk K H' rs := fun u m => ⟨t _ _ (h u m).1, (h u m).2⟩
theorem RowsOk.snoc {K : PySem.W.Frag} {H : Hp} {rs : List (Addr × List V)} {q : Addr} {xs : List V} (h : RowsOk K H rs) (hq : SqT K H q xs) (sx : ∀ x ∈ xs, Scal x) (lx : xs.length ≤ 10) : RowsOk K H (rs ++ [(q, xs)]) := by
  intro u m
  rcases List.mem_append.mp m with m | m
  · exact h u m
  · rw [List.mem_singleton.mp m]
    exact ⟨hq, sx, lx⟩
theorem rrefs_snoc {rs : List (Addr × List V)} {t : Addr × List V} : rrefs (rs ++ [t]) = rrefs rs ++ [.ref t.1] := by
  unfold rrefs
  rw [List.map_append]
  rfl
theorem rrefs_len (rs : List (Addr × List V)) : (rrefs rs).length = rs.length := by unfold rrefs; rw [List.length_map]
/-! packs and rows as data -/
def secD (s : List Int) : PyData := .list (s.map .int)
def pkD (ss : List (List Int)) : PyData := .list (ss.map secD)
theorem ints_dp {K : PySem.W.Frag} {H : Hp} : ∀ s : List Int, DpAll K H (s.map V.int) (s.map PyData.int)
  | [] => .nil
  | x :: s => .cons (.int x) (ints_dp s)
theorem secs_dp {K : PySem.W.Frag} {H : Hp} : ∀ {ts : List (Addr × List Int)}, Parts H ts → DpAll K H (refs ts) ((ts.map (·.2)).map secD)
  | [], _ => .nil
  | t :: ts, h => .cons (.lst (SqL.of (h t List.mem_cons_self)) (ints_dp t.2)) (secs_dp (ts := ts) fun u m => h u (List.mem_cons_of_mem _ m))
theorem pk_dp {K : PySem.W.Frag} {H : Hp} {p : Addr} {ts : List (Addr × List Int)} {ss : List (List Int)} (h : H p = some (.lst (refs ts))) (pt : Parts H ts) (e : ts.map (·.2) = ss) : Dp K H (.ref p) (pkD ss) := by
  rw [← e]
  exact .lst (SqL.of h) (secs_dp pt)
theorem ists_ints : ∀ s : List Int, ists (s.map PyData.int) = true
  | [] => by simp [ists]
  | x :: s => by rw [List.map_cons, ists, ists_ints s]; simp [ist]
theorem pk_ist {ss : List (List Int)} (l : ss.length ≤ 100) (h : ∀ s ∈ ss, s.length ≤ 100) : ist (pkD ss) = true := by
  unfold pkD
  rw [ist, List.length_map, decide_eq_true (by omega), Bool.true_and]
  refine ists_all fun x m => ?_
  obtain ⟨s, ms, rfl⟩ := List.mem_map.mp m
  unfold secD
  have := h s ms
  rw [ist, List.length_map, decide_eq_true (by omega), Bool.true_and, ists_ints]
theorem depth_ints : ∀ s : List Int, PyData.depthAll (s.map PyData.int) = 0
  | [] => by simp [PyData.depthAll]
  | x :: s => by rw [List.map_cons, PyData.depthAll, depth_ints s]; simp [PyData.depth]
theorem depthAll_le : ∀ {xs : List PyData} {n : Nat}, (∀ x ∈ xs, x.depth ≤ n) → PyData.depthAll xs ≤ n
  | [], n, _ => by simp [PyData.depthAll]
  | x :: xs, n, h => by
    rw [PyData.depthAll]
    exact Nat.max_le.mpr ⟨h x List.mem_cons_self, depthAll_le fun y m => h y (List.mem_cons_of_mem _ m)⟩
theorem pk_depth (ss : List (List Int)) : (pkD ss).depth ≤ 2 := by
  unfold pkD
  rw [PyData.depth]
  have : PyData.depthAll (ss.map secD) ≤ 1 := depthAll_le fun x m => by
    obtain ⟨s, _, rfl⟩ := List.mem_map.mp m
    unfold secD
    rw [PyData.depth, depth_ints]
    exact Nat.le_refl _
  omega
def scD : V → PyData
  | .int i => .int i
  | .str z => .str z
  | _ => .none
def rowD (xs : List V) : PyData := .tuple (xs.map scD)
def rwsD (rs : List (Addr × List V)) : PyData := .list (rs.map fun t => rowD t.2)
theorem sc_dp {K : PySem.W.Frag} {H : Hp} : ∀ {xs : List V}, (∀ x ∈ xs, Scal x) → DpAll K H xs (xs.map scD)
  | [], _ => .nil
  | x :: xs, h => by
    have h1 := sc_dp (K := K) (H := H) (xs := xs) fun z m => h z (List.mem_cons_of_mem _ m)
    rcases h x List.mem_cons_self with ⟨i, rfl, _⟩ | ⟨z, rfl, _⟩
    · exact .cons (.int i) h1
    · exact .cons (.str z) h1
theorem rws_dp {K : PySem.W.Frag} {H : Hp} : ∀ {rs : List (Addr × List V)}, RowsOk K H rs → DpAll K H (rrefs rs) (rs.map fun t => rowD t.2)
  | [], _ => .nil
  | t :: rs, h => .cons (.tup (h t List.mem_cons_self).1 (sc_dp (h t List.mem_cons_self).2.1)) (rws_dp (rs := rs) fun u m => h u (List.mem_cons_of_mem _ m))
theorem Pr.ok {z : Str} (h : Pr z) : PyData.canLay0 (.str z) = true := by
  rw [PyData.canLay0]
  show z.cps.all (fun c => decide (c < 0x110000)) = true
  rw [Array.all_eq_true]
  intro i hi
  have := h z.cps[i] (by simp)
  exact decide_eq_true (by omega)
theorem layAll : ∀ {xs : List PyData}, (∀ x ∈ xs, x.canLay0 = true) → PyData.canLayAll0 xs = true
  | [], _ => by simp [PyData.canLayAll0]
  | x :: xs, h => by
    rw [PyData.canLayAll0, h x List.mem_cons_self, layAll fun y m => h y (List.mem_cons_of_mem _ m)]
    rfl
theorem sc_lay {v : V} (h : Scal v) : (scD v).canLay0 = true ∧ (scD v).depth = 0 := by
  rcases h with ⟨i, rfl, _⟩ | ⟨z, rfl, p, _⟩
  · simp [scD, PyData.canLay0, PyData.depth]
  · exact ⟨p.ok, by simp [scD, PyData.depth]⟩
theorem rws_shaped {K : PySem.W.Frag} {H : Hp} {rs : List (Addr × List V)} (h : RowsOk K H rs) : SeqAt.shaped (rwsD rs) = true := by
  have r1 : ∀ t ∈ rs, (rowD t.2).canLay0 = true ∧ (rowD t.2).depth ≤ 1 := fun t m => by
    unfold rowD
    rw [PyData.canLay0, PyData.depth]
    refine ⟨layAll fun x mx => ?_, ?_⟩
    · obtain ⟨v, mv, rfl⟩ := List.mem_map.mp mx
      exact (sc_lay ((h t m).2.1 v mv)).1
    · have : PyData.depthAll (t.2.map scD) ≤ 0 := depthAll_le fun x mx => by
        obtain ⟨v, mv, rfl⟩ := List.mem_map.mp mx
        rw [(sc_lay ((h t m).2.1 v mv)).2]
        exact Nat.le_refl _
      omega
  unfold SeqAt.shaped rwsD
  rw [PyData.canLay0, PyData.depth]
  have l : PyData.canLayAll0 (rs.map fun t => rowD t.2) = true := layAll fun x mx => by
    obtain ⟨t, mt, rfl⟩ := List.mem_map.mp mx
    exact (r1 t mt).1
  have e : PyData.depthAll (rs.map fun t => rowD t.2) ≤ 1 := depthAll_le fun x mx => by
    obtain ⟨t, mt, rfl⟩ := List.mem_map.mp mx
    exact (r1 t mt).2
  rw [l, decide_eq_true (by omega)]
  rfl
theorem lay_of {d : PyData} (h : SeqAt.shaped d = true) : d.canLay0 = true := by
  unfold SeqAt.shaped at h
  rw [Bool.and_eq_true] at h
  exact h.1
theorem refs_ne {H : Hp} {p : Addr} {ts : List (Addr × List Int)} (h : H p = some (.lst (refs ts))) (pt : Parts H ts) : ∀ t ∈ ts, p ≠ t.1 := by
  intro t m e
  have := pt t m
  rw [← e, h] at this
  injection this with this
  injection this with this
  cases ts with
  | nil => cases m
  | cons u us =>
    unfold refs at this
    rw [List.map_cons] at this
    cases hx : t.2 with
    | nil => rw [hx] at this; cases this
    | cons y ys =>
      rw [hx, List.map_cons] at this
      injection this with h1 _
      cases h1
section
variable {P : Program} {w : World} {K : PySem.W.Frag} {mg : Str → Option Value} {base : Heap}
theorem ok_law {f : Addr} {fd : FuncData} (F : Fun K "law" "law" slaw f fd) (T : Bl mg)
    (D_law_draws : Kn P w K mg base 2 "_law_draws" ["script"] (spDraws K))
    (D_law_next : Kn P w K mg base 3 "_law_next" ["state", "limit"] spNext)
    (D_law_row : Kn P w K mg base 6 "_law_row" ["state", "width"] spRow)
    (D_law_small : Kn P w K mg base 6 "_law_small" ["state"] spValue)
    (D_law_long_row : Kn P w K mg base 4 "_law_long_row" ["state"] spLong)
    (D_law_row_bytes : Kn P w K mg base 5 "_law_row_bytes" ["row"] (spRB K))
    (D_law_pack : Kn P w K mg base 6 "_law_pack" ["rows"] (spPack K))
    (Dpack : Kn P w K mg base 5 "pack" ["rows"] (spPack K))
    (D_law_same : Kn P w K mg base 4 "_law_same" ["actual", "expected"] (spSame K 2))
    (Dbucket_of_values : Kn P w K mg base 5 "bucket_of_values" ["values", "buckets"] (spBuck K))
    (D_law_bucket : Kn P w K mg base 6 "_law_bucket" ["values", "buckets"] (spBuck K)) :
    FnOk P w K mg base CX0 8 f fd ["script"] (spLaw K) := by
  refine F.ok sclaw (fun vs H Q E h => ?_) (fun cdv A outer s0 H vs Q E hr h => ?_)
  · obtain ⟨a, ns, rfl, _⟩ := h
    rfl
  · obtain ⟨a, ns, rfl, hS, hlen, q⟩ := h
    refine ⟨_, (pss_cons (ps_set (i := 1) sclaw.nd rfl (.inr rfl) (pe_lst (pa_cons (pe_kn D_law_draws hr (pa_cons (pv 0) pa_nil)) (pa_cons pe_int pa_nil))))
      (pss_cons (ps_set (i := 2) sclaw.nd rfl (.inl rfl) (pe_lst pa_nil))
      (pss_cons (ps_for PassesOwn.never rfl (pi_range1 (by rfl) T.range (pa_cons (pe_kn D_law_next hr (pa_cons (pv 1) (pa_cons pe_int pa_nil))) pa_nil)) (pg_name (i := 3) sclaw.nd rfl (.inl rfl)) (pss_one (ps_if (pt_cmpR op_eq (pe_kn D_law_next hr (pa_cons (pv 1) (pa_cons pe_int pa_nil))) pe_int (nomark _)) (pss_one (ps_expr (pe_bm PySem.F.plainAttrs_list PySem.F.slot_list_append PySem.F.type_list_append mt_append (pv 2) (pa_cons (pe_kn D_law_long_row hr (pa_cons (pv 1) pa_nil)) pa_nil)))) (pss_one (ps_expr (pe_bm PySem.F.plainAttrs_list PySem.F.slot_list_append PySem.F.type_list_append mt_append (pv 2) (pa_cons (pe_callTy call_tuple_of (by rfl) T.tuple (by decide +kernel) (pa_cons (pe_lc (own := [("j", 11)]) (g := gName 11) rfl sclaw.nd (pi_range1 (by rfl) T.range (pa_cons (pe_kn D_law_next hr (pa_cons (pv 1) (pa_cons pe_int pa_nil))) pa_nil)) (blkOk_by (own := [("j", 11)]) (N := Nlaw) (sc := defScope slaw) (by decide +kernel)) (fun _ _ _ _ _ => pg_name (i := 11) sclaw.nd rfl (Or.inl rfl)) (fun _ _ _ _ _ => pts_nil) (fun _ _ _ _ _ => (pe_kn D_law_small hr (pa_cons (pv 1) pa_nil)))) pa_nil)) pa_nil)))))))
      (pss_mid (ps_if (pt_cmpR op_gt (pe_kn D_law_next hr (pa_cons (pv 1) (pa_cons pe_int pa_nil))) pe_int (nomark _)) (pss_one (ps_setLc (i := 2) (own := [("row", 10)]) (g := gName 10) rfl sclaw.nd rfl rfl (sw_true rfl rfl rfl (by decide +kernel)) (pi_list (pv 2)) (blkOk_by (own := [("row", 10)]) (N := Nlaw) (sc := defScope slaw) (by decide +kernel)) (fun _ _ _ _ _ => pg_name (i := 10) sclaw.nd rfl (Or.inl rfl)) (fun _ _ _ _ _ => (pts_one (pt_cmpR op_lt (pe_callB (call_len_K (K := K) rfl) (by rfl) T.len PySem.boot_len (pa_cons (pe_kn D_law_row_bytes hr (pa_cons (pv 10) pa_nil)) pa_nil)) pe_int (nomark _)))) (fun _ _ _ _ _ => (pv 10)))) pss_nil)
      (pss_cons (ps_set (i := 4) sclaw.nd rfl (.inl rfl) (pe_callTy call_list_of (by rfl) T.list (by decide +kernel) (pa_cons (pv 2) pa_nil)))
      (pss_cons (ps_set (i := 5) sclaw.nd rfl (.inl rfl) (pe_kn D_law_pack hr (pa_cons (pv 2) pa_nil)))
      (pss_cons (ps_set (i := 6) sclaw.nd rfl (.inl rfl) (pe_kn Dpack hr (pa_cons (pv 4) pa_nil)))
      (pss_cons (ps_if (PW.pt (pw_or (pt_not (pt_val (pe_kn D_law_same hr (pa_cons (pv 6) (pa_cons (pv 5) pa_nil))))) (pw_or1 (pt_cmpR (op_neD (hu64 hr)) (pv 4) (pv 2) (nomark _))))) (pss_one (ps_ret pe_bl)) pss_nil)
      (pss_mid (ps_if (pt_cmpR op_notN (pv 5) pe_non (nomark _)) (pss_cons (ps_for PassesOwn.never rfl (pi_list (pv 6)) (pg_name (i := 7) sclaw.nd rfl (.inl rfl)) (pss_one (ps_expr (pe_bm PySem.F.plainAttrs_list PySem.F.slot_list_append PySem.F.type_list_append mt_append (pv 7) (pa_cons pe_int pa_nil)))))
      (pss_one (ps_if (pt_not (pt_val (pe_kn D_law_same hr (pa_cons (pe_kn Dpack hr (pa_cons (pv 4) pa_nil)) (pa_cons (pv 5) pa_nil))))) (pss_one (ps_ret pe_bl)) pss_nil))) pss_nil)
      (pss_cons (ps_for PassesOwn.never rfl (pi_range1 (by rfl) T.range (pa_cons pe_int pa_nil)) (pg_name (i := 3) sclaw.nd rfl (.inl rfl)) (pss_cons (ps_set (i := 8) sclaw.nd rfl (.inl rfl) (pe_kn D_law_row hr (pa_cons (pv 1) (pa_cons (pe_op op_add pe_int (pe_kn D_law_next hr (pa_cons (pv 1) (pa_cons pe_int pa_nil)))) pa_nil))))
      (pss_cons (ps_set (i := 9) sclaw.nd rfl (.inl rfl) (pe_op op_add pe_int (pe_kn D_law_next hr (pa_cons (pv 1) (pa_cons pe_int pa_nil)))))
      (pss_one (ps_if (pt_not (pt_val (pe_kn D_law_same hr (pa_cons (pe_kn Dbucket_of_values hr (pa_cons (pv 8) (pa_cons (pv 9) pa_nil))) (pa_cons (pe_kn D_law_bucket hr (pa_cons (pv 8) (pa_cons (pv 9) pa_nil))) pa_nil))))) (pss_one (ps_ret pe_bl)) pss_nil)))))
      (pss_one (ps_ret (pe_kn D_law_same hr (pa_cons (pe_kn Dpack hr (pa_cons (pe_lst pa_nil) pa_nil)) (pa_cons (pe_lst pa_nil) pa_nil))))))))))))))), ?_⟩
    -- state = [_law_draws(script), 20]
    refine ⟨_, rfl, a, ns, rfl, hS, hlen, ?_⟩
    intro H1 d ds sm1 nd ed
    refine ⟨sz 2, fun p np => ?_⟩
    have ndp : d ≠ p := ne_of_none ed np
    have rg2 : Rng d (upd H1 p (.lst [.ref d, .int 20])) p := ⟨ds, 20, upd_same, by decide, by rw [upd_ne ndp]; exact ed⟩
    generalize (upd H1 p (.lst [.ref d, .int 20])) = H2 at rg2 ⊢
    -- rows
    refine ⟨sz 0, fun r nr => ?_⟩
    have nrp := rg2.free nr
    have rg2' := rg2.same (Same.new (o := .lst []) nr)
    have er2 : (upd H2 r (.lst [])) r = some (.lst []) := upd_same
    generalize (upd H2 r (.lst [])) = H2' at rg2' er2 ⊢
    refine ⟨_, rfl, p, d, 41, rfl, by decide, rg2', ?_⟩
    rintro x3 H3 ⟨m, rfl, m0, m1⟩ gw3 rg3
    refine ⟨m, rfl, by omega, by omega, for_range (lo := 0) (n := m.toNat) (fun i σ H4 => ∃ (y3 : Option V) (rs : List (Addr × List V)), σ = [some (V.ref a), some (V.ref p), some (V.ref r), y3, none, none, none, none, none, none, none, none] ∧
        H4 r = some (.lst (rrefs rs)) ∧ RowsOk K H4 rs ∧ rs.length = i ∧ Rng d H4 p)
      ⟨none, [], rfl, gw3.keep er2 nrp.1, (fun _ m => nomatch m), rfl, rg3⟩ (fun i σ H4 hi hP => ?_) (fun σ H4 hP => ?_)⟩
    · obtain ⟨y3, rs, rfl, er, ro, lr, rg4⟩ := hP
      refine ⟨_, rfl, p, d, 25, rfl, by decide, rg4, ?_⟩
      rintro x5 H5 ⟨z, rfl, z0, z1⟩ gw5 rg5
      have er5 := gw5.keep er nrp.1
      have ro5 := ro.tk (Rng.tk rg4 gw5)
      have lsz : (rrefs rs).length < sizeLine := by
        rw [rrefs_len]
        exact small (m := 1000) (by omega) (by decide)
      refine ⟨rfl, _, rfl, ite2 (fun e => ?_) (fun e => ?_)⟩
      · refine ⟨_, rfl, .inl ⟨rfl, _, .inl (.inl er5)⟩, _, rfl, p, d, rfl, rg5, ?_⟩
        rintro x6 H6 ⟨q6, xs, rfl, e6, l6, s6⟩ gw6 rg6
        have er6 := gw6.keep er5 nrp.1
        have ro6 := ro5.tk (Rng.tk rg5 gw6)
        have t6 : Tk K H6 (upd H6 r (.lst (rrefs rs ++ [.ref q6]))) := Tk.put er6
        exact ⟨r, rrefs rs, _, rfl, rfl, er6, lsz, _, rs ++ [(q6, xs)], rfl, by rw [upd_same, rrefs_snoc], (ro6.tk t6).snoc (t6 _ _ (SqT.of e6)) s6 (by omega), by rw [List.length_append, lr]; rfl, rg6.upd nrp⟩
      · refine ⟨_, rfl, .inl ⟨rfl, _, .inl (.inl er5)⟩, _, rfl, p, d, 5, rfl, by decide, rg5, ?_⟩
        rintro x6 H6 ⟨n6, rfl, n60, n61⟩ gw6 rg6
        have er6 := gw6.keep er5 nrp.1
        have ro6 := ro5.tk (Rng.tk rg5 gw6)
        refine ⟨n6, rfl, by omega, by omega, fun D nD => lc_range (lo := 0) (n := n6.toNat) (fun j H7 => ∃ us : List V, H7 D = some (.lst us) ∧ us.length = j ∧ (∀ y ∈ us, Scal y) ∧ Rng d H7 p ∧ H7 r = some (.lst (rrefs rs)) ∧ RowsOk K H7 rs)
          ⟨[], upd_same, rfl, (fun _ z => nomatch z), rg6.same (Same.new nD), (Same.new nD) _ _ er6, ro6.tk (Tk.same (Same.new nD))⟩ (fun j H7 hj hP => ?_) (fun H7 hP => ?_)⟩
        · obtain ⟨us, eD, lu, su, rg7, er7, ro7⟩ := hP
          have nDp := rg6.free nD
          have rD : r ≠ D := ne_of_none er6 nD
          refine ⟨rfl, ?_⟩
          refine ⟨_, rfl, p, d, rfl, rg7, ?_⟩
          rintro x H8 sx gw8 rg8
          have eD8 := gw8.keep eD nDp.1
          have t8 : Tk K H8 (upd H8 D (.lst (us ++ [x]))) := Tk.put eD8
          refine ⟨us, eD8, small (m := 1000) (by omega) (by decide), us ++ [x], upd_same, by rw [List.length_append, lu]; rfl, fun y hy => ?_, rg8.upd nDp, by rw [upd_ne rD]; exact gw8.keep er7 nrp.1, (ro7.tk (Rng.tk rg7 gw8)).tk t8⟩
          rcases List.mem_append.mp hy with h | h
          · exact su y h
          · rw [List.mem_singleton.mp h]
            exact sx
        · obtain ⟨us, eD, lu, su, rg7, er7, ro7⟩ := hP
          refine ⟨D, us, rfl, .inl ⟨SqL.of eD, fun l nl => ?_⟩⟩
          have rl : r ≠ l := ne_of_none er7 nl
          have er8 : (upd H7 l (.tup us)) r = some (.lst (rrefs rs)) := by rw [upd_ne rl]; exact er7
          have t8 : Tk K (upd H7 l (.tup us)) (upd (upd H7 l (.tup us)) r (.lst (rrefs rs ++ [.ref l]))) := Tk.put er8
          exact ⟨r, rrefs rs, _, rfl, rfl, er8, lsz, _, rs ++ [(l, us)], rfl, by rw [upd_same, rrefs_snoc], ((ro7.tk (Tk.same (Same.new nl))).tk t8).snoc (t8 _ _ (SqT.of upd_same)) su (by omega), by rw [List.length_append, lr]; rfl, (rg7.same (Same.new nl)).upd nrp⟩
    obtain ⟨y3, rs0, rfl, er, ro, lr, rg4⟩ := hP
    -- rows = [.. if ..]
    refine ⟨fun σ H7 => ∃ (y3 : Option V) (r : Addr) (rs : List (Addr × List V)), σ = [some (V.ref a), some (V.ref p), some (V.ref r), y3, none, none, none, none, none, none, none, none] ∧
        H7 r = some (.lst (rrefs rs)) ∧ RowsOk K H7 rs ∧ rs.length ≤ 40 ∧ Rng d H7 p, ?_, ?_⟩
    · refine ⟨_, rfl, p, d, 3, rfl, by decide, rg4, ?_⟩
      rintro x5 H5 ⟨z, rfl, z0, z1⟩ gw5 rg5
      have er5 := gw5.keep er nrp.1
      have ro5 := ro.tk (Rng.tk rg4 gw5)
      refine ⟨_, _, rfl, rfl, _, rfl, ite2 (fun e => ?_) (fun e => ?_)⟩
      · refine ⟨_, rfl, r, rfl, ⟨_, SqL.of er5⟩, fun D nD => lc_list (K := K) (a := r) (xs := rrefs rs0) (fun i H6 => ∃ rs : List (Addr × List V), H6 D = some (.lst (rrefs rs)) ∧ RowsOk K H6 rs ∧ rs.length ≤ i ∧ Same H5 H6)
          ⟨[], upd_same, (fun _ m => nomatch m), Nat.le_refl _, Same.new nD⟩ (fun i H6 hi hP => ?_) (fun i x H6 hi hP => ?_) (fun H6 hP => ?_)⟩
        · obtain ⟨_, _, _, _, s6⟩ := hP
          exact SqL.of (s6 _ _ er5)
        · obtain ⟨rs, eD, ro6, lr6, s6⟩ := hP
          obtain ⟨t, et, rfl⟩ := rrefs_get hi
          obtain ⟨ht, st, lt⟩ := ro5 t (List.mem_of_getElem? et)
          have il : i < rs0.length := (List.getElem?_eq_some_iff.mp et).1
          refine ⟨rfl, ?_⟩
          refine ⟨_, rfl, t.1, t.2, rfl, Tk.same s6 _ _ ht, st, lt, fun H8 o s8 no ho => ?_⟩
          refine ⟨o, _, rfl, .inl (SqL.of ho), _, _, rfl, rfl, _, rfl, ite2 (fun e => ?_) (fun e => ?_)⟩
          · have eD8 := s8 _ _ eD
            have t8 : Tk K H8 (upd H8 D (.lst (rrefs rs ++ [.ref t.1]))) := Tk.put eD8
            refine ⟨_, rfl, rrefs rs, eD8, ?_, rs ++ [t], by rw [upd_same, rrefs_snoc], ((ro6.tk (Tk.same s8)).tk t8).snoc (t8 _ _ (Tk.same (s6.trans s8) _ _ ht)) st lt, ?_, Same.over (s6.trans s8) nD⟩
            · rw [rrefs_len]
              exact small (m := 1000) (by omega) (by decide)
            · rw [List.length_append]
              show rs.length + 1 ≤ i + 1
              omega
          · exact ⟨rs, s8 _ _ eD, ro6.tk (Tk.same s8), by omega, s6.trans s8⟩
        · obtain ⟨rs, eD, ro6, lr6, s6⟩ := hP
          rw [rrefs_len] at lr6
          exact ⟨_, D, rs, rfl, eD, ro6, by omega, rg5.same s6⟩
      · exact ⟨_, r, rs0, rfl, er5, ro5, by omega, rg5⟩
    clear er ro lr rg4 nrp nr rg3 gw3 er2 rg2' rs0 y3
    rintro σ H4 ⟨y3, r, rs, rfl, er, ro, lr, rg4⟩
    -- passed, due, told
    refine ⟨_, rfl, r, rrefs rs, rfl, .inl (SqL.of er), fun l nl => ?_⟩
    have er5 := (Same.new (o := .lst (rrefs rs)) nl) _ _ er
    have ro5 := ro.tk (Tk.same (K := K) (Same.new (o := .lst (rrefs rs)) nl))
    have rg5 := rg4.same (Same.new (o := .lst (rrefs rs)) nl)
    have el5 := upd_same (H := H4) (a := l) (o := .lst (rrefs rs))
    generalize (upd H4 l (.lst (rrefs rs))) = H5 at *
    refine ⟨_, rfl, r, rs, rfl, SqL.of er5, ro5, by omega, fun due H6 s6 hdue => ?_⟩
    refine ⟨_, rfl, l, rs, rfl, SqL.of (s6 _ _ el5), ro5.tk (Tk.same s6), by omega, fun told H7 s7 htold => ?_⟩
    have s57 := s6.trans s7
    have same1 : ∃ d, Dp K H7 told d ∧ Dp K H7 due d ∧ ist d = true ∧ d.depth ≤ 2 := by
      cases hp : packO (codes rs) with
      | none =>
        rw [hp] at hdue htold
        have e1 : due = .non := hdue
        have e2 : told = .non := htold
        rw [e1, e2]
        exact ⟨.none, .non, .non, by simp [ist], by simp [PyData.depth]⟩
      | some ss =>
        rw [hp] at hdue htold
        obtain ⟨p5, ts5, rfl, n5, e5, m5, pt5, nt5, l5, l5'⟩ := hdue
        obtain ⟨p6, ts6, rfl, n6, e6, m6, pt6, nt6, l6, l6'⟩ := htold
        exact ⟨pkD ss, pk_dp e6 pt6 m6, Dp.sm s7 _ _ (pk_dp e5 pt5 m5), pk_ist l5 l5', pk_depth ss⟩
    obtain ⟨dd, dp1, dp2, di, ddp⟩ := same1
    refine ⟨_, rfl, _, rfl, told, due, dd, rfl, dp1, dp2, di, ddp, ?_⟩
    rintro z8 H8 rfl s8
    have s58 := s57.trans s8
    refine ⟨_, rfl, ?_⟩
    refine iteF ?_
    have ro8 := ro5.tk (Tk.same (K := K) s58)
    refine ⟨_, rfl, _, rfl, rwsD rs, rwsD rs, .lst (SqL.of (s58 _ _ el5)) (rws_dp ro8), .lst (SqL.of (s58 _ _ er5)) (rws_dp ro8), rws_shaped ro8, rws_shaped ro8, _, rfl, ?_⟩
    rw [SeqAt.eqv_refl _ (lay_of (rws_shaped ro8))]
    refine iteF ?_
    -- the sectors that are told are nobody else's
    refine ⟨fun σ H9 => ∃ y7 : Option V, σ = [some (V.ref a), some (V.ref p), some (V.ref r), y3, some (V.ref l), some due, some told, y7, none, none, none, none] ∧ Rng d H9 p, ?_, ?_⟩
    · cases hp : packO (codes rs) with
      | none =>
        rw [hp] at hdue
        have e1 : due = .non := hdue
        subst e1
        refine ⟨_, rfl, rfl, _, rfl, ?_⟩
        refine iteF ?_
        exact ⟨_, rfl, rg5.same s58⟩
      | some ss =>
        rw [hp] at hdue htold
        obtain ⟨p5, ts5, rfl, n5, e5, m5, pt5, nt5, l5, l5'⟩ := hdue
        obtain ⟨p6, ts6, rfl, n6, e6, m6, pt6, nt6, l6, l6'⟩ := htold
        refine ⟨_, rfl, rfl, _, rfl, ?_⟩
        refine iteT ?_
        have e68 := s8 _ _ e6
        have pt68 := pt6.same s8
        have p6n := refs_ne e68 pt68
        refine ⟨_, rfl, p6, rfl, ⟨_, SqL.of e68⟩, for_list (K := K) (a := p6) (xs := refs ts6) (fun i σ H9 => ∃ y7 : Option V, σ = [some (V.ref a), some (V.ref p), some (V.ref r), y3, some (V.ref l), some (V.ref p5), some (V.ref p6), y7, none, none, none, none] ∧
            Same H6 H9 ∧ H9 p6 = some (.lst (refs ts6)) ∧ ∀ t ∈ ts6, ∃ ys : List V, H9 t.1 = some (.lst ys) ∧ ys.length ≤ 100 + i)
          ⟨none, rfl, s7.trans s8, e68, fun t m => ⟨_, pt68 t m, by
            rw [List.length_map]
            have := l6' t.2 (by rw [← m6]; exact List.mem_map.mpr ⟨t, m, rfl⟩)
            omega⟩⟩ (fun i σ H9 hi hP => ?_) (fun i x σ H9 hi hP => ?_) (fun σ H9 hP => ?_)⟩
        · obtain ⟨_, _, _, h, _⟩ := hP
          exact SqL.of h
        · obtain ⟨y7, rfl, s9, e9, h9⟩ := hP
          obtain ⟨t, et, rfl⟩ := refs_get hi
          have mt := List.mem_of_getElem? et
          obtain ⟨ys, ey, ly⟩ := h9 t mt
          have il : i < ts6.length := (List.getElem?_eq_some_iff.mp et).1
          have lts : ts6.length ≤ 100 := by
            have := congrArg List.length m6
            rw [List.length_map] at this
            omega
          refine ⟨_, rfl, .inl ⟨rfl, _, .inl (.inl ey)⟩, t.1, ys, _, rfl, rfl, ey, small (m := 1000) (by omega) (by decide), _, rfl, Same.over s9 (nt6 t mt).1, by rw [upd_ne (p6n t mt)]; exact e9, fun u mu => ?_⟩
          by_cases ut : u.1 = t.1
          · rw [ut]
            exact ⟨_, upd_same, by rw [List.length_append]; show ys.length + 1 ≤ _; omega⟩
          · obtain ⟨zs, ez, lz⟩ := h9 u mu
            exact ⟨zs, by rw [upd_ne ut]; exact ez, by omega⟩
        · obtain ⟨y7, rfl, s9, e9, h9⟩ := hP
          have s59 := s6.trans s9
          refine ⟨_, rfl, l, rs, rfl, SqL.of (s59 _ _ el5), ro5.tk (Tk.same s59), by omega, fun told2 H10 s10 htold2 => ?_⟩
          rw [hp] at htold2
          obtain ⟨p7, ts7, rfl, n7, e7, m7, pt7, nt7, l7, l7'⟩ := htold2
          refine ⟨_, rfl, _, _, pkD ss, rfl, pk_dp e7 pt7 m7, Dp.sm (s9.trans s10) _ _ (pk_dp e5 pt5 m5), pk_ist l5 l5', pk_depth ss, ?_⟩
          rintro z11 H11 rfl s11
          exact ⟨_, rfl, iteF ⟨_, rfl, rg5.same ((s59.trans s10).trans s11)⟩⟩
    rintro σ H9 ⟨y7, rfl, rg9⟩
    -- buckets
    refine ⟨4, rfl, by decide, by decide, for_range (lo := 0) (n := 4) (fun i σ H10 => ∃ (y3 y8 y9 : Option V), σ = [some (V.ref a), some (V.ref p), some (V.ref r), y3, some (V.ref l), some due, some told, y7, y8, y9, none, none] ∧ Rng d H10 p)
      ⟨y3, none, none, rfl, rg9⟩ (fun i σ H10 hi hP => ?_) (fun σ H10 hP => ?_)⟩
    · obtain ⟨y3, y8, y9, rfl, rg10⟩ := hP
      refine ⟨_, rfl, _, rfl, p, d, 4, rfl, by decide, rg10, ?_⟩
      rintro x11 H11 ⟨n1, rfl, n10, n11⟩ gw11 rg11
      have en1 : 1 + n1 = (((1 + n1).toNat : Nat) : Int) := by omega
      refine ⟨_, _, rfl, rfl, p, d, (1 + n1).toNat, congrArg (fun t => [V.ref p, V.int t]) en1, by omega, rg11, ?_⟩
      rintro x12 H12 ⟨q12, xs, rfl, e12, l12, sx⟩ gw12 rg12
      refine ⟨_, rfl, p, d, 16, rfl, by decide, rg12, ?_⟩
      rintro x13 H13 ⟨n3, rfl, n30, n31⟩ gw13 rg13
      have t13 := Rng.tk (K := K) rg12 gw13 _ _ (SqT.of e12)
      refine ⟨_, _, rfl, rfl, ?_⟩
      refine ⟨_, rfl, _, rfl, q12, xs, 1 + n3, rfl, t13, sx, by omega, by omega, fun H14 s14 => ?_⟩
      refine ⟨_, rfl, _, rfl, q12, xs, 1 + n3, rfl, Tk.same s14 _ _ t13, sx, by omega, by omega, fun H15 s15 => ?_⟩
      refine ⟨_, _, .int _, rfl, .int _, .int _, by simp [ist], by simp [PyData.depth], ?_⟩
      rintro z16 H16 rfl s16
      exact ⟨_, rfl, iteF ⟨_, _, _, rfl, rg13.same ((s14.trans s15).trans s16)⟩⟩
    · obtain ⟨y3, y8, y9, rfl, rg10⟩ := hP
      refine ⟨sz 0, fun o no => ?_⟩
      refine ⟨o, [], rfl, SqL.of upd_same, (fun _ m => nomatch m), by decide, fun x H11 s11 hx => ?_⟩
      obtain ⟨p7, ts7, rfl, n7, e7, m7, pt7, nt7, l7, l7'⟩ := hx
      refine ⟨sz 0, fun u nu => ?_⟩
      refine ⟨_, _, pkD [], rfl, Dp.sm (Same.new nu) _ _ (pk_dp e7 pt7 m7), .lst (SqL.of upd_same) .nil, pk_ist (by decide) (fun _ m => nomatch m), pk_depth _, ?_⟩
      rintro z12 H12 rfl s12
      exact q _
end
end K1
namespace K1
open PySem PySem.Spec PyProof.Rows L2 Ow
theorem kn_of {P : Program} {w : World} {K : PySem.W.Frag} {mg : Str → Option Value} {base : Heap} {k : Nat} {x qual : Str} {st : Stmt} {f : Addr} {fd : FuncData} {ps : List Str} {sp : Sp}
    (F : Fun K x qual st f fd) (g : mg x = some (.ref f)) (b : Binds K fd ps []) (ok : FnOk P w K mg base CX0 k f fd ps sp) : Kn P w K mg base k x ps sp := ⟨⟨f, fd, ok, g, F.kp, b⟩⟩
theorem all_mk {l : PySem.W.OpenLaw} {w : World} {K : PySem.W.Frag} {h : Heap} {mg : Str → Option Value} {fa : Addr} (X : K.In h) (G : h.Ns mainGlobals mg) (hfa : mg "law" = some (.ref fa))
    {f1 : Addr} {od1 an1 : Option Addr} {sl1 : Array (Option Value)} {oc1 kV1 dc1 pm1 cd1 ct1 : Value}
    {f2 : Addr} {od2 an2 : Option Addr} {sl2 : Array (Option Value)} {oc2 kV2 dc2 pm2 cd2 ct2 : Value}
    {f3 : Addr} {od3 an3 : Option Addr} {sl3 : Array (Option Value)} {oc3 kV3 dc3 pm3 cd3 ct3 : Value}
    {f4 : Addr} {od4 an4 : Option Addr} {sl4 : Array (Option Value)} {oc4 kV4 dc4 pm4 cd4 ct4 : Value}
    {f5 : Addr} {od5 an5 : Option Addr} {sl5 : Array (Option Value)} {oc5 kV5 dc5 pm5 cd5 ct5 : Value}
    {f6 : Addr} {od6 an6 : Option Addr} {sl6 : Array (Option Value)} {oc6 kV6 dc6 pm6 cd6 ct6 : Value}
    {f7 : Addr} {od7 an7 : Option Addr} {sl7 : Array (Option Value)} {oc7 kV7 dc7 pm7 cd7 ct7 : Value}
    {f8 : Addr} {od8 an8 : Option Addr} {sl8 : Array (Option Value)} {oc8 kV8 dc8 pm8 cd8 ct8 : Value}
    {f9 : Addr} {od9 an9 : Option Addr} {sl9 : Array (Option Value)} {oc9 kV9 dc9 pm9 cd9 ct9 : Value}
    {f10 : Addr} {od10 an10 : Option Addr} {sl10 : Array (Option Value)} {oc10 kV10 dc10 pm10 cd10 ct10 : Value}
    {f11 : Addr} {od11 an11 : Option Addr} {sl11 : Array (Option Value)} {oc11 kV11 dc11 pm11 cd11 ct11 : Value}
    {f12 : Addr} {od12 an12 : Option Addr} {sl12 : Array (Option Value)} {oc12 kV12 dc12 pm12 cd12 ct12 : Value}
    {f13 : Addr} {od13 an13 : Option Addr} {sl13 : Array (Option Value)} {oc13 kV13 dc13 pm13 cd13 ct13 : Value}
    {f14 : Addr} {od14 an14 : Option Addr} {sl14 : Array (Option Value)} {oc14 kV14 dc14 pm14 cd14 ct14 : Value}
    {f15 : Addr} {od15 an15 : Option Addr} {sl15 : Array (Option Value)} {oc15 kV15 dc15 pm15 cd15 ct15 : Value}
    {f16 : Addr} {od16 an16 : Option Addr} {sl16 : Array (Option Value)} {oc16 kV16 dc16 pm16 cd16 ct16 : Value}
    {f17 : Addr} {od17 an17 : Option Addr} {sl17 : Array (Option Value)} {oc17 kV17 dc17 pm17 cd17 ct17 : Value}
    {f18 : Addr} {od18 an18 : Option Addr} {sl18 : Array (Option Value)} {oc18 kV18 dc18 pm18 cd18 ct18 : Value}
    {f19 : Addr} {od19 an19 : Option Addr} {sl19 : Array (Option Value)} {oc19 kV19 dc19 pm19 cd19 ct19 : Value}
    {f20 : Addr} {od20 an20 : Option Addr} {sl20 : Array (Option Value)} {oc20 kV20 dc20 pm20 cd20 ct20 : Value}
    {f21 : Addr} {od21 an21 : Option Addr} {sl21 : Array (Option Value)} {oc21 kV21 dc21 pm21 cd21 ct21 : Value}
    {f22 : Addr} {od22 an22 : Option Addr} {sl22 : Array (Option Value)} {oc22 kV22 dc22 pm22 cd22 ct22 : Value}
    {f23 : Addr} {od23 an23 : Option Addr} {sl23 : Array (Option Value)} {oc23 kV23 dc23 pm23 cd23 ct23 : Value}
    {f24 : Addr} {od24 an24 : Option Addr} {sl24 : Array (Option Value)} {oc24 kV24 dc24 pm24 cd24 ct24 : Value}
    {f25 : Addr} {od25 an25 : Option Addr} {sl25 : Array (Option Value)} {oc25 kV25 dc25 pm25 cd25 ct25 : Value}
    {f26 : Addr} {od26 an26 : Option Addr} {sl26 : Array (Option Value)} {oc26 kV26 dc26 pm26 cd26 ct26 : Value}
    (a1 : PySem.W.nsIn K mainGlobals "write_number" = some (some (.ref f1)))
    (l1 : K.lookup f1 = some ⟨oc1, od1, .func (PySem.W.fnOf "write_number" "write_number" (defArgs swrite_number) (defBody swrite_number) (defScope swrite_number) .none kV1 dc1 pm1 an1 cd1 ct1), sl1⟩) (c1 : PySem.W.codeIn K cd1 "write_number" = true) (k1 : PySem.W.keepIn K (.ref f1) = true)
    (a2 : PySem.W.nsIn K mainGlobals "write_integer" = some (some (.ref f2)))
    (l2 : K.lookup f2 = some ⟨oc2, od2, .func (PySem.W.fnOf "write_integer" "write_integer" (defArgs swrite_integer) (defBody swrite_integer) (defScope swrite_integer) .none kV2 dc2 pm2 an2 cd2 ct2), sl2⟩) (c2 : PySem.W.codeIn K cd2 "write_integer" = true) (k2 : PySem.W.keepIn K (.ref f2) = true)
    (a3 : PySem.W.nsIn K mainGlobals "write_string" = some (some (.ref f3)))
    (l3 : K.lookup f3 = some ⟨oc3, od3, .func (PySem.W.fnOf "write_string" "write_string" (defArgs swrite_string) (defBody swrite_string) (defScope swrite_string) .none kV3 dc3 pm3 an3 cd3 ct3), sl3⟩) (c3 : PySem.W.codeIn K cd3 "write_string" = true) (k3 : PySem.W.keepIn K (.ref f3) = true)
    (a4 : PySem.W.nsIn K mainGlobals "write_value" = some (some (.ref f4)))
    (l4 : K.lookup f4 = some ⟨oc4, od4, .func (PySem.W.fnOf "write_value" "write_value" (defArgs swrite_value) (defBody swrite_value) (defScope swrite_value) .none kV4 dc4 pm4 an4 cd4 ct4), sl4⟩) (c4 : PySem.W.codeIn K cd4 "write_value" = true) (k4 : PySem.W.keepIn K (.ref f4) = true)
    (a5 : PySem.W.nsIn K mainGlobals "write_row" = some (some (.ref f5)))
    (l5 : K.lookup f5 = some ⟨oc5, od5, .func (PySem.W.fnOf "write_row" "write_row" (defArgs swrite_row) (defBody swrite_row) (defScope swrite_row) .none kV5 dc5 pm5 an5 cd5 ct5), sl5⟩) (c5 : PySem.W.codeIn K cd5 "write_row" = true) (k5 : PySem.W.keepIn K (.ref f5) = true)
    (a6 : PySem.W.nsIn K mainGlobals "pack" = some (some (.ref f6)))
    (l6 : K.lookup f6 = some ⟨oc6, od6, .func (PySem.W.fnOf "pack" "pack" (defArgs spack) (defBody spack) (defScope spack) .none kV6 dc6 pm6 an6 cd6 ct6), sl6⟩) (c6 : PySem.W.codeIn K cd6 "pack" = true) (k6 : PySem.W.keepIn K (.ref f6) = true)
    (a7 : PySem.W.nsIn K mainGlobals "bucket_of_values" = some (some (.ref f7)))
    (l7 : K.lookup f7 = some ⟨oc7, od7, .func (PySem.W.fnOf "bucket_of_values" "bucket_of_values" (defArgs sbucket_of_values) (defBody sbucket_of_values) (defScope sbucket_of_values) .none kV7 dc7 pm7 an7 cd7 ct7), sl7⟩) (c7 : PySem.W.codeIn K cd7 "bucket_of_values" = true) (k7 : PySem.W.keepIn K (.ref f7) = true)
    (a8 : PySem.W.nsIn K mainGlobals "_law_mix" = some (some (.ref f8)))
    (l8 : K.lookup f8 = some ⟨oc8, od8, .func (PySem.W.fnOf "_law_mix" "_law_mix" (defArgs s_law_mix) (defBody s_law_mix) (defScope s_law_mix) .none kV8 dc8 pm8 an8 cd8 ct8), sl8⟩) (c8 : PySem.W.codeIn K cd8 "_law_mix" = true) (k8 : PySem.W.keepIn K (.ref f8) = true)
    (a9 : PySem.W.nsIn K mainGlobals "_law_draws" = some (some (.ref f9)))
    (l9 : K.lookup f9 = some ⟨oc9, od9, .func (PySem.W.fnOf "_law_draws" "_law_draws" (defArgs s_law_draws) (defBody s_law_draws) (defScope s_law_draws) .none kV9 dc9 pm9 an9 cd9 ct9), sl9⟩) (c9 : PySem.W.codeIn K cd9 "_law_draws" = true) (k9 : PySem.W.keepIn K (.ref f9) = true)
    (a10 : PySem.W.nsIn K mainGlobals "_law_at" = some (some (.ref f10)))
    (l10 : K.lookup f10 = some ⟨oc10, od10, .func (PySem.W.fnOf "_law_at" "_law_at" (defArgs s_law_at) (defBody s_law_at) (defScope s_law_at) .none kV10 dc10 pm10 an10 cd10 ct10), sl10⟩) (c10 : PySem.W.codeIn K cd10 "_law_at" = true) (k10 : PySem.W.keepIn K (.ref f10) = true)
    (a11 : PySem.W.nsIn K mainGlobals "_law_is_integer" = some (some (.ref f11)))
    (l11 : K.lookup f11 = some ⟨oc11, od11, .func (PySem.W.fnOf "_law_is_integer" "_law_is_integer" (defArgs s_law_is_integer) (defBody s_law_is_integer) (defScope s_law_is_integer) .none kV11 dc11 pm11 an11 cd11 ct11), sl11⟩) (c11 : PySem.W.codeIn K cd11 "_law_is_integer" = true) (k11 : PySem.W.keepIn K (.ref f11) = true)
    (a12 : PySem.W.nsIn K mainGlobals "_law_same" = some (some (.ref f12)))
    (l12 : K.lookup f12 = some ⟨oc12, od12, .func (PySem.W.fnOf "_law_same" "_law_same" (defArgs s_law_same) (defBody s_law_same) (defScope s_law_same) .none kV12 dc12 pm12 an12 cd12 ct12), sl12⟩) (c12 : PySem.W.codeIn K cd12 "_law_same" = true) (k12 : PySem.W.keepIn K (.ref f12) = true)
    (a13 : PySem.W.nsIn K mainGlobals "_law_next" = some (some (.ref f13)))
    (l13 : K.lookup f13 = some ⟨oc13, od13, .func (PySem.W.fnOf "_law_next" "_law_next" (defArgs s_law_next) (defBody s_law_next) (defScope s_law_next) .none kV13 dc13 pm13 an13 cd13 ct13), sl13⟩) (c13 : PySem.W.codeIn K cd13 "_law_next" = true) (k13 : PySem.W.keepIn K (.ref f13) = true)
    (a14 : PySem.W.nsIn K mainGlobals "_law_number" = some (some (.ref f14)))
    (l14 : K.lookup f14 = some ⟨oc14, od14, .func (PySem.W.fnOf "_law_number" "_law_number" (defArgs s_law_number) (defBody s_law_number) (defScope s_law_number) .none kV14 dc14 pm14 an14 cd14 ct14), sl14⟩) (c14 : PySem.W.codeIn K cd14 "_law_number" = true) (k14 : PySem.W.keepIn K (.ref f14) = true)
    (a15 : PySem.W.nsIn K mainGlobals "_law_listed" = some (some (.ref f15)))
    (l15 : K.lookup f15 = some ⟨oc15, od15, .func (PySem.W.fnOf "_law_listed" "_law_listed" (defArgs s_law_listed) (defBody s_law_listed) (defScope s_law_listed) .none kV15 dc15 pm15 an15 cd15 ct15), sl15⟩) (c15 : PySem.W.codeIn K cd15 "_law_listed" = true) (k15 : PySem.W.keepIn K (.ref f15) = true)
    (a16 : PySem.W.nsIn K mainGlobals "_law_text" = some (some (.ref f16)))
    (l16 : K.lookup f16 = some ⟨oc16, od16, .func (PySem.W.fnOf "_law_text" "_law_text" (defArgs s_law_text) (defBody s_law_text) (defScope s_law_text) .none kV16 dc16 pm16 an16 cd16 ct16), sl16⟩) (c16 : PySem.W.codeIn K cd16 "_law_text" = true) (k16 : PySem.W.keepIn K (.ref f16) = true)
    (a17 : PySem.W.nsIn K mainGlobals "_law_value" = some (some (.ref f17)))
    (l17 : K.lookup f17 = some ⟨oc17, od17, .func (PySem.W.fnOf "_law_value" "_law_value" (defArgs s_law_value) (defBody s_law_value) (defScope s_law_value) .none kV17 dc17 pm17 an17 cd17 ct17), sl17⟩) (c17 : PySem.W.codeIn K cd17 "_law_value" = true) (k17 : PySem.W.keepIn K (.ref f17) = true)
    (a18 : PySem.W.nsIn K mainGlobals "_law_row" = some (some (.ref f18)))
    (l18 : K.lookup f18 = some ⟨oc18, od18, .func (PySem.W.fnOf "_law_row" "_law_row" (defArgs s_law_row) (defBody s_law_row) (defScope s_law_row) .none kV18 dc18 pm18 an18 cd18 ct18), sl18⟩) (c18 : PySem.W.codeIn K cd18 "_law_row" = true) (k18 : PySem.W.keepIn K (.ref f18) = true)
    (a19 : PySem.W.nsIn K mainGlobals "_law_string" = some (some (.ref f19)))
    (l19 : K.lookup f19 = some ⟨oc19, od19, .func (PySem.W.fnOf "_law_string" "_law_string" (defArgs s_law_string) (defBody s_law_string) (defScope s_law_string) .none kV19 dc19 pm19 an19 cd19 ct19), sl19⟩) (c19 : PySem.W.codeIn K cd19 "_law_string" = true) (k19 : PySem.W.keepIn K (.ref f19) = true)
    (a20 : PySem.W.nsIn K mainGlobals "_law_value_bytes" = some (some (.ref f20)))
    (l20 : K.lookup f20 = some ⟨oc20, od20, .func (PySem.W.fnOf "_law_value_bytes" "_law_value_bytes" (defArgs s_law_value_bytes) (defBody s_law_value_bytes) (defScope s_law_value_bytes) .none kV20 dc20 pm20 an20 cd20 ct20), sl20⟩) (c20 : PySem.W.codeIn K cd20 "_law_value_bytes" = true) (k20 : PySem.W.keepIn K (.ref f20) = true)
    (a21 : PySem.W.nsIn K mainGlobals "_law_row_bytes" = some (some (.ref f21)))
    (l21 : K.lookup f21 = some ⟨oc21, od21, .func (PySem.W.fnOf "_law_row_bytes" "_law_row_bytes" (defArgs s_law_row_bytes) (defBody s_law_row_bytes) (defScope s_law_row_bytes) .none kV21 dc21 pm21 an21 cd21 ct21), sl21⟩) (c21 : PySem.W.codeIn K cd21 "_law_row_bytes" = true) (k21 : PySem.W.keepIn K (.ref f21) = true)
    (a22 : PySem.W.nsIn K mainGlobals "_law_pack" = some (some (.ref f22)))
    (l22 : K.lookup f22 = some ⟨oc22, od22, .func (PySem.W.fnOf "_law_pack" "_law_pack" (defArgs s_law_pack) (defBody s_law_pack) (defScope s_law_pack) .none kV22 dc22 pm22 an22 cd22 ct22), sl22⟩) (c22 : PySem.W.codeIn K cd22 "_law_pack" = true) (k22 : PySem.W.keepIn K (.ref f22) = true)
    (a23 : PySem.W.nsIn K mainGlobals "_law_bucket" = some (some (.ref f23)))
    (l23 : K.lookup f23 = some ⟨oc23, od23, .func (PySem.W.fnOf "_law_bucket" "_law_bucket" (defArgs s_law_bucket) (defBody s_law_bucket) (defScope s_law_bucket) .none kV23 dc23 pm23 an23 cd23 ct23), sl23⟩) (c23 : PySem.W.codeIn K cd23 "_law_bucket" = true) (k23 : PySem.W.keepIn K (.ref f23) = true)
    (a24 : PySem.W.nsIn K mainGlobals "_law_small" = some (some (.ref f24)))
    (l24 : K.lookup f24 = some ⟨oc24, od24, .func (PySem.W.fnOf "_law_small" "_law_small" (defArgs s_law_small) (defBody s_law_small) (defScope s_law_small) .none kV24 dc24 pm24 an24 cd24 ct24), sl24⟩) (c24 : PySem.W.codeIn K cd24 "_law_small" = true) (k24 : PySem.W.keepIn K (.ref f24) = true)
    (a25 : PySem.W.nsIn K mainGlobals "_law_long_row" = some (some (.ref f25)))
    (l25 : K.lookup f25 = some ⟨oc25, od25, .func (PySem.W.fnOf "_law_long_row" "_law_long_row" (defArgs s_law_long_row) (defBody s_law_long_row) (defScope s_law_long_row) .none kV25 dc25 pm25 an25 cd25 ct25), sl25⟩) (c25 : PySem.W.codeIn K cd25 "_law_long_row" = true) (k25 : PySem.W.keepIn K (.ref f25) = true)
    (a26 : PySem.W.nsIn K mainGlobals "law" = some (some (.ref f26)))
    (l26 : K.lookup f26 = some ⟨oc26, od26, .func (PySem.W.fnOf "law" "law" (defArgs slaw) (defBody slaw) (defScope slaw) .none kV26 dc26 pm26 an26 cd26 ct26), sl26⟩) (c26 : PySem.W.codeIn K cd26 "law" = true) (k26 : PySem.W.keepIn K (.ref f26) = true)
    {tS : Tok} (aS : PySem.W.nsIn K mainGlobals "SECTOR_BYTES" = some (some (.int 64 tS)))
    (z1 : PySem.W.nsIn K mainGlobals "range" = some none) (z2 : PySem.W.nsIn K mainGlobals "len" = some none) (z3 : PySem.W.nsIn K mainGlobals "int" = some none) (z4 : PySem.W.nsIn K mainGlobals "str" = some none) (z5 : PySem.W.nsIn K mainGlobals "bool" = some none) (z6 : PySem.W.nsIn K mainGlobals "list" = some none) (z7 : PySem.W.nsIn K mainGlobals "tuple" = some none) (z8 : PySem.W.nsIn K mainGlobals "isinstance" = some none) (z9 : PySem.W.nsIn K mainGlobals "min" = some none) (z10 : PySem.W.nsIn K mainGlobals "abs" = some none) (z11 : PySem.W.nsIn K mainGlobals "ord" = some none) :
    ∃ fd : FuncData, (∀ (s : Shared) (v : Value), BindsTo s fd ⟨[v], []⟩ [("script", v)]) ∧ ∀ base : Heap, K.In base → base.Ns mainGlobals mg → FnOk l.prog w K mg base CX0 8 fa fd ["script"] (spLaw K) := by
  have e := hfa.symm.trans (PySem.W.mg_of X G a26)
  cases e
  have F1 := fun_mk (st := swrite_number) l1 c1 k1
  have b1 := F1.binds (ps := ["number"]) fun _ _ _ _ _ _ us hl => match us, hl with | [_], _ => rfl
  have g1 := PySem.W.mg_of X G a1
  have F2 := fun_mk (st := swrite_integer) l2 c2 k2
  have b2 := F2.binds (ps := ["number"]) fun _ _ _ _ _ _ us hl => match us, hl with | [_], _ => rfl
  have g2 := PySem.W.mg_of X G a2
  have F3 := fun_mk (st := swrite_string) l3 c3 k3
  have b3 := F3.binds (ps := ["text"]) fun _ _ _ _ _ _ us hl => match us, hl with | [_], _ => rfl
  have g3 := PySem.W.mg_of X G a3
  have F4 := fun_mk (st := swrite_value) l4 c4 k4
  have b4 := F4.binds (ps := ["value"]) fun _ _ _ _ _ _ us hl => match us, hl with | [_], _ => rfl
  have g4 := PySem.W.mg_of X G a4
  have F5 := fun_mk (st := swrite_row) l5 c5 k5
  have b5 := F5.binds (ps := ["row"]) fun _ _ _ _ _ _ us hl => match us, hl with | [_], _ => rfl
  have g5 := PySem.W.mg_of X G a5
  have F6 := fun_mk (st := spack) l6 c6 k6
  have b6 := F6.binds (ps := ["rows"]) fun _ _ _ _ _ _ us hl => match us, hl with | [_], _ => rfl
  have g6 := PySem.W.mg_of X G a6
  have F7 := fun_mk (st := sbucket_of_values) l7 c7 k7
  have b7 := F7.binds (ps := ["values", "buckets"]) fun _ _ _ _ _ _ us hl => match us, hl with | [_, _], _ => rfl
  have g7 := PySem.W.mg_of X G a7
  have F8 := fun_mk (st := s_law_mix) l8 c8 k8
  have b8 := F8.binds (ps := ["cell", "k"]) fun _ _ _ _ _ _ us hl => match us, hl with | [_, _], _ => rfl
  have g8 := PySem.W.mg_of X G a8
  have F9 := fun_mk (st := s_law_draws) l9 c9 k9
  have b9 := F9.binds (ps := ["script"]) fun _ _ _ _ _ _ us hl => match us, hl with | [_], _ => rfl
  have g9 := PySem.W.mg_of X G a9
  have F10 := fun_mk (st := s_law_at) l10 c10 k10
  have b10 := F10.binds (ps := ["draws", "index"]) fun _ _ _ _ _ _ us hl => match us, hl with | [_, _], _ => rfl
  have g10 := PySem.W.mg_of X G a10
  have F11 := fun_mk (st := s_law_is_integer) l11 c11 k11
  have b11 := F11.binds (ps := ["actual"]) fun _ _ _ _ _ _ us hl => match us, hl with | [_], _ => rfl
  have g11 := PySem.W.mg_of X G a11
  have F12 := fun_mk (st := s_law_same) l12 c12 k12
  have b12 := F12.binds (ps := ["actual", "expected"]) fun _ _ _ _ _ _ us hl => match us, hl with | [_, _], _ => rfl
  have g12 := PySem.W.mg_of X G a12
  have F13 := fun_mk (st := s_law_next) l13 c13 k13
  have b13 := F13.binds (ps := ["state", "limit"]) fun _ _ _ _ _ _ us hl => match us, hl with | [_, _], _ => rfl
  have g13 := PySem.W.mg_of X G a13
  have F14 := fun_mk (st := s_law_number) l14 c14 k14
  have b14 := F14.binds (ps := ["number"]) fun _ _ _ _ _ _ us hl => match us, hl with | [_], _ => rfl
  have g14 := PySem.W.mg_of X G a14
  have F15 := fun_mk (st := s_law_listed) l15 c15 k15
  have b15 := F15.binds (ps := ["parts"]) fun _ _ _ _ _ _ us hl => match us, hl with | [_], _ => rfl
  have g15 := PySem.W.mg_of X G a15
  have F16 := fun_mk (st := s_law_text) l16 c16 k16
  have b16 := F16.binds (ps := ["state", "most"]) fun _ _ _ _ _ _ us hl => match us, hl with | [_, _], _ => rfl
  have g16 := PySem.W.mg_of X G a16
  have F17 := fun_mk (st := s_law_value) l17 c17 k17
  have b17 := F17.binds (ps := ["state"]) fun _ _ _ _ _ _ us hl => match us, hl with | [_], _ => rfl
  have g17 := PySem.W.mg_of X G a17
  have F18 := fun_mk (st := s_law_row) l18 c18 k18
  have b18 := F18.binds (ps := ["state", "width"]) fun _ _ _ _ _ _ us hl => match us, hl with | [_, _], _ => rfl
  have g18 := PySem.W.mg_of X G a18
  have F19 := fun_mk (st := s_law_string) l19 c19 k19
  have b19 := F19.binds (ps := ["text"]) fun _ _ _ _ _ _ us hl => match us, hl with | [_], _ => rfl
  have g19 := PySem.W.mg_of X G a19
  have F20 := fun_mk (st := s_law_value_bytes) l20 c20 k20
  have b20 := F20.binds (ps := ["value"]) fun _ _ _ _ _ _ us hl => match us, hl with | [_], _ => rfl
  have g20 := PySem.W.mg_of X G a20
  have F21 := fun_mk (st := s_law_row_bytes) l21 c21 k21
  have b21 := F21.binds (ps := ["row"]) fun _ _ _ _ _ _ us hl => match us, hl with | [_], _ => rfl
  have g21 := PySem.W.mg_of X G a21
  have F22 := fun_mk (st := s_law_pack) l22 c22 k22
  have b22 := F22.binds (ps := ["rows"]) fun _ _ _ _ _ _ us hl => match us, hl with | [_], _ => rfl
  have g22 := PySem.W.mg_of X G a22
  have F23 := fun_mk (st := s_law_bucket) l23 c23 k23
  have b23 := F23.binds (ps := ["values", "buckets"]) fun _ _ _ _ _ _ us hl => match us, hl with | [_, _], _ => rfl
  have g23 := PySem.W.mg_of X G a23
  have F24 := fun_mk (st := s_law_small) l24 c24 k24
  have b24 := F24.binds (ps := ["state"]) fun _ _ _ _ _ _ us hl => match us, hl with | [_], _ => rfl
  have g24 := PySem.W.mg_of X G a24
  have F25 := fun_mk (st := s_law_long_row) l25 c25 k25
  have b25 := F25.binds (ps := ["state"]) fun _ _ _ _ _ _ us hl => match us, hl with | [_], _ => rfl
  have g25 := PySem.W.mg_of X G a25
  have F26 := fun_mk (st := slaw) l26 c26 k26
  have T : Bl mg := ⟨PySem.W.mg_none_of X G z1, PySem.W.mg_none_of X G z2, PySem.W.mg_none_of X G z3, PySem.W.mg_none_of X G z4, PySem.W.mg_none_of X G z5, PySem.W.mg_none_of X G z6, PySem.W.mg_none_of X G z7, PySem.W.mg_none_of X G z8, PySem.W.mg_none_of X G z9, PySem.W.mg_none_of X G z10, PySem.W.mg_none_of X G z11⟩
  have B : Sb mg := ⟨⟨tS, PySem.W.mg_of X G aS⟩⟩
  refine ⟨PySem.W.fnOf "law" "law" (defArgs slaw) (defBody slaw) (defScope slaw) .none kV26 dc26 pm26 an26 cd26 ct26, fun s v => .of_eq rfl, fun base _ _ => ?_⟩
  have Dwrite_number : Kn l.prog w K mg base 1 "write_number" ["number"] (spNumber) := kn_of F1 g1 b1 (ok_number F1 T)
  have Dwrite_integer : Kn l.prog w K mg base 2 "write_integer" ["number"] (spInteger) := kn_of F2 g2 b2 (ok_integer F2 T Dwrite_number)
  have Dwrite_string : Kn l.prog w K mg base 2 "write_string" ["text"] (spString) := kn_of F3 g3 b3 (ok_string F3 T Dwrite_number)
  have Dwrite_value : Kn l.prog w K mg base 3 "write_value" ["value"] (spVB) := kn_of F4 g4 b4 (ok_wvalue F4 T Dwrite_string Dwrite_integer)
  have Dwrite_row : Kn l.prog w K mg base 4 "write_row" ["row"] (spRB K) := kn_of F5 g5 b5 (ok_wrow F5 T Dwrite_number Dwrite_value)
  have Dpack : Kn l.prog w K mg base 5 "pack" ["rows"] (spPack K) := kn_of F6 g6 b6 (ok_pack F6 T B Dwrite_row)
  have Dbucket_of_values : Kn l.prog w K mg base 5 "bucket_of_values" ["values", "buckets"] (spBuck K) := kn_of F7 g7 b7 (ok_buck F7 T Dwrite_row)
  have D_law_mix : Kn l.prog w K mg base 1 "_law_mix" ["cell", "k"] (spMix) := kn_of F8 g8 b8 (ok_mix F8 T)
  have D_law_draws : Kn l.prog w K mg base 2 "_law_draws" ["script"] (spDraws K) := kn_of F9 g9 b9 (ok_draws F9 T D_law_mix)
  have D_law_at : Kn l.prog w K mg base 2 "_law_at" ["draws", "index"] (spAt K) := kn_of F10 g10 b10 (ok_at F10 T D_law_mix)
  have D_law_next : Kn l.prog w K mg base 3 "_law_next" ["state", "limit"] (spNext) := kn_of F13 g13 b13 (ok_next F13 T D_law_at)
  have D_law_number : Kn l.prog w K mg base 1 "_law_number" ["number"] (spNumber) := kn_of F14 g14 b14 (ok_lnumber F14 T)
  have D_law_listed : Kn l.prog w K mg base 2 "_law_listed" ["parts"] (spListed) := kn_of F15 g15 b15 (ok_listed F15 T D_law_number)
  have D_law_text : Kn l.prog w K mg base 4 "_law_text" ["state", "most"] (spText) := kn_of F16 g16 b16 (ok_text F16 T D_law_next)
  have D_law_value : Kn l.prog w K mg base 5 "_law_value" ["state"] (spValue) := kn_of F17 g17 b17 (ok_value F17 T D_law_next D_law_text)
  have D_law_row : Kn l.prog w K mg base 6 "_law_row" ["state", "width"] (spRow) := kn_of F18 g18 b18 (ok_row F18 T D_law_value)
  have D_law_string : Kn l.prog w K mg base 3 "_law_string" ["text"] (spString) := kn_of F19 g19 b19 (ok_lstring F19 T D_law_listed)
  have D_law_value_bytes : Kn l.prog w K mg base 4 "_law_value_bytes" ["value"] (spVB) := kn_of F20 g20 b20 (ok_lvalb F20 T D_law_number D_law_string)
  have D_law_row_bytes : Kn l.prog w K mg base 5 "_law_row_bytes" ["row"] (spRB K) := kn_of F21 g21 b21 (ok_lrowb F21 T D_law_listed D_law_value_bytes)
  have D_law_pack : Kn l.prog w K mg base 6 "_law_pack" ["rows"] (spPack K) := kn_of F22 g22 b22 (ok_lpack F22 T D_law_row_bytes)
  have D_law_bucket : Kn l.prog w K mg base 6 "_law_bucket" ["values", "buckets"] (spBuck K) := kn_of F23 g23 b23 (ok_lbuck F23 T D_law_row_bytes)
  have D_law_small : Kn l.prog w K mg base 6 "_law_small" ["state"] (spValue) := kn_of F24 g24 b24 (ok_small F24 T D_law_next D_law_value)
  have D_law_long_row : Kn l.prog w K mg base 4 "_law_long_row" ["state"] (spLong) := kn_of F25 g25 b25 (ok_long F25 T D_law_next)
  have D_law_is_integer : Kn l.prog w K mg base 1 "_law_is_integer" ["actual"] (spIsInt) := kn_of F11 g11 b11 (ok_isint F11 T)
  have S0 : Kn l.prog w K mg base 2 "_law_same" ["actual", "expected"] (spSame K 0) := kn_of F12 g12 b12 (ok_same0 F12 T D_law_is_integer)
  have S1 : Kn l.prog w K mg base 3 "_law_same" ["actual", "expected"] (spSame K 1) := kn_of F12 g12 b12 (ok_sameS F12 T (n := 0) D_law_is_integer S0)
  have S2 : Kn l.prog w K mg base 4 "_law_same" ["actual", "expected"] (spSame K 2) := kn_of F12 g12 b12 (ok_sameS F12 T (n := 1) D_law_is_integer S1)
  exact ok_law F26 T D_law_draws D_law_next D_law_row D_law_small D_law_long_row D_law_row_bytes D_law_pack Dpack S2 Dbucket_of_values D_law_bucket
end K1
open PySem PySem.W PyProof.Rows
set_option maxHeartbeats 0 in
theorem PySem.Challenge.cw_turnshelves_k06_rows_in_sectors_holds : PySem.Challenge.rw_turnshelves_k06_rows_in_sectors.Holds := by
  w_on; o_law; k_head; (case hw => w_witness2)
  k_fill
  refine L2.walk_of (l := PySem.Challenge.rw_turnshelves_k06_rows_in_sectors) (n := 63) (k := 8) (x := "script") (CX := fun _ => L2.CX0) (sp := fun w => K1.spLaw _) rfl (by decide) rfl ⟨rfl, by decide, by decide⟩ (fun w h Y => PySem.W.kIn_of Y) ?F (fun _ _ a ns hl _ hS => ⟨a, ns, rfl, hS, hl, fun _ => rfl⟩) (fun _ _ _ _ _ h => h)
  case F =>
    intro w mg fa h KX G hmg
    refine' K1.all_mk KX G hmg ?a1 ?l1 ?c1 ?k1 ?a2 ?l2 ?c2 ?k2 ?a3 ?l3 ?c3 ?k3 ?a4 ?l4 ?c4 ?k4 ?a5 ?l5 ?c5 ?k5 ?a6 ?l6 ?c6 ?k6 ?a7 ?l7 ?c7 ?k7 ?a8 ?l8 ?c8 ?k8 ?a9 ?l9 ?c9 ?k9 ?a10 ?l10 ?c10 ?k10 ?a11 ?l11 ?c11 ?k11 ?a12 ?l12 ?c12 ?k12 ?a13 ?l13 ?c13 ?k13 ?a14 ?l14 ?c14 ?k14 ?a15 ?l15 ?c15 ?k15 ?a16 ?l16 ?c16 ?k16 ?a17 ?l17 ?c17 ?k17 ?a18 ?l18 ?c18 ?k18 ?a19 ?l19 ?c19 ?k19 ?a20 ?l20 ?c20 ?k20 ?a21 ?l21 ?c21 ?k21 ?a22 ?l22 ?c22 ?k22 ?a23 ?l23 ?c23 ?k23 ?a24 ?l24 ?c24 ?k24 ?a25 ?l25 ?c25 ?k25 ?a26 ?l26 ?c26 ?k26 ?aS ?z1 ?z2 ?z3 ?z4 ?z5 ?z6 ?z7 ?z8 ?z9 ?z10 ?z11
    (case a1 => k_is); (case l1 => k_is); (case c1 => k_is); (case k1 => k_is); (case a2 => k_is); (case l2 => k_is); (case c2 => k_is); (case k2 => k_is); (case a3 => k_is); (case l3 => k_is); (case c3 => k_is); (case k3 => k_is); (case a4 => k_is); (case l4 => k_is); (case c4 => k_is); (case k4 => k_is); (case a5 => k_is); (case l5 => k_is); (case c5 => k_is); (case k5 => k_is); (case a6 => k_is); (case l6 => k_is); (case c6 => k_is); (case k6 => k_is); (case a7 => k_is); (case l7 => k_is); (case c7 => k_is); (case k7 => k_is); (case a8 => k_is); (case l8 => k_is); (case c8 => k_is); (case k8 => k_is); (case a9 => k_is); (case l9 => k_is); (case c9 => k_is); (case k9 => k_is); (case a10 => k_is); (case l10 => k_is); (case c10 => k_is); (case k10 => k_is); (case a11 => k_is); (case l11 => k_is); (case c11 => k_is); (case k11 => k_is); (case a12 => k_is); (case l12 => k_is); (case c12 => k_is); (case k12 => k_is); (case a13 => k_is); (case l13 => k_is); (case c13 => k_is); (case k13 => k_is); (case a14 => k_is); (case l14 => k_is); (case c14 => k_is); (case k14 => k_is); (case a15 => k_is); (case l15 => k_is); (case c15 => k_is); (case k15 => k_is); (case a16 => k_is); (case l16 => k_is); (case c16 => k_is); (case k16 => k_is); (case a17 => k_is); (case l17 => k_is); (case c17 => k_is); (case k17 => k_is); (case a18 => k_is); (case l18 => k_is); (case c18 => k_is); (case k18 => k_is); (case a19 => k_is); (case l19 => k_is); (case c19 => k_is); (case k19 => k_is); (case a20 => k_is); (case l20 => k_is); (case c20 => k_is); (case k20 => k_is); (case a21 => k_is); (case l21 => k_is); (case c21 => k_is); (case k21 => k_is); (case a22 => k_is); (case l22 => k_is); (case c22 => k_is); (case k22 => k_is); (case a23 => k_is); (case l23 => k_is); (case c23 => k_is); (case k23 => k_is); (case a24 => k_is); (case l24 => k_is); (case c24 => k_is); (case k24 => k_is); (case a25 => k_is); (case l25 => k_is); (case c25 => k_is); (case k25 => k_is); (case a26 => k_is); (case l26 => k_is); (case c26 => k_is); (case k26 => k_is); (case aS => k_is); (case z1 => k_is); (case z2 => k_is); (case z3 => k_is); (case z4 => k_is); (case z5 => k_is); (case z6 => k_is); (case z7 => k_is); (case z8 => k_is); (case z9 => k_is); (case z10 => k_is); (case z11 => k_is)
