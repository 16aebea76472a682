import PyProof.Rows.All
import Wide.All
import OpenK.AllK
import Wide.FinOn
import PyProof.EqAt
import PyProof.EqKinds
import PyProof.TupleCall
import HandS.ForMost
import HandS.IsInst
import HandS.TupAny
import HandS.Strs
import HandS.SetKeys
import HandS.Style
import HandS.Deep
import HandS.TupLen
import HandS.More
import HandS.Walk
import HandS.Defaults
import HandS.Star
import HandS.DictComp
import HandS.RevRange
import PyProof.ZipIter
import KE.KItemsList
import HandS.Zip
import HandS.Wide
import HandS.WideBits
import PySem.Challenge.RW_turnshelves_k31_blocks
set_option Elab.async false
set_option linter.all false
set_option maxRecDepth 100000
set_option maxHeartbeats 4000000
namespace Ow
open PySem PySem.Spec PyProof.Rows L2

/-- the def that the module's name x holds keeps sp, by k levels -/
structure Kn (P : Program) (w : World) (K : PySem.W.Frag) (mg : Str → Option Value) (base : Heap)
    (k : Nat) (x : Str) (ps : List Str) (sp : Sp) : Prop where
  ex : ∃ f fd, FnOk P w K mg base CX0 k f fd ps sp ∧ mg x = some (.ref f) ∧
    PySem.W.keepIn K (.ref f) = true ∧ Binds K fd ps []

theorem pe_kn {X : Cx} {k j : Nat} {x : Str} {ps : List Str} {sp : Sp} {p pos : Pos} {e : Expr}
    {es : List Expr} {t : TA} (c : Kn X.prog X.w X.K X.mg X.base k x ps sp) (hr : Room j X.A)
    (ha : PA X (e :: es) t) (hk : k ≤ j := by decide) (hg : Gl X x := by rfl)
    (hdb : (x == ("__debug__" : Str)) = false := by decide)
    (he : starEach (e :: es) X.env = (false, eval e X.env) :: starEach es X.env := by rfl)
    (hpl : (backTo pos (starEach es X.env)).any (·.1) = false := by rfl) :
    PE X (.Call (.Name x p) (e :: es) [] pos) (tCall sp [] E0 t) := by
  obtain ⟨f, fd, F, gm, kp, b⟩ := c.ex
  exact pe_call F (hr.mono hk) hg gm kp b .nil pass0 ha hdb he hpl

theorem hu64 {k : Nat} {A : Around} (hr : Room k A) : A.units + 64 < cLine := hr.units

/-- the heap but for what stands at p -/
def Gw (p : Addr) (H H' : Hp) : Prop := ∀ b o, b ≠ p → H b = some o → H' b = some o
theorem Gw.refl (p : Addr) (H : Hp) : Gw p H H := fun _ _ _ e => e
theorem Gw.trans {p : Addr} {H H1 H2 : Hp} (a : Gw p H H1) (b : Gw p H1 H2) : Gw p H H2 :=
  fun c o n e => b c o n (a c o n e)
theorem Gw.new {p q : Addr} {H : Hp} {o : HO} (n : H q = none) : Gw p H (upd H q o) :=
  fun b u _ e => by rw [upd_ne (ne_of_none e n)]; exact e
theorem Gw.put {p : Addr} {H : Hp} {o : HO} : Gw p H (upd H p o) :=
  fun b u nb e => by rw [upd_ne nb]; exact e
theorem Gw.same {p : Addr} {H H' : Hp} (s : Same H H') : Gw p H H' := fun b o _ e => s b o e
theorem Same.new {q : Addr} {H : Hp} {o : HO} (n : H q = none) : Same H (upd H q o) :=
  fun b u e => by rw [upd_ne (ne_of_none e n)]; exact e

theorem Gw.over {p o : Addr} {H H' : Hp} {u : HO} (g : Gw p H H') (n : H o = none) : Gw p H (upd H' o u) :=
  fun b x nb e => by rw [upd_ne (ne_of_none e n)]; exact g b x nb e
theorem Same.over {o : Addr} {H H' : Hp} {u : HO} (g : Same H H') (n : H o = none) : Same H (upd H' o u) :=
  fun b x e => by rw [upd_ne (ne_of_none e n)]; exact g b x e
theorem Gw.keep {p q : Addr} {H H' : Hp} {o : HO} (g : Gw p H H') (h : H q = some o) (n : q ≠ p) : H' q = some o := g q o n h
/-- what is free behind was free before -/
theorem Gw.free {p q : Addr} {H H' : Hp} (g : Gw p H H') (n : H' q = none) (ne : q ≠ p) : H q = none := by
  cases z : H q with
  | none => rfl
  | some o =>
    rw [g q o ne z] at n
    cases n
theorem small {n m : Nat} (h : n ≤ m) (hm : m ≤ 10000) : n < sizeLine :=
  Nat.lt_of_le_of_lt (Nat.le_trans h hm) (by decide)
end Ow
namespace Ow
open PySem PySem.Spec PyProof.Rows L2
theorem pget_list {X : Cx} : PGet X (rIxL X.K) := by
  intro pins s σ H o i ov iv Q I ro ri h
  obtain ⟨p, xs, n, v, rfl, rfl, hs, ha, q⟩ := h
  cases ro
  obtain ⟨t, rfl⟩ := ri
  obtain ⟨its, r, pl, hz⟩ := I.list hs
  obtain ⟨j, h1, h2, h3, h4, h5⟩ := atI_get ha
  obtain ⟨u, eu, ru⟩ := r.get h2
  have ln := line63
  have hl := r.length
  by_cases h0 : 0 ≤ n
  · have ej : n.toNat = j := by
      rw [seqIndex_of h0 h5] at h1
      exact Option.some.inj h1
    exact wpAny_getItem_list pl.isList h0 (by omega) (by rw [ej]; simpa using eu) ⟨v, H, I, ru, q⟩
  · have ej : (n + (its.toArray.size : Int)).toNat = j := by
      rw [seqIndex_neg (by omega) h4] at h1
      rw [List.size_toArray, ← hl]
      exact Option.some.inj h1
    exact wpAny_getItem_list_neg pl.isList (by omega) (by rw [List.size_toArray]; omega) (by omega)
      (by rw [ej]; simpa using eu) ⟨v, H, I, ru, q⟩
theorem at_in {α : Type} {xs : List α} {v : Int} (h0 : 0 ≤ v) (h1 : v < xs.length) : ∃ y, atI xs v = some y ∧ y ∈ xs := by
  have h : v.toNat < xs.length := by omega
  have e : v = ((v.toNat : Nat) : Int) := by omega
  refine ⟨xs[v.toNat], ?_, List.getElem_mem h⟩
  have z := atI_nat (xs := xs) (j := v.toNat) (List.getElem?_eq_getElem h)
  rw [← e] at z
  exact z
end Ow
namespace Ow
open PySem PySem.Spec PyProof.Rows L2
/-- a built-in class by its name -/
theorem pe_ty {X : Cx} (n : String) {x : Str} {pos : Pos} (hg : Gl X x) (hm : X.mg x = none) (hv : bootBuiltins x = some (.type n))
    (hn : x ≠ "__name__" := by decide) (hd : (x == ("__debug__" : Str)) = false := by decide) : PE X (.Name x pos) (tC (.ty n)) :=
  pe_bltn hg hm hv rfl hn hd
theorem sz (n : Nat) (h : n ≤ 1000 := by decide) : n ≤ sizeLine := Nat.le_trans h (by decide)
/-- a statement and the rest, with a word between -/
theorem pss_mid {X : Cx} {st : Stmt} {rest : List Stmt} {t u : TS} (a : PS X st t) (b : PSs X rest u) :
    PSs X (st :: rest) fun D σ H => ∃ Mid : L2.St → Hp → Prop, t { D with nx := Mid } σ H ∧ ∀ σ' H', Mid σ' H' → u D σ' H' := by
  refine ⟨fun pins s σ H D I ⟨Mid, hm, hu⟩ => ?_⟩
  refine wpAny_execs_cons (thn (a.run pins s σ H { D with nx := Mid } I hm) fun f s1 q => ?_)
  cases f with
  | next =>
    obtain ⟨σ', H', I', q⟩ := q
    exact b.run pins s1 σ' H' D I' (hu σ' H' q)
  | ret v => exact q
  | brk => exact q
  | cont => exact q
end Ow
namespace Ow
open PySem PySem.Spec PyProof.Rows L2
theorem ix_tup_K {X : Cx} {K : PySem.W.Frag} (e : X.K = K) : IxR X (rIxT K) := by
  subst e
  exact ix_tup
theorem pe_fld_K {X : Cx} {K : PySem.W.Frag} (e : X.K = K) {o : Expr} {ta : TE} {f : Str} {pos : Pos} (ha : PE X o ta) (hb : attributeBase o f X.env (eval o X.env) = eval o X.env) : PE X (.Attribute o f pos) (tFld K ta f) := by
  subst e
  exact pe_fld ha hb
theorem ix_list_K {X : Cx} {K : PySem.W.Frag} (e : X.K = K) : IxR X (rIxL K) := by
  subst e
  exact ix_list
theorem op_catA_K {X : Cx} {K : PySem.W.Frag} (e : X.K = K) : OpR X (binaryOp .Add) (rCatA K) := by
  subst e
  exact op_catA
def rTupK (K : PySem.W.Frag) : List V → Hp → VK → Prop := fun xs H Q => ∃ p ys, xs = [V.ref p] ∧ ((SqL K H p ys ∧ ∀ l, H l = none → Q (.ref l) (upd H l (.tup ys))) ∨ (SqT K H p ys ∧ Q (.ref p) H))
theorem call_tuple_K {X : Cx} {K : PySem.W.Frag} (e : X.K = K) : CallR X (.type "tuple") (rTupK K) := by
  subst e
  exact call_tuple_of
def rListK (K : PySem.W.Frag) : List V → Hp → VK → Prop := fun xs H Q => ∃ p ys, xs = [V.ref p] ∧ (SqL K H p ys ∨ SqT K H p ys) ∧ ∀ l, H l = none → Q (.ref l) (upd H l (.lst ys))
theorem call_list_K {X : Cx} {K : PySem.W.Frag} (e : X.K = K) : CallR X (.type "list") (rListK K) := by
  subst e
  exact call_list_of
def rLenK (K : PySem.W.Frag) : List V → Hp → VK → Prop := fun xs H Q => ∃ p ys, xs = [V.ref p] ∧ (SqL K H p ys ∨ SqT K H p ys) ∧ Q (.int (ys.length : Nat)) H
theorem call_len_K {X : Cx} {K : PySem.W.Frag} (e : X.K = K) : CallR X (.builtin "len") (rLenK K) := by
  subst e
  exact call_len_seq
theorem call_min_K {X : Cx} {K : PySem.W.Frag} (e : X.K = K) (hc : X.calm = true) : CallR X (.builtin "min") (rMin K) := by
  subst e
  exact cr_min hc
theorem call_max_K {X : Cx} {K : PySem.W.Frag} (e : X.K = K) (hc : X.calm = true) : CallR X (.builtin "max") (rMax K) := by
  subst e
  exact cr_max hc
theorem call_sum_K {X : Cx} {K : PySem.W.Frag} (e : X.K = K) (hc : X.calm = true) : CallR X (.builtin "sum") (rSum K) := by
  subst e
  exact cr_sum hc
theorem mt_index_K {X : Cx} {K : PySem.W.Frag} (e : X.K = K) : MtR X "list.index" (rIndex K) := by
  subst e
  exact mt_index
theorem hu65 {k : Nat} {A : Around} (hr : Room k A) : A.units + 65 < cLine := by have := hr.un; omega
theorem putF_len (f : Str) (v : V) : ∀ fs : List (Str × V), (putF f v fs).length ≤ fs.length + 1
  | [] => Nat.le_refl _
  | (g, u) :: r => by
    rw [putF]
    split
    · exact Nat.le_succ _
    · exact Nat.succ_le_succ (putF_len f v r)
theorem Same.upd0 {H H' : Hp} {a : Addr} {o : HO} (n : H a = none) (s : Same (upd H a o) H') : Same H H' := (Same.new n).trans s
theorem Same.at {H H' : Hp} {a : Addr} {o : HO} (s : Same (upd H a o) H') : H' a = some o := s a o upd_same
/-- a comprehension whose turns leave what was: of the turns i with p i the value ys i -/
theorem lc_fl {J : L2.It} {n : Nat} {G : Hp → Prop} {Y : Nat → Hp → V → Hp → Prop} (w : Walk J n G Y) (p : Nat → Bool) (ys : Nat → V) (hn : n < sizeLine) {g : TG} {tt : TT} {te : TE} {vs : List Nat} {σ : L2.St} {H1 : Hp} {D : Addr} {Qd : Hp → Prop} (hD : H1 D = none)
    (hG : ∀ H, Same H1 H → G H)
    (hs : ∀ i x H H' (N : VK) (M : Hp → Prop), i < n → Same H1 H → Y i H x H' → (p i = true → ∀ H4, Same H H4 → N (ys i) H4) → (p i = false → ∀ H4, Same H H4 → M H4) →
      g x (wipe σ vs) H' fun σ2 H2 => wipe σ2 vs = wipe σ vs ∧ tt σ2 H2 fun b H3 => if b = true then te σ2 H3 N else M H3)
    (hd : ∀ H, Same H1 H → H D = some (.lst (((List.range n).filter p).map ys)) → Qd H) :
    ∃ W : Nat → Nat → Hp → Prop, (∃ m, W 0 m (upd H1 D (.lst []))) ∧ ∀ i m H, W i m H →
      (J.stop i H ∧ Qd H) ∨ (J.go i H ∧ ∃ Nx : Hp → Prop, (∀ H', Nx H' → ∃ m', m' < m ∧ W (i + 1) m' H') ∧ ∀ x H', J.yld i H x H' → g x (wipe σ vs) H' fun σ2 H2 => wipe σ2 vs = wipe σ vs ∧ tt σ2 H2 fun b H3 =>
        if b = true then te σ2 H3 fun y H4 => ∃ acc, H4 D = some (.lst acc) ∧ acc.length < sizeLine ∧ Nx (upd H4 D (.lst (acc ++ [y]))) else Nx H3) := by
  have pre : ∀ i, (((List.range i).filter p).map ys).length ≤ i := fun i => by
    rw [List.length_map]
    exact Nat.le_trans (List.length_filter_le _ _) (by rw [List.length_range]; exact Nat.le_refl _)
  refine lc_it w (fun i H => Same H1 H ∧ H D = some (.lst (((List.range i).filter p).map ys))) ⟨Same.new hD, upd_same⟩ (fun i H _ h => hG H h.1) (fun i x H H' hi h y => ?_) fun H h => hd H h.1 h.2
  have st : ((List.range (i + 1)).filter p).map ys = ((List.range i).filter p).map ys ++ (if p i = true then [ys i] else []) := by
    rw [List.range_succ, List.filter_append, List.map_append]
    cases e : p i <;> simp [List.filter, e]
  refine hs i x H H' _ _ hi h.1 y (fun e H4 s4 => ?_) fun e H4 s4 => ?_
  · refine ⟨_, s4 _ _ h.2, Nat.lt_of_le_of_lt (pre i) (Nat.lt_trans hi hn), Same.over (h.1.trans s4) hD, ?_⟩
    rw [upd_same, st, if_pos e]
  · refine ⟨h.1.trans s4, ?_⟩
    rw [s4 _ _ h.2, st, e, if_neg (by decide), List.append_nil]
theorem filter_all {α : Type} (xs : List α) : xs.filter (fun _ => true) = xs := by
  induction xs with
  | nil => rfl
  | cons x r ih => simp [List.filter, ih]
/-- every turn gives a value -/
theorem lc_mk {J : L2.It} {n : Nat} {G : Hp → Prop} {Y : Nat → Hp → V → Hp → Prop} (w : Walk J n G Y) (ys : Nat → V) (hn : n < sizeLine) {g : TG} {te : TE} {vs : List Nat} {σ : L2.St} {H1 : Hp} {D : Addr} {Qd : Hp → Prop} (hD : H1 D = none)
    (hG : ∀ H, Same H1 H → G H)
    (hs : ∀ i x H H' (N : VK), i < n → Same H1 H → Y i H x H' → (∀ H4, Same H H4 → N (ys i) H4) → g x (wipe σ vs) H' fun σ2 H2 => wipe σ2 vs = wipe σ vs ∧ te σ2 H2 N)
    (hd : ∀ H, Same H1 H → H D = some (.lst ((List.range n).map ys)) → Qd H) :
    ∃ W : Nat → Nat → Hp → Prop, (∃ m, W 0 m (upd H1 D (.lst []))) ∧ ∀ i m H, W i m H →
      (J.stop i H ∧ Qd H) ∨ (J.go i H ∧ ∃ Nx : Hp → Prop, (∀ H', Nx H' → ∃ m', m' < m ∧ W (i + 1) m' H') ∧ ∀ x H', J.yld i H x H' → g x (wipe σ vs) H' fun σ2 H2 => wipe σ2 vs = wipe σ vs ∧ tYes σ2 H2 fun b H3 =>
        if b = true then te σ2 H3 fun y H4 => ∃ acc, H4 D = some (.lst acc) ∧ acc.length < sizeLine ∧ Nx (upd H4 D (.lst (acc ++ [y]))) else Nx H3) :=
  lc_fl w (fun _ => true) ys hn hD hG (fun i x H H' N M hi s y h1 _ => hs i x H H' N hi s y (h1 rfl)) (by rw [filter_all]; exact hd)
/-- every turn gives a new list, of the row i -/
theorem lc_new {J : L2.It} {n : Nat} {G : Hp → Prop} {Y : Nat → Hp → V → Hp → Prop} (w : Walk J n G Y) (row : Nat → List V) (hn : n < sizeLine) {g : TG} {te : TE} {vs : List Nat} {σ : L2.St} {H1 : Hp} {D : Addr} {Qd : Hp → Prop} (hD : H1 D = none)
    (hG : ∀ H, Same H1 H → G H)
    (hs : ∀ i x H H' (N : VK), i < n → Same H1 H → Y i H x H' → (∀ H4 q, Same H H4 → H q = none → H4 q = some (.lst (row i)) → N (.ref q) H4) → g x (wipe σ vs) H' fun σ2 H2 => wipe σ2 vs = wipe σ vs ∧ te σ2 H2 N)
    (hd : ∀ (H : Hp) (ts : List Addr), Same H1 H → H D = some (.lst (ts.map V.ref)) → ts.length = n → (∀ i t, ts[i]? = some t → H1 t = none ∧ t ≠ D ∧ H t = some (.lst (row i))) → Qd H) :
    ∃ W : Nat → Nat → Hp → Prop, (∃ m, W 0 m (upd H1 D (.lst []))) ∧ ∀ i m H, W i m H →
      (J.stop i H ∧ Qd H) ∨ (J.go i H ∧ ∃ Nx : Hp → Prop, (∀ H', Nx H' → ∃ m', m' < m ∧ W (i + 1) m' H') ∧ ∀ x H', J.yld i H x H' → g x (wipe σ vs) H' fun σ2 H2 => wipe σ2 vs = wipe σ vs ∧ tYes σ2 H2 fun b H3 =>
        if b = true then te σ2 H3 fun y H4 => ∃ acc, H4 D = some (.lst acc) ∧ acc.length < sizeLine ∧ Nx (upd H4 D (.lst (acc ++ [y]))) else Nx H3) := by
  refine lc_it w (fun i H => Same H1 H ∧ ∃ ts : List Addr, H D = some (.lst (ts.map V.ref)) ∧ ts.length = i ∧ ∀ j t, ts[j]? = some t → H1 t = none ∧ t ≠ D ∧ H t = some (.lst (row j))) ⟨Same.new hD, [], upd_same, rfl, fun j t e => by simp at e⟩ (fun i H _ h => hG H h.1) (fun i x H H' hi h y => ?_) fun H h => ?_
  · obtain ⟨s, ts, eD, el, et⟩ := h
    refine hs i x H H' _ hi s y fun H4 q s4 nq eq => ?_
    have qD : q ≠ D := fun z => by rw [z, eD] at nq; cases nq
    refine ⟨_, s4 _ _ eD, by rw [List.length_map, el]; exact Nat.lt_trans hi hn, Same.over (s.trans s4) hD, ts ++ [q], ?_, by rw [List.length_append, el]; rfl, fun j t ej => ?_⟩
    · rw [upd_same, List.map_append]
      rfl
    · rcases Nat.lt_trichotomy j ts.length with h1 | h1 | h1
      · rw [List.getElem?_append_left h1] at ej
        obtain ⟨f1, f2, f3⟩ := et j t ej
        exact ⟨f1, f2, by rw [upd_ne f2]; exact s4 _ _ f3⟩
      · subst h1
        have e2 : q = t := by simpa using ej
        subst e2
        refine ⟨?_, qD, by rw [upd_ne qD, el]; exact eq⟩
        cases z : H1 q with
        | none => rfl
        | some o => rw [s q o z] at nq; cases nq
      · rw [List.getElem?_eq_none (by rw [List.length_append, List.length_singleton]; omega)] at ej
        cases ej
  · obtain ⟨s, ts, eD, el, et⟩ := h
    exact hd H ts s eD el et
/-- the method m of the class C keeps sp, by k levels -/
structure Kmt (P : Program) (w : World) (K : PySem.W.Frag) (mg : Str → Option Value) (base : Heap) (C : Addr) (k : Nat) (m : Str) (ps : List Str) (sp : Sp) : Prop where
  ex : ∃ f fd, Meth K C m f ∧ FnOk P w K mg base CX0 k f fd ps sp ∧ Binds K fd ps []
  cl : Cls K C
theorem pe_mt {X : Cx} {k j : Nat} {C : Addr} {m : Str} {ps : List Str} {sp : Sp} {o e : Expr} {es : List Expr} {ta : TE} {t : TA} {apos pos : Pos} {pl : Sem Bool} (c : Kmt X.prog X.w X.K X.mg X.base C k m ps sp) (hr : Room j X.A) (he : PE X o ta) (ha : PA X (e :: es) t) (hk : k ≤ j := by decide)
    (hst : starEach (e :: es) X.env = (false, eval e X.env) :: starEach es X.env := by rfl) (hpl : (backTo pos (starEach es X.env)).any (·.1) = false := by rfl)
    (ht : eval (.Call (.Attribute o m apos) (e :: es) [] pos) X.env = (do
      let ov ← eval o X.env; standAt apos.atName
      let (f, first) ← holding [ov] (getMethod ov m pl)
      callWith pos f first (backTo pos (starEach (e :: es) X.env)) (backToKw pos (keywordEach [] X.env))) := by rfl) :
    PE X (.Call (.Attribute o m apos) (e :: es) [] pos) (tMeth C m sp [] E0 ta t) := by
  obtain ⟨f, fd, hm, F, b⟩ := c.ex
  exact pe_meth he c.cl hm F (hr.mono hk) b .nil pass0 ha hst hpl ht
theorem pi_list_K {X : Cx} {K : PySem.W.Frag} (eK : X.K = K) {tg l : Expr} {tl : TE} (h : PE X l tl) : PI X tg l (iList K tl) := by
  subst eK
  exact pi_list h
theorem pi_zip_K {X : Cx} {K : PySem.W.Frag} (eK : X.K = K) {e e2 : Expr} {ta : TA} {p pos tpos : Pos} {elts : List Expr} {kk : Nat} (hg : Gl X "zip") (hm : X.mg "zip" = none) (ha : PA X [e, e2] ta)
    (hs : starEach [e, e2] X.env = (false, eval e X.env) :: starEach [e2] X.env := by rfl) (hpl : (backTo pos (starEach [e2] X.env)).any (·.1) = false := by rfl) :
    PI X (.Tuple elts kk tpos) (.Call (.Name "zip" p) [e, e2] [] pos) (iZip K ta) := by
  subst eK
  exact pi_zip hg hm ha hs hpl
theorem sqt_same {K : PySem.W.Frag} {H H' : Hp} {t : Addr} {xs : List V} (s : Same H H') (e : SqT K H t xs) : SqT K H' t xs := by
  rcases e with (h | ⟨o, h⟩) | h
  · exact .inl (.inl (s _ _ h))
  · exact .inl (.inr ⟨o, s _ _ h⟩)
  · exact .inr h
theorem pe_mt0 {X : Cx} {k j : Nat} {C : Addr} {m : Str} {ps : List Str} {sp : Sp} {o : Expr} {ta : TE} {apos pos : Pos} {pl : Sem Bool} (c : Kmt X.prog X.w X.K X.mg X.base C k m ps sp) (hr : Room j X.A) (he : PE X o ta) (hk : k ≤ j := by decide)
    (ht : eval (.Call (.Attribute o m apos) [] [] pos) X.env = (do
      let ov ← eval o X.env; standAt apos.atName
      let (f, first) ← holding [ov] (getMethod ov m pl)
      callWith pos f first (backTo pos (starEach [] X.env)) (backToKw pos (keywordEach [] X.env))) := by rfl) :
    PE X (.Call (.Attribute o m apos) [] [] pos) (tMeth C m sp [] E0 ta tNil) := by
  obtain ⟨f, fd, hm, F, b⟩ := c.ex
  exact pe_meth0 he c.cl hm F (hr.mono hk) b .nil pass0 ht
/-- the class C is made by an __init__ that keeps sp, by k levels -/
structure Kmk (P : Program) (w : World) (K : PySem.W.Frag) (mg : Str → Option Value) (base : Heap) (C : Addr) (k : Nat) (ps : List Str) (sp : Sp) : Prop where
  ex : ∃ f fd, Mk K C f ∧ FnOk P w K mg base CX0 k f fd ps sp ∧ Binds K fd ps []
theorem pe_mk {X : Cx} {k j : Nat} {C : Addr} {x : Str} {ps : List Str} {sp : Sp} {e : Expr} {es : List Expr} {t : TA} {p pos : Pos} (c : Kmk X.prog X.w X.K X.mg X.base C k ps sp) (hm : X.mg x = some (.ref C)) (hr : Room j X.A) (ha : PA X (e :: es) t) (hk : k + 1 ≤ j := by decide) (hg : Gl X x := by rfl)
    (hdb : (x == ("__debug__" : Str)) = false := by decide) (he : starEach (e :: es) X.env = (false, eval e X.env) :: starEach es X.env := by rfl) (hpl : (backTo pos (starEach es X.env)).any (·.1) = false := by rfl) :
    PE X (.Call (.Name x p) (e :: es) [] pos) (tMake C sp [] E0 t) := by
  obtain ⟨f, fd, M, F, b⟩ := c.ex
  exact pe_make M F (hr.mono hk) hg hm b .nil pass0 ha hdb he hpl
end Ow
/-! zip and enumerate over lists and tuples, in any mixture: a flag tells which -/
namespace Zg
open PySem PySem.Spec PyProof.Rows L2 Ow
/-- the items at l: of a tuple (true) or of a list (false) -/
def Sq1 : Bool → Heap → Addr → Array Value → Prop
  | true, h, l, xs => h.IsTuple l xs
  | false, h, l, xs => h.IsList l xs
/-- the iterator it of l, at turn k -/
def It1 : Bool → Heap → Addr → Addr → Nat → Prop
  | true, h, i, l, k => h.IsTupleIter i l k
  | false, h, i, l, k => h.IsListIter i l k
def nmIt : Bool → String
  | true => "tuple_iterator"
  | false => "list_iterator"
/-- a new iterator of l -/
def itOb (t : Bool) (l : Addr) : Obj := { cls := .type (nmIt t), data := .fields #[.ref l, .int 0 0] }
theorem It1.keep {t : Bool} {h h' : Heap} {i l : Addr} {k : Nat} (g : It1 t h i l k) (e : ∀ o, h.get? i = some o → h'.get? i = some o) : It1 t h' i l k := by
  cases t
  · exact Heap.IsListIter.at g e
  · exact Heap.IsTupleIter.at g e
theorem Sq1.keep {t : Bool} {h h' : Heap} {l : Addr} {xs : Array Value} (g : Sq1 t h l xs) (e : ∀ o, h.get? l = some o → h'.get? l = some o) : Sq1 t h' l xs := by
  cases t
  · exact Heap.IsList.at g e
  · obtain ⟨o, a, b⟩ := g
    exact ⟨o, e o a, b⟩
theorem It1.ob {t : Bool} {h : Heap} {i l : Addr} {k : Nat} (g : It1 t h i l k) : ∃ o, h.get? i = some o ∧ o.data = .fields #[.ref l, rawInt k] := by
  cases t
  · obtain ⟨o, a, _, b⟩ := g
    exact ⟨o, a, b⟩
  · obtain ⟨o, a, _, b⟩ := g
    exact ⟨o, a, b⟩
theorem It1.lt {t : Bool} {h : Heap} {i l : Addr} {k : Nat} (g : It1 t h i l k) : i < h.objs.size := by
  obtain ⟨o, a, _⟩ := g.ob
  exact Heap.lt_size a
theorem It1.new {t : Bool} {h : Heap} {i l : Addr} (e : h.get? i = some (itOb t l)) : It1 t h i l 0 := by
  cases t
  · exact ⟨_, e, rfl, rfl⟩
  · exact ⟨_, e, rfl, rfl⟩
section
variable {prog : Program} {w : World} {A : Around} {E : Value → Shared → Prop} {s : Shared}
theorem draw {t : Bool} {i l : Addr} {k : Nat} {xs : Array Value} {x : Value} {Q : Value → Shared → Prop} (g : It1 t s.heap i l k) (f : Sq1 t s.heap l xs) (e : xs[k]? = some x)
    (q : ∀ h', It1 t h' i l (k + 1) → Heap.SameBut i s.heap h' → Q x { s with heap := h' }) : wpAny (model prog w) A (Builtin.SmallTypes.nextOf (.ref i)) Q E s := by
  cases t
  · exact wpAny_nextOf_list_item g f e q
  · exact RZ.nextOf_tuple_item g f e q
theorem drawEnd {t : Bool} {i l : Addr} {k : Nat} {xs : Array Value} {Q : Value → Shared → Prop} (hh : A.handled = none) (g : It1 t s.heap i l k) (f : Sq1 t s.heap l xs) (e : xs[k]? = none)
    (q : ∀ h' u, Heap.ExtBut i s.heap h' → (∃ o, h'.get? u = some o ∧ o.cls = .type "StopIteration") → E (.ref u) { s with heap := h' }) : wpAny (model prog w) A (Builtin.SmallTypes.nextOf (.ref i)) Q E s := by
  cases t
  · exact wpAny_nextOf_list_end hh g f e q
  · exact RZ.nextOf_tuple_end hh g f e q
theorem iter1 {t : Bool} {l : Addr} {xs : Array Value} {Q : Value → Shared → Prop} (f : Sq1 t s.heap l xs) (q : Q (.ref s.heap.objs.size) { s with heap := s.heap.push (itOb t l) }) : wpAny (model prog w) A (pyIter (.ref l)) Q E s := by
  cases t
  · exact wpAny_pyIter_list f q
  · exact wpAny_pyIter_tuple f q
/-! ### zip -/
theorem zg_item {t u : Bool} {z TI TO i1 i2 l1 l2 : Addr} {k1 k2 : Nat} {xs ys : Array Value} {x y a b : Value} {Q : Value → Shared → Prop} (D : ZipApart z TI TO i1 i2 l1 l2) (hz : IsZip s.heap z TI TO .none) (hTI : IsPair s.heap TI (.ref i1) (.ref i2)) (hTO : IsPair s.heap TO a b)
    (g1 : It1 t s.heap i1 l1 k1) (g2 : It1 u s.heap i2 l2 k2) (f1 : Sq1 t s.heap l1 xs) (f2 : Sq1 u s.heap l2 ys) (hx : xs[k1]? = some x) (hy : ys[k2]? = some y)
    (hQ : ∀ h', IsZip h' z TI TO (rawInt s.heap.objs.size) → IsPair h' TO x y → It1 t h' i1 l1 (k1 + 1) → It1 u h' i2 l2 (k2 + 1) → IsPair h' s.heap.objs.size x y → h'.objs.size = s.heap.objs.size + 1 → (∀ c o, c ≠ z → c ≠ TO → c ≠ i1 → c ≠ i2 → s.heap.get? c = some o → h'.get? c = some o) → Q (.ref s.heap.objs.size) { s with heap := h' }) :
    wpAny (model prog w) A (Builtin.«zip.__next__» ⟨[.ref z], []⟩) (fun fin s' => ∃ v, fin = .done (.ret v) ∧ Q v s') E s := by
  show wpAny _ _ (field (.ref z) 2 >>= _) _ _ _
  refine wpAny_bind (wpAny_field hz rfl (x := .bool false) rfl (?_ : wpAny _ _ (field (.ref z) 3 >>= _) _ _ _))
  refine wpAny_bind (wpAny_field hz rfl (x := .ref TI) rfl (wpAny_bind (wpAny_seqItems hTI rfl (?_ : wpAny _ _ (Builtin.SmallTypes.ownedTupleIsFree (.ref z) >>= _) _ _ _))))
  refine wpAny_bind ?_
  unfold Builtin.SmallTypes.ownedTupleIsFree
  refine wpAny_bind (wpAny_field hz rfl (x := .none) rfl (wpAny_pure ?_))
  simp only [if_true]
  refine wpAny_bind (wpAny_rule (wpAny_bind (wpAny_field hz rfl (x := .ref TO) rfl (wpAny_bind (wpAny_setField_rec hz (by simp) fun ha za sa => ?_)))))
  replace za : IsZip ha z TI TO .ellipsis := za
  refine wpAny_bind ?_
  simp only [List.zipIdx_cons, List.zipIdx_nil, List.forIn_cons, List.forIn_nil]
  refine wpAny_bind (wpAny_bind (wpAny_onRaise (?_ : wpAny _ _ (Builtin.SmallTypes.nextOf (.ref i1) >>= _) _ _ _)))
  refine wpAny_bind (draw (g1.keep fun o => sa.extBut _ o D.i1z) (f1.keep fun o => sa.extBut _ o D.l1z) hx fun hb gb sb => wpAny_pure ?_)
  have pb : IsPair hb TO a b := sb.extBut _ _ D.TOi1 (sa.extBut _ _ D.TOz hTO)
  refine wpAny_bind (wpAny_seqItems pb rfl (wpAny_bind (wpAny_updateSeq_pair pb fun hc pc sc => ?_)))
  replace pc : IsPair hc TO x b := pc
  refine wpAny_bind (wpAny_letGo (wpAny_pure ?_))
  refine wpAny_bind (wpAny_bind (wpAny_onRaise (?_ : wpAny _ _ (Builtin.SmallTypes.nextOf (.ref i2) >>= _) _ _ _)))
  refine wpAny_bind (draw (g2.keep fun o e => sc.extBut _ o D.TOi2.symm (sb.extBut _ o D.i12.symm (sa.extBut _ o D.i2z e))) (f2.keep fun o e => sc.extBut _ o D.l2TO (sb.extBut _ o D.l2i1 (sa.extBut _ o D.l2z e))) hy fun hd gd sd => wpAny_pure ?_)
  have pd : IsPair hd TO x b := sd.extBut _ _ D.TOi2 pc
  refine wpAny_bind (wpAny_seqItems pd rfl (wpAny_bind (wpAny_updateSeq_pair pd fun he pe se => ?_)))
  replace pe : IsPair he TO x y := pe
  refine wpAny_bind (wpAny_letGo (wpAny_pure (wpAny_pure ?_)))
  refine wpAny_bind (wpAny_seqItems pe rfl (wpAny_bind (wpAny_newTuple ?_)))
  have n5 : he.objs.size = s.heap.objs.size := by rw [se.1, sd.1, sc.1, sb.1, sa.1]
  have ze : IsZip he z TI TO .ellipsis := se.extBut _ _ D.TOz.symm (sd.extBut _ _ D.i2z.symm (sc.extBut _ _ D.TOz.symm (sb.extBut _ _ D.i1z.symm za)))
  have ke : ∀ c o, c ≠ z → c ≠ TO → c ≠ i1 → c ≠ i2 → s.heap.get? c = some o → he.get? c = some o := fun c o c1 c2 c3 c4 e => se.extBut _ _ c2 (sd.extBut _ _ c4 (sc.extBut _ _ c2 (sb.extBut _ _ c3 (sa.extBut _ _ c1 e))))
  have g1e : It1 t he i1 l1 (k1 + 1) := gb.keep fun o e => se.extBut _ o D.TOi1.symm (sd.extBut _ o D.i12 (sc.extBut _ o D.TOi1.symm e))
  have g2e : It1 u he i2 l2 (k2 + 1) := gd.keep fun o e => se.extBut _ o D.TOi2.symm e
  have zlt : z < he.objs.size := Heap.lt_size ze
  show wpAny _ _ (Builtin.SmallTypes.ownedTupleHandOut (.ref z) (.ref he.objs.size) >>= _) _ _ _
  refine wpAny_bind ?_
  unfold Builtin.SmallTypes.ownedTupleHandOut
  have z6 : IsZip (he.push { cls := .type "tuple", data := .seq #[x, y] }) z TI TO .ellipsis := Heap.get?_push_of_some _ ze
  refine wpAny_bind (wpAny_setField_rec z6 (by simp) fun h7 z7 s7 => ?_)
  replace z7 : IsZip h7 z TI TO (rawInt he.objs.size) := z7
  refine wpAny_setField_rec z7 (by simp) fun h8 z8 s8 => ?_
  replace z8 : IsZip h8 z TI TO (rawInt he.objs.size) := z8
  have up : ∀ c o, c ≠ z → he.get? c = some o → h8.get? c = some o := fun c o c1 e => s8.extBut _ _ c1 (s7.extBut _ _ c1 (Heap.get?_push_of_some _ e))
  have t8 : IsPair h8 he.objs.size x y := s8.extBut _ _ (Nat.ne_of_gt zlt) (s7.extBut _ _ (Nat.ne_of_gt zlt) (Heap.get?_push_size _ rfl))
  have n8 : h8.objs.size = he.objs.size + 1 := by rw [s8.1, s7.1, Heap.size_push]
  rw [n5] at z8 t8 n8
  refine wpAny_pure ⟨_, rfl, (?_ : Q (.ref he.objs.size) _)⟩
  rw [n5]
  exact hQ h8 z8 (up _ _ D.TOz pe) (g1e.keep fun o e => up _ o D.i1z e) (g2e.keep fun o e => up _ o D.i2z e) t8 n8 fun c o c1 c2 c3 c4 e => up c o c1 (ke c o c1 c2 c3 c4 e)
theorem zg_end {t u : Bool} {z TI TO i1 i2 l1 l2 : Addr} {k1 k2 : Nat} {xs ys : Array Value} {a b : Value} {Q : Fin → Shared → Prop} (hh : A.handled = none) (D : ZipApart z TI TO i1 i2 l1 l2) (hz : IsZip s.heap z TI TO .none) (hTI : IsPair s.heap TI (.ref i1) (.ref i2)) (hTO : IsPair s.heap TO a b)
    (g1 : It1 t s.heap i1 l1 k1) (g2 : It1 u s.heap i2 l2 k2) (f1 : Sq1 t s.heap l1 xs) (f2 : Sq1 u s.heap l2 ys) (hend : xs[k1]? = none ∨ ys[k2]? = none)
    (hE : ∀ h' e, (∀ c o, c ≠ z → c ≠ TO → c ≠ i1 → c ≠ i2 → s.heap.get? c = some o → h'.get? c = some o) → (∃ o, h'.get? e = some o ∧ o.cls = .type "StopIteration") → E (.ref e) { s with heap := h' }) :
    wpAny (model prog w) A (Builtin.«zip.__next__» ⟨[.ref z], []⟩) Q E s := by
  show wpAny _ _ (field (.ref z) 2 >>= _) _ _ _
  refine wpAny_bind (wpAny_field hz rfl (x := .bool false) rfl (?_ : wpAny _ _ (field (.ref z) 3 >>= _) _ _ _))
  refine wpAny_bind (wpAny_field hz rfl (x := .ref TI) rfl (wpAny_bind (wpAny_seqItems hTI rfl (?_ : wpAny _ _ (Builtin.SmallTypes.ownedTupleIsFree (.ref z) >>= _) _ _ _))))
  refine wpAny_bind ?_
  unfold Builtin.SmallTypes.ownedTupleIsFree
  refine wpAny_bind (wpAny_field hz rfl (x := .none) rfl (wpAny_pure ?_))
  simp only [if_true]
  refine wpAny_bind (wpAny_rule (wpAny_bind (wpAny_field hz rfl (x := .ref TO) rfl (wpAny_bind (wpAny_setField_rec hz (by simp) fun ha za sa => ?_)))))
  replace za : IsZip ha z TI TO .ellipsis := za
  refine wpAny_bind ?_
  simp only [List.zipIdx_cons, List.zipIdx_nil, List.forIn_cons, List.forIn_nil]
  refine wpAny_bind (wpAny_bind (wpAny_onRaise (?_ : wpAny _ _ (Builtin.SmallTypes.nextOf (.ref i1) >>= _) _ _ _)))
  cases hx : xs[k1]? with
  | none =>
    refine wpAny_bind (drawEnd hh (g1.keep fun o => sa.extBut _ o D.i1z) (f1.keep fun o => sa.extBut _ o D.l1z) hx fun hb e sb he => ?_)
    obtain ⟨oe, eo, ec⟩ := he
    have zb : IsZip hb z TI TO .ellipsis := sb _ _ D.i1z.symm za
    have ez : e ≠ z := fun x => by subst x; rw [zb] at eo; cases eo; simp at ec
    exact wpAny_setField_rec zb (by simp) fun hc _ sc => hE hc e (fun c o c1 _ c3 _ x => sc.extBut _ _ c1 (sb _ _ c3 (sa.extBut _ _ c1 x))) ⟨oe, sc.extBut _ _ ez eo, ec⟩
  | some x =>
    have hy : ys[k2]? = none := by rcases hend with h | h; rw [hx] at h; cases h; exact h
    refine wpAny_bind (draw (g1.keep fun o => sa.extBut _ o D.i1z) (f1.keep fun o => sa.extBut _ o D.l1z) hx fun hb gb sb => wpAny_pure ?_)
    have pb : IsPair hb TO a b := sb.extBut _ _ D.TOi1 (sa.extBut _ _ D.TOz hTO)
    refine wpAny_bind (wpAny_seqItems pb rfl (wpAny_bind (wpAny_updateSeq_pair pb fun hc pc sc => ?_)))
    refine wpAny_bind (wpAny_letGo (wpAny_pure ?_))
    refine wpAny_bind (wpAny_bind (wpAny_onRaise (?_ : wpAny _ _ (Builtin.SmallTypes.nextOf (.ref i2) >>= _) _ _ _)))
    refine wpAny_bind (drawEnd hh (g2.keep fun o e => sc.extBut _ o D.TOi2.symm (sb.extBut _ o D.i12.symm (sa.extBut _ o D.i2z e))) (f2.keep fun o e => sc.extBut _ o D.l2TO (sb.extBut _ o D.l2i1 (sa.extBut _ o D.l2z e))) hy fun hd e sd he => ?_)
    obtain ⟨oe, eo, ec⟩ := he
    have zd : IsZip hd z TI TO .ellipsis := sd _ _ D.i2z.symm (sc.extBut _ _ D.TOz.symm (sb.extBut _ _ D.i1z.symm za))
    have ez : e ≠ z := fun x => by subst x; rw [zd] at eo; cases eo; simp at ec
    exact wpAny_setField_rec zd (by simp) fun hf _ sf => hE hf e (fun c o c1 c2 c3 c4 x => sf.extBut _ _ c1 (sd _ _ c4 (sc.extBut _ _ c2 (sb.extBut _ _ c3 (sa.extBut _ _ c1 x))))) ⟨oe, sf.extBut _ _ ez eo, ec⟩
theorem zg_next {t u : Bool} {z TI TO i1 i2 l1 l2 : Addr} {k1 k2 : Nat} {xs ys : Array Value} {x y a b : Value} {Q : Option Value → Shared → Prop} (D : ZipApart z TI TO i1 i2 l1 l2) (hz : IsZip s.heap z TI TO .none) (hTI : IsPair s.heap TI (.ref i1) (.ref i2)) (hTO : IsPair s.heap TO a b)
    (g1 : It1 t s.heap i1 l1 k1) (g2 : It1 u s.heap i2 l2 k2) (f1 : Sq1 t s.heap l1 xs) (f2 : Sq1 u s.heap l2 ys) (hx : xs[k1]? = some x) (hy : ys[k2]? = some y)
    (hQ : ∀ h', IsZip h' z TI TO (rawInt s.heap.objs.size) → IsPair h' TO x y → It1 t h' i1 l1 (k1 + 1) → It1 u h' i2 l2 (k2 + 1) → IsPair h' s.heap.objs.size x y → h'.objs.size = s.heap.objs.size + 1 → (∀ c o, c ≠ z → c ≠ TO → c ≠ i1 → c ≠ i2 → s.heap.get? c = some o → h'.get? c = some o) → Q (some (.ref s.heap.objs.size)) { s with heap := h' }) :
    wpAny (model prog w) A (pyNext (.ref z)) Q E s := by
  have T : s.TypeIs (.ref z) "zip" := ⟨_, hz, rfl⟩
  unfold pyNext
  exact wpAny_bind (wpAny_attempt (wpAny_callSpecial?_slot (name := Str.ofString "__next__") T F.slot_zip_next (wpAny_call_entry F.slot_zip_next T F.entry_zip_next
      (zg_item D hz hTI hTO g1 g2 f1 f2 hx hy fun h' a1 a2 a3 a4 a5 a6 a7 => wpAny_pure (hQ h' a1 a2 a3 a4 a5 a6 a7)) (F.args_zip_next_1 _))))
theorem zg_none {t u : Bool} {z TI TO i1 i2 l1 l2 : Addr} {k1 k2 : Nat} {xs ys : Array Value} {a b : Value} {Q : Option Value → Shared → Prop} (hh : A.handled = none) (D : ZipApart z TI TO i1 i2 l1 l2) (hz : IsZip s.heap z TI TO .none) (hTI : IsPair s.heap TI (.ref i1) (.ref i2)) (hTO : IsPair s.heap TO a b)
    (g1 : It1 t s.heap i1 l1 k1) (g2 : It1 u s.heap i2 l2 k2) (f1 : Sq1 t s.heap l1 xs) (f2 : Sq1 u s.heap l2 ys) (hend : xs[k1]? = none ∨ ys[k2]? = none)
    (hQ : ∀ h', (∀ c o, c ≠ z → c ≠ TO → c ≠ i1 → c ≠ i2 → s.heap.get? c = some o → h'.get? c = some o) → Q none { s with heap := h' }) : wpAny (model prog w) A (pyNext (.ref z)) Q E s := by
  have T : s.TypeIs (.ref z) "zip" := ⟨_, hz, rfl⟩
  unfold pyNext
  refine wpAny_bind (wpAny_attempt (wpAny_callSpecial?_slot (name := Str.ofString "__next__") T F.slot_zip_next (wpAny_call_entry F.slot_zip_next T F.entry_zip_next (zg_end hh D hz hTI hTO g1 g2 f1 f2 hend fun h' e hk he => ?_) (F.args_zip_next_1 _))))
  obtain ⟨o, eo, ec⟩ := he
  exact wpAny_bind (wpAny_isInstance (T := "StopIteration") (b := true) ⟨o, eo, ec⟩ isSubtype_stop (wpAny_pure (hQ _ hk)))
end
abbrev zgA (t : Bool) (h : Heap) (l1 : Addr) : Heap := h.push (itOb t l1)
abbrev zgB (t u : Bool) (h : Heap) (l1 l2 : Addr) : Heap := (zgA t h l1).push (itOb u l2)
abbrev zgC (t u : Bool) (h : Heap) (l1 l2 : Addr) : Heap := (zgB t u h l1 l2).push { cls := .type "tuple", data := .seq #[.ref h.objs.size, .ref (zgA t h l1).objs.size] }
abbrev zgD (t u : Bool) (h : Heap) (l1 l2 : Addr) : Heap := (zgC t u h l1 l2).push { cls := .type "tuple", data := .seq #[.none, .none] }
abbrev zgE (t u : Bool) (h : Heap) (l1 l2 : Addr) : Heap := (zgD t u h l1 l2).push { cls := .type "zip", data := .fields #[.none, .bool false, .bool false, .ref (zgB t u h l1 l2).objs.size, .ref (zgC t u h l1 l2).objs.size] }
theorem zg_new (t u : Bool) (l1 l2 : Addr) (xs ys : Array Value) : Meets (Builtin.«zip.__new__» ⟨[.type "zip", .ref l1, .ref l2], []⟩) (fun _ R s => Sq1 t s.heap l1 xs ∧ Sq1 u s.heap l2 ys ∧
      R (.ok (.ret (.ref (zgD t u s.heap l1 l2).objs.size))) { s with heap := zgE t u s.heap l1 l2 }) :=
  .of_wp fun prog w A R s h => by
    obtain ⟨hp, g, d, tk, os⟩ := s
    obtain ⟨f1, f2, h⟩ := h
    have hsub := sub_zip
    have e1 : Sq1 t (Shared.heap ⟨hp, g, d, tk, os⟩) l1 xs := f1
    have e2 : Sq1 u (Shared.heap ⟨hp.push (itOb t l1), g, d, tk, os⟩) l2 ys := f2.keep fun o e => Heap.get?_push_of_some _ e
    wp_walk using iter1 e1, iter1 e2
    exact ⟨_, rfl, h⟩
section
variable {prog : Program} {w : World} {A : Around} {E : Value → Shared → Prop} {s : Shared}
theorem zg_call {t u : Bool} {l1 l2 : Addr} {xs ys : Array Value} {Q : Value → Shared → Prop} (f1 : Sq1 t s.heap l1 xs) (f2 : Sq1 u s.heap l2 ys)
    (h : ∀ h', IsZip h' (s.heap.objs.size + 4) (s.heap.objs.size + 2) (s.heap.objs.size + 3) .none → IsPair h' (s.heap.objs.size + 2) (.ref s.heap.objs.size) (.ref (s.heap.objs.size + 1)) → IsPair h' (s.heap.objs.size + 3) .none .none → It1 t h' s.heap.objs.size l1 0 → It1 u h' (s.heap.objs.size + 1) l2 0 → h'.objs.size = s.heap.objs.size + 5 →
      (∀ c o, s.heap.get? c = some o → h'.get? c = some o) → Q (.ref (s.heap.objs.size + 4)) { s with heap := h' }) : wpAny (model prog w) A (call (.type "zip") [.ref l1, .ref l2]) Q E s := by
  refine callType_new F.called_zip (by decide) (F.typeCall_zip_2 _ _) (F.newCall_zip_2 _ _) (fun obj => F.args_object_init_3 obj _ _) F.entry_zip_new (zg_new t u l1 l2 xs ys) ⟨f1, f2, ?_⟩
  have n1 : (zgA t s.heap l1).objs.size = s.heap.objs.size + 1 := Heap.size_push ..
  have n2 : (zgB t u s.heap l1 l2).objs.size = s.heap.objs.size + 2 := by rw [Heap.size_push, n1]
  have n3 : (zgC t u s.heap l1 l2).objs.size = s.heap.objs.size + 3 := by rw [Heap.size_push, n2]
  have n4 : (zgD t u s.heap l1 l2).objs.size = s.heap.objs.size + 4 := by rw [Heap.size_push, n3]
  have n5 : (zgE t u s.heap l1 l2).objs.size = s.heap.objs.size + 5 := by rw [Heap.size_push, n4]
  have up : ∀ {h : Heap} {c : Addr} {o v : Obj}, h.get? c = some o → (h.push v).get? c = some o := fun e => Heap.get?_push_of_some _ e
  have m5 : (zgE t u s.heap l1 l2).get? (zgD t u s.heap l1 l2).objs.size = some _ := Heap.get?_push_size _ rfl
  have m4 : (zgE t u s.heap l1 l2).get? (zgC t u s.heap l1 l2).objs.size = some _ := up (Heap.get?_push_size _ rfl)
  have m3 : (zgE t u s.heap l1 l2).get? (zgB t u s.heap l1 l2).objs.size = some _ := up (up (Heap.get?_push_size _ rfl))
  have m2 : (zgE t u s.heap l1 l2).get? (zgA t s.heap l1).objs.size = some (itOb u l2) := up (up (up (Heap.get?_push_size _ rfl)))
  have m1 : (zgE t u s.heap l1 l2).get? s.heap.objs.size = some (itOb t l1) := up (up (up (up (Heap.get?_push_size _ rfl))))
  show _ ∧ _
  rw [n2, n3, n4] at m5
  rw [n1, n2] at m3
  rw [n3] at m4
  rw [n1] at m2
  rw [n4]
  exact ⟨⟨_, m5, rfl⟩, h _ m5 m3 m4 (.new m1) (.new m2) n5 fun c o x => up (up (up (up (up x))))⟩
end
/-! ### as rules of the hand layer -/
/-- the items at a by the heap's account: of a tuple (true) or a list -/
def SqB (K : PySem.W.Frag) : Bool → Hp → Addr → List V → Prop
  | true, H, a, xs => SqT K H a xs
  | false, H, a, xs => SqL K H a xs
theorem SqB.same {K : PySem.W.Frag} {t : Bool} {H H' : Hp} {a : Addr} {xs : List V} (s : Same H H') (h : SqB K t H a xs) : SqB K t H' a xs := by
  cases t
  · exact s.seq h
  · exact sqt_same s h
theorem sqb_heap {X : Cx} {pins : List (Addr × Obj)} {σ : L2.St} {H : Hp} {s : Shared} {t : Bool} {a : Addr} {xs : List V} (I : Inv X pins σ H s) (h : SqB X.K t H a xs) : ∃ its : List Value, Vals xs its ∧ Sq1 t s.heap a its.toArray ∧ a < s.heap.objs.size := by
  cases t
  · obtain ⟨its, r, p, _⟩ := I.list h
    exact ⟨its, r, p.isList, p.lt⟩
  · obtain ⟨its, r, p, _⟩ := I.tuple h
    obtain ⟨o, e, _⟩ := id p
    exact ⟨its, r, p, Heap.lt_size e⟩
theorem sqb_inj {X : Cx} {pins : List (Addr × Obj)} {σ : L2.St} {H : Hp} {s : Shared} {t : Bool} {a : Addr} {xs ys : List V} (I : Inv X pins σ H s) (h : SqB X.K t H a xs) (h' : SqB X.K t H a ys) : xs = ys := by
  cases t
  · exact I.list_inj h h'
  · exact I.tuple_inj h h'
def ItzG (K : PySem.W.Frag) (t u : Bool) (a b : Addr) : It :=
  ⟨fun i H => ∃ (xs ys : List V) (x y : V), SqB K t H a xs ∧ SqB K u H b ys ∧ xs[i]? = some x ∧ ys[i]? = some y,
    fun i H v H' => ∃ T x y, v = .ref T ∧ H T = none ∧ H' = upd H T (.tup [x, y]) ∧ (∀ xs, SqB K t H a xs → xs[i]? = some x) ∧ ∀ ys, SqB K u H b ys → ys[i]? = some y,
    fun i H => ∃ xs ys : List V, SqB K t H a xs ∧ SqB K u H b ys ∧ (xs.length ≤ i ∨ ys.length ≤ i)⟩
theorem turnG {P : Program} {w : World} {K : PySem.W.Frag} {elts : List Expr} {kk : Nat} {tpos : Pos} {t u : Bool} {a b z TI TO i1 i2 : Addr} (D : ZipApart z TI TO i1 i2 a b) :
    Turn P w K (.Tuple elts kk tpos) (ItzG K t u a b) [z, TI, TO, i1, i2] z (fun i h => IsZip h z TI TO .none ∧ IsPair h TI (.ref i1) (.ref i2) ∧ (∃ x y, IsPair h TO x y) ∧ It1 t h i1 a i ∧ It1 u h i2 b i) where
  mem := by simp
  obj := fun i h st c hc => by
    obtain ⟨hz, hTI, ⟨x, y, hTO⟩, g1, g2⟩ := st
    obtain ⟨o1, e1, d1⟩ := g1.ob
    obtain ⟨o2, e2, d2⟩ := g2.ob
    have e' : c = z ∨ c = TI ∨ c = TO ∨ c = i1 ∨ c = i2 := by simpa using hc
    rcases e' with q | q | q | q | q
    · rw [q]; exact ⟨_, hz, fun v e => nomatch e⟩
    · rw [q]; exact ⟨_, hTI, fun v e => nomatch e⟩
    · rw [q]; exact ⟨_, hTO, fun v e => nomatch e⟩
    · exact ⟨o1, by rw [q]; exact e1, fun v q => by rw [d1] at q; cases q⟩
    · exact ⟨o2, by rw [q]; exact e2, fun v q => by rw [d2] at q; cases q⟩
  keep := fun i h h' st k => by
    obtain ⟨hz, hTI, ⟨x, y, hTO⟩, g1, g2⟩ := st
    exact ⟨k z (by simp) _ hz, k TI (by simp) _ hTI, ⟨x, y, k TO (by simp) _ hTO⟩, g1.keep fun o q => k i1 (by simp) o q, g2.keep fun o q => k i2 (by simp) o q⟩
  item := by
    intro X hP hw hK hc i pins s σ H E I hf st hg
    subst hP hw hK
    obtain ⟨hz, hTI, ⟨x0, y0, hTO⟩, g1, g2⟩ := st
    obtain ⟨xs, ys, x, y, qx, qy, hx, hy⟩ := hg
    obtain ⟨it1, r1, p1, _⟩ := sqb_heap I qx
    obtain ⟨it2, r2, p2, _⟩ := sqb_heap I qy
    obtain ⟨v1, hv1, rv1⟩ := r1.get hx
    obtain ⟨v2, hv2, rv2⟩ := r2.get hy
    have zl : z < s.heap.objs.size := Heap.lt_size hz
    refine zg_next D hz hTI hTO g1 g2 p1 p2 (x := v1) (y := v2) (by simpa using hv1) (by simpa using hv2) fun h' z' TO' k1 k2 hT hsz hk => ⟨_, rfl, wpAny_letOwnedTupleGo_zip (s := { s with heap := h' }) z' fun h'' z'' sb => ?_⟩
    have hT2 : h''.get? s.heap.objs.size = some { cls := .type "tuple", data := .seq #[v1, v2] } := (sb.2 _ (Nat.ne_of_gt zl)).trans hT
    have new : ObjOk X.prog X.w (upd H s.heap.objs.size (.tup [x, y])) h'' s.heap.objs.size (.tup [x, y]) := ⟨by show 2 ≤ sizeLine; decide, [v1, v2], .cons rv1 (.cons rv2 .nil), ⟨_, hT2, rfl, _, rfl⟩⟩
    have I1 : Inv X pins σ (upd H s.heap.objs.size (.tup [x, y])) { s with heap := h'' } := I.turnedNew (t' := s.toks) (ch := [z, TI, TO, i1, i2]) (fun c o hb q => (sb.2 c (fun q' => hb (by simp [q']))).trans (hk c o (fun q' => hb (by simp [q'])) (fun q' => hb (by simp [q'])) (fun q' => hb (by simp [q'])) (fun q' => hb (by simp [q'])) q)) hf (Nat.le_refl _) new
    refine ⟨.ref s.heap.objs.size, _, I1, rfl, ⟨_, x, y, rfl, I.hok.fresh (Nat.le_refl _), rfl, fun l hl => by rw [sqb_inj I hl qx]; exact hx, fun l hl => by rw [sqb_inj I hl qy]; exact hy⟩,
      ⟨z'', (sb.2 _ D.TIz).trans (hk _ _ D.TIz D.TITO D.TIi1 D.TIi2 hTI), ⟨v1, v2, (sb.2 _ D.TOz).trans TO'⟩, k1.keep fun o q => (sb.2 _ D.i1z).trans q, k2.keep fun o q => (sb.2 _ D.i2z).trans q⟩, fun c hcm => ?_⟩
    have hlt : c < s.heap.objs.size := by
      have e' : c = z ∨ c = TI ∨ c = TO ∨ c = i1 ∨ c = i2 := by simpa using hcm
      rcases e' with q | q | q | q | q <;> rw [q]
      · exact zl
      · exact Heap.lt_size hTI
      · exact Heap.lt_size hTO
      · exact g1.lt
      · exact g2.lt
    rw [upd_ne (Nat.ne_of_lt hlt)]
    exact (hf c hcm).1
  done := by
    intro X hP hw hK hc i pins s σ H E I hf st hg
    subst hP hw hK
    obtain ⟨hz, hTI, ⟨x0, y0, hTO⟩, g1, g2⟩ := st
    obtain ⟨xs, ys, qx, qy, hend⟩ := hg
    obtain ⟨it1, r1, p1, _⟩ := sqb_heap I qx
    obtain ⟨it2, r2, p2, _⟩ := sqb_heap I qy
    have l1 := r1.length
    have l2 := r2.length
    have he : it1.toArray[i]? = none ∨ it2.toArray[i]? = none := by
      rcases hend with q | q
      · exact .inl (by simp; omega)
      · exact .inr (by simp; omega)
    exact zg_none (I.ok.hd hc) D hz hTI hTO g1 g2 p1 p2 he fun h' hk => ⟨rfl, I.turnedL (t' := s.toks) (ch := [z, TI, TO, i1, i2]) (fun c o hb q => hk c o (fun q' => hb (by simp [q'])) (fun q' => hb (by simp [q'])) (fun q' => hb (by simp [q'])) (fun q' => hb (by simp [q'])) q) hf⟩
  self := fun A i s Q E st h => wpAny_pyIter_zip st.1 h
def iZipG (K : PySem.W.Frag) (ta : TA) : TI := fun σ H R => ta σ H fun vs H1 => ∃ (t u : Bool) (a b : Addr) (xs ys : List V), vs = [.ref a, .ref b] ∧ SqB K t H1 a xs ∧ SqB K u H1 b ys ∧ R (ItzG K t u a b) H1
theorem pi_zipG {X : Cx} {K : PySem.W.Frag} (eK : X.K = K) {e e2 : Expr} {ta : TA} {p pos tpos : Pos} {elts : List Expr} {kk : Nat} (hg : Gl X "zip") (hm : X.mg "zip" = none) (ha : PA X [e, e2] ta)
    (hs : starEach [e, e2] X.env = (false, eval e X.env) :: starEach [e2] X.env := by rfl) (hpl : (backTo pos (starEach [e2] X.env)).any (·.1) = false := by rfl) : PI X (.Tuple elts kk tpos) (.Call (.Name "zip" p) [e, e2] [] pos) (iZipG K ta) := by
  subst eK
  refine ⟨fun pins s σ H R I h => ?_⟩
  refine Call_ (ld_blt I hg hm PyProof.Rows.boot_zip (PyProof.Rows.callWith_type1 (thn (ha.run pos pins s σ H _ I h) fun us s1 ⟨vs, H1, I1, r1, q1⟩ => ?_) hs hpl))
  obtain ⟨t, u, a, b, xs, ys, rfl, qx, qy, q⟩ := q1
  cases r1 with
  | cons r rr =>
    cases rr with
    | cons r' rr =>
      cases rr
      cases r
      cases r'
      obtain ⟨it1, v1, p1, lt1⟩ := sqb_heap I1 qx
      obtain ⟨it2, v2, p2, lt2⟩ := sqb_heap I1 qy
      refine zg_call p1 p2 fun h' hz hTI hTO g1 g2 hsz hk => wpAny_pyIter_zip hz ?_
      refine ⟨s1.heap.objs.size + 4, [s1.heap.objs.size + 4, s1.heap.objs.size + 2, s1.heap.objs.size + 3, s1.heap.objs.size, s1.heap.objs.size + 1], _, _, H1, rfl, I1.kept (t' := s1.toks) hk, turnG (PySem.W.ktu_apart s1.heap.objs.size a b lt1 lt2), ⟨hz, hTI, ⟨_, _, hTO⟩, g1, g2⟩, fun c hcm => ?_, q⟩
      have hle : s1.heap.objs.size ≤ c := by
        have e' : c = s1.heap.objs.size + 4 ∨ c = s1.heap.objs.size + 2 ∨ c = s1.heap.objs.size + 3 ∨ c = s1.heap.objs.size ∨ c = s1.heap.objs.size + 1 := by simpa using hcm
        rcases e' with z | z | z | z | z <;> rw [z] <;> omega
      exact I1.fpOk hle (I1.hok.fresh hle)
theorem walkG {K : PySem.W.Frag} {t u : Bool} {a b : Addr} {xs ys : List V} {n : Nat} (hn : n = min xs.length ys.length) : Walk (ItzG K t u a b) n (fun H => SqB K t H a xs ∧ SqB K u H b ys) (YPair (fun i => xs[i]?) (fun i => ys[i]?)) := by
  subst hn
  refine ⟨fun i _ hi q => ⟨xs, ys, xs[i]'(by omega), ys[i]'(by omega), q.1, q.2, List.getElem?_eq_getElem _, List.getElem?_eq_getElem _⟩, fun _ q => ⟨xs, ys, q.1, q.2, by omega⟩, fun i H v H' _ q y => ?_⟩
  obtain ⟨T, x, z, h1, h2, h3, h4, h5⟩ := y
  exact ⟨T, x, z, h1, h2, h3, h4 xs q.1, h5 ys q.2⟩
/-! ### enumerate -/
section
variable {prog : Program} {w : World} {A : Around} {E : Value → Shared → Prop} {s : Shared}
theorem en_item {t : Bool} {e it l : Addr} {i : Nat} {xs : Array Value} {x old : Value} {Q : Value → Shared → Prop} (he : IsEnum s.heap e it i old) (g : It1 t s.heap it l i) (f : Sq1 t s.heap l xs) (hx : xs[i]? = some x) (hne : e ≠ it)
    (hQ : ∀ h', IsEnumOut h' e it ((i : Int) + 1) x s.heap.objs.size → It1 t h' it l (i + 1) → h'.get? s.heap.objs.size = some { cls := .type "tuple", data := .seq #[.int i s.toks, x] } → h'.objs.size = s.heap.objs.size + 1 → (∀ b o, b ≠ e → b ≠ it → s.heap.get? b = some o → h'.get? b = some o) → Q (.ref s.heap.objs.size) { s with heap := h', toks := s.toks + 1 }) :
    wpAny (model prog w) A (Builtin.«enumerate.__next__» ⟨[.ref e], []⟩) (fun fin s' => ∃ v, fin = .done (.ret v) ∧ Q v s') E s := by
  obtain ⟨hp, gl, d, tk, os⟩ := s
  refine (?_ : wpAny _ _ (field (.ref e) 2 >>= _) _ _ _)
  refine wpAny_bind (wpAny_field he rfl (x := .ref it) rfl (wpAny_bind (draw g f hx fun ha ga sa => ?_)))
  replace sa : Heap.SameBut it hp ha := sa
  have ea : IsEnum ha e it i old := (sa.2 e hne).trans he
  refine (?_ : wpAny _ _ (field (.ref e) 3 >>= _) _ _ ⟨ha, gl, d, tk, os⟩)
  refine wpAny_bind (wpAny_field ea rfl (x := rawInt i) rfl (?_ : wpAny _ _ (field (.ref e) 4 >>= _) _ _ ⟨ha, gl, d, tk, os⟩))
  refine wpAny_bind (wpAny_field ea rfl (x := .none) rfl (?_ : wpAny _ _ (mkInt i >>= _) _ _ ⟨ha, gl, d, tk, os⟩))
  refine wpAny_bind (wpAny_mkInt (?_ : wpAny _ _ (setField (.ref e) 3 (rawInt ((i : Int) + 1)) >>= _) _ _ ⟨ha, gl, d, tk + 1, os⟩))
  refine wpAny_bind (wpAny_setField_rec ea (by simp) fun hb eb sb => ?_)
  replace sb : Heap.SameBut e ha hb := sb
  replace eb : IsEnum hb e it ((i : Int) + 1) old := eb
  refine (?_ : wpAny _ _ (setField (.ref e) 4 .none >>= _) _ _ ⟨hb, gl, d, tk + 1, os⟩)
  refine wpAny_bind (wpAny_setField_rec eb (by simp) fun hc ec sc => ?_)
  replace sc : Heap.SameBut e hb hc := sc
  replace ec : IsEnum hc e it ((i : Int) + 1) old := ec
  refine (?_ : wpAny _ _ (newTuple [.int i tk, x] >>= _) _ _ ⟨hc, gl, d, tk + 1, os⟩)
  refine wpAny_bind (wpAny_newTuple ?_)
  have e4 : IsEnum (hc.push { cls := .type "tuple", data := .seq #[.int i tk, x] }) e it ((i : Int) + 1) old := Heap.get?_push_of_some _ ec
  generalize hh4 : hc.push { cls := .type "tuple", data := .seq #[.int i tk, x] } = h4 at e4
  have nz : hc.objs.size = hp.objs.size := by rw [sc.1, sb.1, sa.1]
  have lt : e < hp.objs.size := Heap.lt_size he
  have t4 : h4.get? hp.objs.size = some { cls := .type "tuple", data := .seq #[.int i tk, x] } := by rw [← hh4, ← nz]; exact Heap.get?_push_size _ rfl
  have z4 : h4.objs.size = hp.objs.size + 1 := by rw [← hh4, Heap.size_push, nz]
  have k4 : ∀ b o, b ≠ e → b ≠ it → hp.get? b = some o → h4.get? b = some o := fun b o be bi q => by rw [← hh4]; exact Heap.get?_push_of_some _ (sc.extBut b o be (sb.extBut b o be (sa.extBut b o bi q)))
  have g4 : It1 t h4 it l (i + 1) := by rw [← hh4]; exact ga.keep fun o q => Heap.get?_push_of_some _ (sc.extBut _ o (Ne.symm hne) (sb.extBut _ o (Ne.symm hne) q))
  refine (?_ : wpAny _ _ (Builtin.SmallTypes.ownedTupleIsFree (.ref e) >>= _) _ _ ⟨h4, gl, d, tk + 1, os⟩)
  rw [nz]
  clear hh4 ec sc eb sb ea sa ga nz hc hb ha
  refine wpAny_bind ?_
  unfold Builtin.SmallTypes.ownedTupleIsFree
  refine wpAny_bind (wpAny_field e4 rfl (x := .none) rfl (wpAny_pure ?_))
  simp only [if_true]
  refine wpAny_bind (wpAny_rule (wpAny_bind (wpAny_field e4 rfl (x := old) rfl (wpAny_bind (wpAny_setField_rec e4 (by simp) fun h5 e5 s5 => ?_)))))
  replace s5 : Heap.SameBut e h4 h5 := s5
  replace e5 : IsEnum h5 e it ((i : Int) + 1) x := e5
  refine (?_ : wpAny _ _ (Builtin.SmallTypes.ownedTupleHandOut (.ref e) (.ref hp.objs.size) >>= _) _ _ ⟨h5, gl, d, tk + 1, os⟩)
  refine wpAny_bind ?_
  unfold Builtin.SmallTypes.ownedTupleHandOut
  refine wpAny_bind (wpAny_setField_rec e5 (by simp) fun h6 e6 s6 => ?_)
  replace s6 : Heap.SameBut e h5 h6 := s6
  replace e6 : IsEnumOut h6 e it ((i : Int) + 1) x hp.objs.size := e6
  refine wpAny_setField_rec e6 (by simp) fun h7 e7 s7 => ?_
  replace s7 : Heap.SameBut e h6 h7 := s7
  replace e7 : IsEnumOut h7 e it ((i : Int) + 1) x hp.objs.size := e7
  have up : ∀ b o, b ≠ e → h4.get? b = some o → h7.get? b = some o := fun b o be q => s7.extBut b o be (s6.extBut b o be (s5.extBut b o be q))
  exact wpAny_bind (wpAny_letGo (wpAny_pure ⟨_, rfl, hQ h7 e7 (g4.keep fun o q => up _ o (Ne.symm hne) q) (up _ _ (Nat.ne_of_gt lt) t4) (by rw [s7.1, s6.1, s5.1, z4]) fun b o be bi q => up b o be (k4 b o be bi q)⟩))
theorem en_next {t : Bool} {e it l : Addr} {i : Nat} {xs : Array Value} {x old : Value} {Q : Option Value → Shared → Prop} (he : IsEnum s.heap e it i old) (g : It1 t s.heap it l i) (f : Sq1 t s.heap l xs) (hx : xs[i]? = some x) (hne : e ≠ it)
    (hQ : ∀ h', IsEnumOut h' e it ((i : Int) + 1) x s.heap.objs.size → It1 t h' it l (i + 1) → h'.get? s.heap.objs.size = some { cls := .type "tuple", data := .seq #[.int i s.toks, x] } → h'.objs.size = s.heap.objs.size + 1 → (∀ b o, b ≠ e → b ≠ it → s.heap.get? b = some o → h'.get? b = some o) → Q (some (.ref s.heap.objs.size)) { s with heap := h', toks := s.toks + 1 }) :
    wpAny (model prog w) A (pyNext (.ref e)) Q E s := by
  have T : s.TypeIs (.ref e) "enumerate" := ⟨_, he, rfl⟩
  unfold pyNext
  exact wpAny_bind (wpAny_attempt (wpAny_callSpecial?_slot (name := Str.ofString "__next__") T F.slot_enumerate_next (wpAny_call_entry F.slot_enumerate_next T F.entry_enumerate_next (en_item he g f hx hne fun h' a b c d k => wpAny_pure (hQ h' a b c d k)) (F.args_enumerate_next_1 _))))
theorem en_none {t : Bool} {e it l : Addr} {i : Nat} {xs : Array Value} {old : Value} {Q : Option Value → Shared → Prop} (hh : A.handled = none) (he : IsEnum s.heap e it i old) (g : It1 t s.heap it l i) (f : Sq1 t s.heap l xs) (hx : xs[i]? = none)
    (hQ : ∀ h', Heap.ExtBut it s.heap h' → Q none { s with heap := h' }) : wpAny (model prog w) A (pyNext (.ref e)) Q E s := by
  have T : s.TypeIs (.ref e) "enumerate" := ⟨_, he, rfl⟩
  unfold pyNext
  refine wpAny_bind (wpAny_attempt (wpAny_callSpecial?_slot (name := Str.ofString "__next__") T F.slot_enumerate_next (wpAny_call_entry F.slot_enumerate_next T F.entry_enumerate_next (?_ : wpAny _ _ (field (.ref e) 2 >>= _) _ _ _) (F.args_enumerate_next_1 _))))
  refine wpAny_bind (wpAny_field he rfl (x := .ref it) rfl (wpAny_bind (drawEnd hh g f hx fun h' x he' hx' => ?_)))
  obtain ⟨o, ho, hc⟩ := hx'
  exact wpAny_bind (wpAny_isInstance (T := "StopIteration") (b := true) ⟨o, ho, hc⟩ isSubtype_stop (wpAny_pure (hQ _ he')))
end
theorem en_new (t : Bool) (l : Addr) (xs : Array Value) : Meets (Builtin.«enumerate.__new__» ⟨[.type "enumerate", .ref l], []⟩) (fun _ R s => Sq1 t s.heap l xs ∧
      R (.ok (.ret (.ref (s.heap.push (itOb t l)).objs.size))) { s with heap := (s.heap.push (itOb t l)).push { cls := .type "enumerate", data := .fields #[.none, .bool false, .ref s.heap.objs.size, rawInt 0, .none, .none] } }) :=
  .of_wp fun prog w A R s h => by
    obtain ⟨hp, g, d, tk, os⟩ := s
    obtain ⟨f, h⟩ := h
    have hsub := sub_enumerate
    have f' : Sq1 t (Shared.heap ⟨hp, g, d, tk, os⟩) l xs := f
    have ld : ∃ o : Obj, hp.get? l = some o ∧ (o.cls = .type "list" ∨ o.cls = .type "tuple") := by
      cases t
      · obtain ⟨o, a, b, _⟩ := f
        exact ⟨o, a, .inl b⟩
      · obtain ⟨o, a, b, _⟩ := f
        exact ⟨o, a, .inr b⟩
    obtain ⟨ob, lo, lc⟩ := ld
    wp_walk using AutoSeq1.wpAny_loadPart' lo
    refine wpAny_stack_any fun st => wpAny_pure ?_
    split
    · rename_i c _ _ _ _ _
      cases (c == Value.type "enumerate")
      · wp_walk using AutoSeq1.wpAny_loadPart' lo, iter1 f'
        exact ⟨_, rfl, h⟩
      · wp_walk using AutoSeq1.wpAny_loadPart' lo, iter1 f'
        exact ⟨_, rfl, h⟩
    · wp_walk using AutoSeq1.wpAny_loadPart' lo, iter1 f'
      exact ⟨_, rfl, h⟩
section
variable {prog : Program} {w : World} {A : Around} {E : Value → Shared → Prop} {s : Shared}
theorem en_call {t : Bool} {l : Addr} {xs : Array Value} {Q : Value → Shared → Prop} (f : Sq1 t s.heap l xs)
    (h : ∀ h', IsEnum h' (s.heap.objs.size + 1) s.heap.objs.size 0 .none → It1 t h' s.heap.objs.size l 0 → h'.objs.size = s.heap.objs.size + 2 → (∀ b o, s.heap.get? b = some o → h'.get? b = some o) → Q (.ref (s.heap.objs.size + 1)) { s with heap := h' }) :
    wpAny (model prog w) A (call (.type "enumerate") [.ref l]) Q E s := by
  refine callType_new F.called_enumerate (by decide) (F.typeCall_enumerate_1 _) (F.newCall_enumerate_1 _) (fun obj => F.args_object_init_2 obj _) F.entry_enumerate_new (en_new t l xs) ⟨f, ?_⟩
  have n1 : (s.heap.push (itOb t l)).objs.size = s.heap.objs.size + 1 := Heap.size_push ..
  show _ ∧ _
  rw [n1]
  have m1 : ∀ o : Obj, o.isFreed = false → ((s.heap.push (itOb t l)).push o).get? (s.heap.objs.size + 1) = some o := fun o q => by
    have := Heap.get?_push_size (s.heap.push (itOb t l)) (o := o) q
    rw [n1] at this
    exact this
  have m2 := m1 { cls := .type "enumerate", data := .fields #[.none, .bool false, .ref s.heap.objs.size, rawInt 0, .none, .none] } rfl
  exact ⟨⟨_, m2, rfl⟩, h _ m2 (.new (Heap.get?_push_of_some _ (Heap.get?_push_size _ rfl))) (by rw [Heap.size_push, n1]) fun b o x => Heap.get?_push_of_some _ (Heap.get?_push_of_some _ x)⟩
end
def IteG (K : PySem.W.Frag) (t : Bool) (a : Addr) : It :=
  ⟨fun i H => ∃ (xs : List V) (x : V), SqB K t H a xs ∧ xs[i]? = some x, fun i H v H' => ∃ T x, v = .ref T ∧ H T = none ∧ H' = upd H T (.tup [.int (i : Nat), x]) ∧ ∀ xs, SqB K t H a xs → xs[i]? = some x, fun i H => ∃ xs : List V, SqB K t H a xs ∧ xs.length ≤ i⟩
theorem turnE {P : Program} {w : World} {K : PySem.W.Frag} {elts : List Expr} {kk : Nat} {tpos : Pos} (t : Bool) (a e it : Addr) :
    Turn P w K (.Tuple elts kk tpos) (IteG K t a) [e, it] e (fun i h => (∃ old, IsEnum h e it ((i : Nat) : Int) old) ∧ It1 t h it a i ∧ e ≠ it) where
  mem := by simp
  obj := fun i h st b hb => by
    obtain ⟨⟨old, he⟩, g, _⟩ := st
    obtain ⟨o, ho, hd⟩ := g.ob
    have e' : b = e ∨ b = it := by simpa using hb
    rcases e' with z | z
    · rw [z]; exact ⟨_, he, fun v q => nomatch q⟩
    · rw [z]; exact ⟨o, ho, fun v q => by rw [hd] at q; cases q⟩
  keep := fun i h h' st k => let ⟨⟨old, he⟩, g, hne⟩ := st; ⟨⟨old, k e (by simp) _ he⟩, g.keep fun o q => k it (by simp) o q, hne⟩
  item := by
    intro X hP hw hK hc i pins s σ H E I hf st hg
    subst hP hw hK
    obtain ⟨⟨old, he⟩, g, hne⟩ := st
    obtain ⟨xs, x, hq, hx⟩ := hg
    obtain ⟨its, rv, p, _⟩ := sqb_heap I hq
    obtain ⟨u, hu, ru⟩ := rv.get hx
    have el : e < s.heap.objs.size := Heap.lt_size he
    refine en_next he g p (x := u) (by simpa using hu) hne fun h' ho g' hT hsz hk => ⟨_, rfl, wpAny_letOwnedTupleGo_enum (s := { s with heap := h', toks := s.toks + 1 }) ho fun h'' he' sb => ?_⟩
    have hT2 : h''.get? s.heap.objs.size = some { cls := .type "tuple", data := .seq #[.int i s.toks, u] } := (sb.2 _ (Nat.ne_of_gt el)).trans hT
    have new : ObjOk X.prog X.w (upd H s.heap.objs.size (.tup [.int (i : Nat), x])) h'' s.heap.objs.size (.tup [.int (i : Nat), x]) := ⟨by show 2 ≤ sizeLine; decide, [.int i s.toks, u], .cons ⟨_, rfl⟩ (.cons ru .nil), ⟨_, hT2, rfl, _, rfl⟩⟩
    have I1 : Inv X pins σ (upd H s.heap.objs.size (.tup [.int (i : Nat), x])) { s with heap := h'', toks := s.toks + 1 } := I.turnedNew (ch := [e, it]) (fun b ob hb q => (sb.2 b (fun z => hb (by simp [z]))).trans (hk b ob (fun z => hb (by simp [z])) (fun z => hb (by simp [z])) q)) hf (Nat.le_refl _) new
    have e1 : ((i + 1 : Nat) : Int) = (i : Int) + 1 := by omega
    refine ⟨.ref s.heap.objs.size, _, I1, rfl, ⟨_, x, rfl, I.hok.fresh (Nat.le_refl _), rfl, fun ys hy => by rw [sqb_inj I hy hq]; exact hx⟩, ⟨⟨u, by rw [e1]; exact he'⟩, g'.keep fun o q => (sb.2 it (Ne.symm hne)).trans q, hne⟩, fun b hb => ?_⟩
    have hb' : b < s.heap.objs.size := by
      have e' : b = e ∨ b = it := by simpa using hb
      rcases e' with z | z <;> rw [z]
      · exact el
      · exact g.lt
    rw [upd_ne (Nat.ne_of_lt hb')]
    exact (hf b hb).1
  done := by
    intro X hP hw hK hc i pins s σ H E I hf st hg
    subst hP hw hK
    obtain ⟨⟨old, he⟩, g, hne⟩ := st
    obtain ⟨xs, hq, hx⟩ := hg
    obtain ⟨its, rv, p, _⟩ := sqb_heap I hq
    obtain ⟨f0, f1, f2, f3, f4, f5⟩ := hf it (by simp)
    have hl := rv.length
    exact en_none (I.ok.hd hc) he g p (by simp; omega) fun h' eb => ⟨rfl, I.turned (t' := s.toks) (fun b o hb q => eb b o hb q) f0 f1 f3 f4 f5⟩
  self := fun A i s Q E st h => let ⟨⟨_, he⟩, _⟩ := st; wpAny_pyIter_enum he h
def iEnumG (K : PySem.W.Frag) (ta : TA) : TI := fun σ H R => ta σ H fun vs H1 => ∃ (t : Bool) (a : Addr) (xs : List V), vs = [.ref a] ∧ SqB K t H1 a xs ∧ R (IteG K t a) H1
theorem pi_enumG {X : Cx} {K : PySem.W.Frag} (eK : X.K = K) {e : Expr} {ta : TA} {p pos tpos : Pos} {elts : List Expr} {kk : Nat} (hg : Gl X "enumerate") (hm : X.mg "enumerate" = none) (ha : PA X [e] ta) (hs : starEach [e] X.env = [(false, eval e X.env)] := by rfl) :
    PI X (.Tuple elts kk tpos) (.Call (.Name "enumerate" p) [e] [] pos) (iEnumG K ta) := by
  subst eK
  refine ⟨fun pins s σ H R I h => ?_⟩
  refine Call_ (ld_blt I hg hm boot_enumerate (PyProof.Rows.callWith_type1 (thn (ha.run pos pins s σ H _ I h) fun us s1 ⟨vs, H1, I1, r1, q1⟩ => ?_) hs rfl))
  obtain ⟨t, a, xs, rfl, hq, q⟩ := q1
  cases r1 with
  | cons r rr =>
    cases rr
    cases r
    obtain ⟨its, rv, p', _⟩ := sqb_heap I1 hq
    refine en_call p' fun h' he g hsz hk => wpAny_pyIter_enum he ?_
    refine ⟨s1.heap.objs.size + 1, [s1.heap.objs.size + 1, s1.heap.objs.size], _, _, H1, rfl, I1.kept (t' := s1.toks) hk, turnE t a (s1.heap.objs.size + 1) s1.heap.objs.size, ⟨⟨.none, he⟩, g, Nat.succ_ne_self _⟩, fun b hb => ?_, q⟩
    have hle : s1.heap.objs.size ≤ b := by
      have e' : b = s1.heap.objs.size + 1 ∨ b = s1.heap.objs.size := by simpa using hb
      rcases e' with z | z <;> rw [z] <;> omega
    exact I1.fpOk hle (I1.hok.fresh hle)
theorem walkE {K : PySem.W.Frag} {t : Bool} {a : Addr} {xs : List V} : Walk (IteG K t a) xs.length (fun H => SqB K t H a xs) (YPair (fun i => some (.int (i : Nat))) (fun i => xs[i]?)) := by
  refine ⟨fun i _ hi q => ⟨xs, xs[i], q, List.getElem?_eq_getElem hi⟩, fun _ q => ⟨xs, q, Nat.le_refl _⟩, fun i H v H' _ q y => ?_⟩
  obtain ⟨T, x, h1, h2, h3, h4⟩ := y
  exact ⟨T, .int (i : Nat), x, h1, h2, h3, rfl, h4 xs q⟩
end Zg
/-! comprehensions over two sources -/
namespace Ow
open PySem PySem.Spec PyProof.Rows L2
/-- the inner walk: D grows by ys -/
theorem lc2_in {J1 : L2.It} {n1 : Nat} {G1 : Hp → Prop} {Y1 : Nat → Hp → V → Hp → Prop} (w : Walk J1 n1 G1 Y1) (ys : Nat → V) {a0 : List V} (hb : a0.length + n1 < sizeLine) {g1 : TG} {te : TE} {vs1 : List Nat} {σ : L2.St} {H4 : Hp} {D : Addr} {Nx : Hp → Prop} (e4 : H4 D = some (.lst a0))
    (hG : ∀ H, Gw D H4 H → G1 H)
    (hs : ∀ j x H H' (N : VK), j < n1 → Gw D H4 H → Y1 j H x H' → (∀ H5, Same H H5 → N (ys j) H5) → g1 x (wipe σ vs1) H' fun σ3 H5 => wipe σ3 vs1 = wipe σ vs1 ∧ te σ3 H5 N)
    (hd : ∀ H, Gw D H4 H → H D = some (.lst (a0 ++ (List.range n1).map ys)) → Nx H) :
    ∃ W1 : Nat → Nat → Hp → Prop, (∃ m, W1 0 m H4) ∧ ∀ j k H, W1 j k H →
      (J1.stop j H ∧ Nx H) ∨ (J1.go j H ∧ ∃ Nx1 : Hp → Prop, (∀ H', Nx1 H' → ∃ k', k' < k ∧ W1 (j + 1) k' H') ∧ ∀ x H', J1.yld j H x H' → g1 x (wipe σ vs1) H' fun σ3 H5 => wipe σ3 vs1 = wipe σ vs1 ∧ tYes σ3 H5 fun b H6 =>
        if b = true then te σ3 H6 fun y H7 => ∃ acc, H7 D = some (.lst acc) ∧ acc.length < sizeLine ∧ Nx1 (upd H7 D (.lst (acc ++ [y]))) else Nx1 H6) := by
  refine ⟨fun j m H => m = n1 - j ∧ j ≤ n1 ∧ Gw D H4 H ∧ H D = some (.lst (a0 ++ (List.range j).map ys)), ⟨n1, by simp, Nat.zero_le _, Gw.refl _ _, by simpa using e4⟩, ?_⟩
  rintro j m H ⟨rfl, hj, s, e⟩
  by_cases hlt : j < n1
  · refine .inr ⟨w.goes j H hlt (hG H s), fun H' => Gw D H4 H' ∧ H' D = some (.lst (a0 ++ (List.range (j + 1)).map ys)), fun H' p => ⟨n1 - (j + 1), by omega, rfl, hlt, p.1, p.2⟩, fun x H' y => ?_⟩
    refine hs j x H H' _ hlt s (w.yields j H x H' hlt (hG H s) y) fun H5 s5 => ?_
    refine ⟨_, s5 _ _ e, ?_, (s.trans (Gw.same s5)).trans Gw.put, ?_⟩
    · rw [List.length_append, List.length_map, List.length_range]
      omega
    · rw [upd_same, List.range_succ, List.map_append, List.append_assoc]
      rfl
  · have ej : j = n1 := by omega
    subst ej
    exact .inl ⟨w.stops H (hG H s), hd H s e⟩
/-- the outer walk: with the list ac i at D before turn i -/
theorem lc2_out {J : L2.It} {n : Nat} {G : Hp → Prop} {Y : Nat → Hp → V → Hp → Prop} (w : Walk J n G Y) (ac : Nat → List V) (h0 : ac 0 = []) {g : TG} {wi1 : L2.TI} {g1 : TG} {te : TE} {vs vs1 : List Nat} {σ : L2.St} {H1 : Hp} {D : Addr} {Qd : Hp → Prop} (hD : H1 D = none)
    (hG : ∀ H, Same H1 H → G H)
    (hs : ∀ i x H H', i < n → Same H1 H → H D = some (.lst (ac i)) → Y i H x H' → g x (wipe σ vs) H' fun σ2 H2 => wipe σ2 vs = wipe σ vs ∧
      wi1 σ2 H2 fun J1 H4 => ∃ W1 : Nat → Nat → Hp → Prop, (∃ m, W1 0 m H4) ∧ ∀ j k H, W1 j k H →
        (J1.stop j H ∧ (Same H1 H ∧ H D = some (.lst (ac (i + 1))))) ∨ (J1.go j H ∧ ∃ Nx1 : Hp → Prop, (∀ H', Nx1 H' → ∃ k', k' < k ∧ W1 (j + 1) k' H') ∧ ∀ x H', J1.yld j H x H' → g1 x (wipe σ2 vs1) H' fun σ3 H5 => wipe σ3 vs1 = wipe σ2 vs1 ∧ tYes σ3 H5 fun b H6 =>
          if b = true then te σ3 H6 fun y H7 => ∃ acc, H7 D = some (.lst acc) ∧ acc.length < sizeLine ∧ Nx1 (upd H7 D (.lst (acc ++ [y]))) else Nx1 H6))
    (hd : ∀ H, Same H1 H → H D = some (.lst (ac n)) → Qd H) :
    ∃ W : Nat → Nat → Hp → Prop, (∃ m, W 0 m (upd H1 D (.lst []))) ∧ ∀ i m H, W i m H →
      (J.stop i H ∧ Qd H) ∨ (J.go i H ∧ ∃ Nx : Hp → Prop, (∀ H', Nx H' → ∃ m', m' < m ∧ W (i + 1) m' H') ∧ ∀ x H', J.yld i H x H' → g x (wipe σ vs) H' fun σ2 H2 => wipe σ2 vs = wipe σ vs ∧ tYes σ2 H2 fun b H3 =>
        if b = true then wi1 σ2 H3 fun J1 H4 => ∃ W1 : Nat → Nat → Hp → Prop, (∃ m, W1 0 m H4) ∧ ∀ j k H, W1 j k H →
          (J1.stop j H ∧ Nx H) ∨ (J1.go j H ∧ ∃ Nx1 : Hp → Prop, (∀ H', Nx1 H' → ∃ k', k' < k ∧ W1 (j + 1) k' H') ∧ ∀ x H', J1.yld j H x H' → g1 x (wipe σ2 vs1) H' fun σ3 H5 => wipe σ3 vs1 = wipe σ2 vs1 ∧ tYes σ3 H5 fun b H6 =>
            if b = true then te σ3 H6 fun y H7 => ∃ acc, H7 D = some (.lst acc) ∧ acc.length < sizeLine ∧ Nx1 (upd H7 D (.lst (acc ++ [y]))) else Nx1 H6)
        else Nx H3) := by
  refine ⟨fun i m H => m = n - i ∧ i ≤ n ∧ Same H1 H ∧ H D = some (.lst (ac i)), ⟨n, by simp, Nat.zero_le _, Same.new hD, by rw [h0, upd_same]⟩, ?_⟩
  rintro i m H ⟨rfl, hi, s, e⟩
  by_cases hlt : i < n
  · exact .inr ⟨w.goes i H hlt (hG H s), fun H' => Same H1 H' ∧ H' D = some (.lst (ac (i + 1))), fun H' p => ⟨n - (i + 1), by omega, rfl, hlt, p.1, p.2⟩, fun x H' y => hs i x H H' hlt s e (w.yields i H x H' hlt (hG H s) y)⟩
  · have ei : i = n := by omega
    subst ei
    exact .inl ⟨w.stops H (hG H s), hd H s e⟩
end Ow
/-! tuples: slices and sums, the same object or a new one -/
namespace Ow
open PySem PySem.Spec PyProof.Rows L2
theorem cut_all {xs : List V} {lo hi : Option Int} (h : HT.sIx xs.length 0 lo = 0 ∧ HT.sIx xs.length xs.length hi = xs.length) : cutV xs lo hi = xs := by
  unfold cutV
  rw [h.1, h.2]
  simp
theorem cut_to (xs : List V) (k : Nat) : cutV xs none (some (k : Int)) = xs.take k := by
  unfold cutV
  rw [HT.sIx_none, HT.sIx_nat, List.drop_zero, Nat.sub_zero]
  rcases Nat.le_total k xs.length with h | h
  · rw [Nat.min_eq_left h]
  · rw [Nat.min_eq_right h, List.take_of_length_le (Nat.le_refl _), List.take_of_length_le h]
theorem cut_from (xs : List V) (k : Nat) : cutV xs (some (k : Int)) none = xs.drop k := by
  unfold cutV
  rw [HT.sIx_none, HT.sIx_nat, List.take_of_length_le (by rw [List.length_drop]; exact Nat.le_refl _)]
  rcases Nat.le_total k xs.length with h | h
  · rw [Nat.min_eq_left h]
  · rw [Nat.min_eq_right h, List.drop_of_length_le (Nat.le_refl _), List.drop_of_length_le h]
theorem cut_mid (xs : List V) (j k : Nat) : cutV xs (some (j : Int)) (some (k : Int)) = (xs.drop j).take (k - j) := by
  unfold cutV
  rw [HT.sIx_nat, HT.sIx_nat]
  rcases Nat.le_total j xs.length with h | h
  · rw [Nat.min_eq_left h]
    rcases Nat.le_total k xs.length with h2 | h2
    · rw [Nat.min_eq_left h2]
    · rw [Nat.min_eq_right h2, List.take_of_length_le (by rw [List.length_drop]; omega), List.take_of_length_le (by rw [List.length_drop]; omega)]
  · rw [List.drop_of_length_le (show xs.length ≤ min j xs.length by omega), List.drop_of_length_le h]
    simp
theorem cutA {K : PySem.W.Frag} {H : Hp} {a : Addr} {xs : List V} {lo hi : Option Int} {Q : VK} (h : SqT K H a xs) (q : ∀ p H', Same H H' → SqT K H' p (cutV xs lo hi) → Q (.ref p) H') : rSlA K (.ref a) lo hi H Q := by
  refine ⟨a, xs, rfl, h, fun e => ?_, fun _ p np => ?_⟩
  · exact q a H (Same.refl _) (by rw [cut_all e]; exact h)
  · exact q p _ (Same.new np) (SqT.of upd_same)
theorem catA {K : PySem.W.Frag} {H : Hp} {a b : Addr} {xs ys : List V} {Q : VK} (h : SqT K H a xs) (h2 : SqT K H b ys) (l : xs.length + ys.length ≤ sizeLine) (q : ∀ p H', Same H H' → SqT K H' p (xs ++ ys) → Q (.ref p) H') : rCatA K (.ref a) (.ref b) H Q := by
  refine ⟨a, b, xs, ys, rfl, rfl, h, h2, l, fun e => ?_, fun _ e => ?_, fun _ _ p np => ?_⟩
  · exact q b H (Same.refl _) (by rw [e]; exact h2)
  · exact q a H (Same.refl _) (by rw [e, List.append_nil]; exact h)
  · exact q p _ (Same.new np) (SqT.of upd_same)
end Ow
namespace Ow
open PySem PySem.Spec PyProof.Rows L2
/-- every turn gives a new tuple, of the row i -/
theorem lc_newT {J : L2.It} {n : Nat} {G : Hp → Prop} {Y : Nat → Hp → V → Hp → Prop} (w : Walk J n G Y) (row : Nat → List V) (hn : n < sizeLine) {g : TG} {te : TE} {vs : List Nat} {σ : L2.St} {H1 : Hp} {D : Addr} {Qd : Hp → Prop} (hD : H1 D = none)
    (hG : ∀ H, Same H1 H → G H)
    (hs : ∀ i x H H' (N : VK), i < n → Same H1 H → Y i H x H' → (∀ H4 q, Same H H4 → H4 q = some (.tup (row i)) → N (.ref q) H4) → g x (wipe σ vs) H' fun σ2 H2 => wipe σ2 vs = wipe σ vs ∧ te σ2 H2 N)
    (hd : ∀ (H : Hp) (ts : List Addr), Same H1 H → H D = some (.lst (ts.map V.ref)) → ts.length = n → (∀ i t, ts[i]? = some t → H t = some (.tup (row i))) → Qd H) :
    ∃ W : Nat → Nat → Hp → Prop, (∃ m, W 0 m (upd H1 D (.lst []))) ∧ ∀ i m H, W i m H →
      (J.stop i H ∧ Qd H) ∨ (J.go i H ∧ ∃ Nx : Hp → Prop, (∀ H', Nx H' → ∃ m', m' < m ∧ W (i + 1) m' H') ∧ ∀ x H', J.yld i H x H' → g x (wipe σ vs) H' fun σ2 H2 => wipe σ2 vs = wipe σ vs ∧ tYes σ2 H2 fun b H3 =>
        if b = true then te σ2 H3 fun y H4 => ∃ acc, H4 D = some (.lst acc) ∧ acc.length < sizeLine ∧ Nx (upd H4 D (.lst (acc ++ [y]))) else Nx H3) := by
  refine lc_it w (fun i H => Same H1 H ∧ ∃ ts : List Addr, H D = some (.lst (ts.map V.ref)) ∧ ts.length = i ∧ ∀ j t, ts[j]? = some t → H t = some (.tup (row j))) ⟨Same.new hD, [], upd_same, rfl, fun j t e => by simp at e⟩ (fun i H _ h => hG H h.1) (fun i x H H' hi h y => ?_) fun H h => ?_
  · obtain ⟨s, ts, eD, el, et⟩ := h
    refine hs i x H H' _ hi s y fun H4 q s4 eq => ?_
    have tD : ∀ {t : Addr} {r : List V}, H4 t = some (.tup r) → t ≠ D := fun e z => by rw [z, s4 _ _ eD] at e; cases e
    refine ⟨_, s4 _ _ eD, by rw [List.length_map, el]; exact Nat.lt_trans hi hn, Same.over (s.trans s4) hD, ts ++ [q], ?_, by rw [List.length_append, el]; rfl, fun j t ej => ?_⟩
    · rw [upd_same, List.map_append]
      rfl
    · rcases Nat.lt_trichotomy j ts.length with h1 | h1 | h1
      · rw [List.getElem?_append_left h1] at ej
        have f3 := s4 _ _ (et j t ej)
        rw [upd_ne (tD f3)]
        exact f3
      · subst h1
        have e2 : q = t := by simpa using ej
        subst e2
        rw [upd_ne (tD eq), el]
        exact eq
      · rw [List.getElem?_eq_none (by rw [List.length_append, List.length_singleton]; omega)] at ej
        cases ej
  · obtain ⟨s, ts, eD, el, et⟩ := h
    exact hd H ts s eD el et
end Ow
/-! xs[a:c] = ys -/
namespace Ow
open PySem PySem.Spec PyProof.Rows L2
def gSl (te : TE) (tl th : TO) : TG := fun v σ H Q => te σ H fun x H1 => tl σ H1 fun l H2 => th σ H2 fun u H3 => ∃ p b xs ys, ∃ a c : Int, x = .ref p ∧ v = .ref b ∧ H3 p = some (.lst xs) ∧ H3 b = some (.lst ys) ∧ p ≠ b ∧ l = some a ∧ u = some c ∧ 0 ≤ a ∧ a ≤ c ∧ c ≤ xs.length ∧ xs.length + ys.length ≤ sizeLine ∧ Q σ (upd H3 p (.lst (xs.take a.toNat ++ ys ++ xs.drop c.toNat)))
theorem part_int {u : Value} {i : Int} (h : IsPart u (some i)) : RelV (.int i) u := by
  cases h with
  | int i t => exact ⟨t, rfl⟩
theorem pg_slice {X : Cx} {o : Expr} {lo hi : Option Expr} {p2 pos : Pos} {te : TE} {tl th : TO} (ho : PE X o te) (hl : PO X lo tl) (hu : PO X hi th)
    (ha : ∀ v, assign (.Subscript o (.Slice lo hi none p2) pos) X.env v = (do
      let ov ← holding [v] (eval o X.env)
      let iv ← holding [v, ov] (eval (.Slice lo hi none p2) X.env)
      standAt pos
      holding [v, ov, iv] (setItem ov iv v)
      release [iv, v, ov] []) := by intro _; rfl) : PG X (.Subscript o (.Slice lo hi none p2) pos) (gSl te tl th) := by
  refine ⟨fun pins s σ H v u Q I r h => ?_⟩
  rw [ha]
  refine wpAny_bind (wpAny_holding (thn (ho.run pins s σ H _ I h) fun ov s1 ⟨x, H1, I1, r1, q1⟩ => ?_))
  refine wpAny_bind (wpAny_holding (wpAny_Slice (thn (hl.run pins s1 σ H1 _ I1 q1) fun vl s2 ⟨l, H2, I2, pl, q2⟩ => thn (hu.run pins s2 σ H2 _ I2 q2) fun vu s3 ⟨w, H3, I3, pu, q3⟩ => ?_)))
  rw [evalPart_none]
  refine wpAny_pure ?_
  have I4 : Inv X pins σ H3 { s3 with heap := s3.heap.push { cls := .type "slice", data := .fields #[vl, vu, .none] } } := I3.kept (t' := s3.toks) fun b ob q => Heap.get?_push_of_some _ q
  obtain ⟨p, b, xs, ys, a, c, rfl, rfl, hp, hb, ne, rfl, rfl, h0, h1, h2, hz, q⟩ := q3
  cases r1
  cases r
  refine wpAny_bind (wpAny_standAt (wpAny_bind (wpAny_holding (set_slice I4 hp hb ne (Heap.IsSliceOf.new ..) (part_int pl) (part_int pu) h0 h1 h2 hz fun s' I' => ?_))))
  exact wpAny_release ⟨σ, _, I', q⟩
end Ow
/-! lists of ints by places -/
namespace Po
def gI (xs : List Int) (i : Nat) : Int := xs.getD i 0
def gR (W : List (List Int)) (i : Nat) : List Int := W.getD i []
def minL : List Int → Int
  | [] => 0
  | [x] => x
  | x :: y :: r => if x ≤ minL (y :: r) then x else minL (y :: r)
theorem minL_mem : ∀ {xs : List Int}, xs ≠ [] → minL xs ∈ xs
  | [], h => absurd rfl h
  | [x], _ => List.mem_singleton.mpr rfl
  | x :: y :: r, _ => by
    rw [minL]
    split
    · exact List.mem_cons_self
    · exact List.mem_cons_of_mem _ (minL_mem (by simp))
theorem minL_le : ∀ {xs : List Int} {y : Int}, y ∈ xs → minL xs ≤ y
  | [], y, h => nomatch h
  | [x], y, h => by rw [List.mem_singleton.mp h]; exact Int.le_refl _
  | x :: z :: r, y, h => by
    rw [minL]
    rcases List.mem_cons.mp h with e | m
    · split <;> omega
    · have := minL_le m
      split <;> omega
theorem minL_eq {xs : List Int} {m : Int} (h : m ∈ xs) (l : ∀ y ∈ xs, m ≤ y) : m = minL xs :=
  Int.le_antisymm (l _ (minL_mem (fun e => by rw [e] at h; cases h))) (minL_le h)
def argL (xs : List Int) : Nat := xs.findIdx fun x => decide (x = minL xs)
theorem argL_lt {xs : List Int} (h : xs ≠ []) : argL xs < xs.length :=
  List.findIdx_lt_length_of_exists ⟨_, minL_mem h, by simp⟩
theorem argL_at {xs : List Int} (h : xs ≠ []) : xs[argL xs]? = some (minL xs) := by
  have l := argL_lt h
  rw [List.getElem?_eq_getElem l]
  have e := List.findIdx_getElem (xs := xs) (p := fun x => decide (x = minL xs)) (w := l)
  exact congrArg some (of_decide_eq_true e)
theorem argL_no {xs : List Int} {m : Nat} {z : Int} (h : m < argL xs) (e : xs[m]? = some z) : z ≠ minL xs := by
  have := List.not_of_lt_findIdx h
  obtain ⟨l, e⟩ := List.getElem?_eq_some_iff.mp e
  rw [e] at this
  simpa using this
theorem argL_eq {xs : List Int} {j : Nat} (h : xs[j]? = some (minL xs)) (n : ∀ m z, m < j → xs[m]? = some z → z ≠ minL xs) : argL xs = j := by
  have ne : xs ≠ [] := fun e => by rw [e] at h; simp at h
  rcases Nat.lt_trichotomy (argL xs) j with a | a | a
  · exact absurd rfl (n _ _ a (argL_at ne))
  · exact a
  · exact absurd rfl (argL_no a h)
/-- by places -/
def mk (n : Nat) (f : Nat → Int) : List Int := (List.range n).map f
theorem mk_len (n : Nat) (f : Nat → Int) : (mk n f).length = n := by simp [mk]
theorem mk_at {n : Nat} {f : Nat → Int} {i : Nat} (h : i < n) : (mk n f)[i]? = some (f i) := by simp [mk, h]
theorem gI_at {xs : List Int} {i : Nat} {v : Int} (h : xs[i]? = some v) : gI xs i = v := by unfold gI; rw [List.getD_eq_getElem?_getD, h]; rfl
theorem gI_mk {n : Nat} {f : Nat → Int} {i : Nat} (h : i < n) : gI (mk n f) i = f i := gI_at (mk_at h)
theorem at_gI {xs : List Int} {i : Nat} (h : i < xs.length) : xs[i]? = some (gI xs i) := by
  rw [List.getElem?_eq_getElem h]
  exact congrArg some (gI_at (List.getElem?_eq_getElem h)).symm
theorem gR_at {W : List (List Int)} {i : Nat} {v : List Int} (h : W[i]? = some v) : gR W i = v := by unfold gR; rw [List.getD_eq_getElem?_getD, h]; rfl
theorem at_gR {W : List (List Int)} {i : Nat} (h : i < W.length) : W[i]? = some (gR W i) := by
  rw [List.getElem?_eq_getElem h]
  exact congrArg some (gR_at (List.getElem?_eq_getElem h)).symm
theorem mk_ne {n : Nat} {f : Nat → Int} (h : 0 < n) : mk n f ≠ [] := fun e => by have := mk_len n f; rw [e] at this; simp at this; omega
theorem mk_self (xs : List Int) : mk xs.length (gI xs) = xs := by
  apply List.ext_getElem?
  intro i
  by_cases h : i < xs.length
  · rw [mk_at h, at_gI h]
  · rw [List.getElem?_eq_none (by rw [mk_len]; omega), List.getElem?_eq_none (by omega)]
theorem mem_mk {n : Nat} {f : Nat → Int} {y : Int} : y ∈ mk n f ↔ ∃ i, i < n ∧ y = f i := by
  simp only [mk, List.mem_map, List.mem_range]
  exact ⟨fun ⟨i, a, b⟩ => ⟨i, a, b.symm⟩, fun ⟨i, a, b⟩ => ⟨i, a, b.symm⟩⟩
theorem minmk_le {n : Nat} {f : Nat → Int} {i : Nat} (h : i < n) : minL (mk n f) ≤ f i := minL_le (mem_mk.mpr ⟨i, h, rfl⟩)
theorem minmk_ex {n : Nat} {f : Nat → Int} (h : 0 < n) : ∃ i, i < n ∧ minL (mk n f) = f i := mem_mk.mp (minL_mem (mk_ne h))
theorem argmk {n : Nat} {f : Nat → Int} (h : 0 < n) : argL (mk n f) < n ∧ minL (mk n f) = f (argL (mk n f)) := by
  have l := argL_lt (mk_ne (f := f) h)
  rw [mk_len] at l
  refine ⟨l, ?_⟩
  have a := argL_at (mk_ne (f := f) h)
  rw [mk_at l] at a
  exact (Option.some.inj a).symm
end Po
/-! data: kinds, copies -/
namespace Dd
open PySem PySem.Spec PyProof.Rows L2 Ow Po
theorem pe_gi {X : Cx} {x : Str} {n : Int} {t : Tok} {pos : Pos} (gl : Gl X x) (top : X.mg x = some (.int n t)) (h1 : x ≠ "__name__" := by decide) (h2 : (x == ("__debug__" : Str)) = false := by decide) : PE X (.Name x pos) (tC (.int n)) := pe_glob (v := .int n) gl top ⟨_, rfl⟩ (hd := h2)
def LI (H : Hp) (a : Addr) (xs : List Int) : Prop := H a = some (.lst (xs.map V.int))
theorem LI.same {H H' : Hp} {a : Addr} {xs : List Int} (s : Same H H') (h : LI H a xs) : LI H' a xs := s _ _ h
theorem LI.seq {K : PySem.W.Frag} {H : Hp} {a : Addr} {xs : List Int} (h : LI H a xs) : SqL K H a (xs.map V.int) := SqL.of h
theorem li_at {xs : List Int} {i : Nat} (h : i < xs.length) : (xs.map V.int)[i]? = some (V.int (gI xs i)) := by rw [List.getElem?_map, at_gI h]; rfl
/-- a list of lists of ints, none of which is av -/
structure LL (av : Addr → Prop) (H : Hp) (a : Addr) (xss : List (List Int)) : Prop where
  ex : ∃ ts : List Addr, H a = some (.lst (ts.map V.ref)) ∧ ts.length = xss.length ∧ (∀ (i : Nat) (t : Addr) (xs : List Int), ts[i]? = some t → xss[i]? = some xs → LI H t xs) ∧ ∀ t ∈ ts, ¬ av t
theorem LL.same {av : Addr → Prop} {H H' : Hp} {a : Addr} {xss : List (List Int)} (s : Same H H') (h : LL av H a xss) : LL av H' a xss := by
  obtain ⟨ts, e, l, g, n⟩ := h
  exact ⟨ts, s _ _ e, l, fun i t xs e1 e2 => s _ _ (g i t xs e1 e2), n⟩
/-- the place i -/
theorem LL.at {av : Addr → Prop} {H : Hp} {a : Addr} {xss : List (List Int)} (h : LL av H a xss) {i : Nat} {xs : List Int} (e : xss[i]? = some xs) : ∃ ys t, H a = some (.lst ys) ∧ ys.length = xss.length ∧ ys[i]? = some (.ref t) ∧ LI H t xs ∧ ¬ av t := by
  obtain ⟨ts, f, l, g, n⟩ := h
  have hi := (List.getElem?_eq_some_iff.mp e).1
  have ht : i < ts.length := by rw [l]; exact hi
  refine ⟨_, ts[i], f, by rw [List.length_map, l], by simp [ht], g i _ xs (List.getElem?_eq_getElem ht) e, n _ (List.getElem_mem ht)⟩
def tyD : PyData → String
  | .none => "NoneType"
  | .bool _ => "bool"
  | .int _ => "int"
  | .str _ => "str"
  | .list _ => "list"
  | .tuple _ => "tuple"
  | .dict _ => "dict"
theorem dp_ty {K : PySem.W.Frag} {H : Hp} {v : V} {d : PyData} (h : Dp K H v d) : TyX K H v (.type (tyD d)) := by
  cases h with
  | non => exact .base .non
  | bl b => exact .base (.bl b)
  | int i => exact .base (.int i)
  | str x => exact .base (.str x)
  | lst h _ =>
    rcases h with (h | ⟨o, h⟩) | ⟨o, vs, n, h, c, _⟩
    · exact .base (.lst h)
    · exact .base (.frz h)
    · exact .kList h (by rw [c])
  | tup h _ =>
    rcases h with (h | ⟨o, h⟩) | ⟨o, vs, n, h, c, _⟩
    · exact .base (.tup h)
    · exact .fTuple h
    · exact .kTuple h (by rw [c])
theorem ki_int {K : PySem.W.Frag} : ∀ d : PyData, PySem.W.kitOne K (.type (tyD d)) (.type "int") = some (match d with | .int _ => true | .bool _ => true | _ => false)
  | .none => kit_ty (show kitB "NoneType" "int" = some false by decide +kernel)
  | .bool _ => kit_ty (show kitB "bool" "int" = some true by decide +kernel)
  | .int _ => kit_ty (show kitB "int" "int" = some true by decide +kernel)
  | .str _ => kit_ty (show kitB "str" "int" = some false by decide +kernel)
  | .list _ => kit_ty (show kitB "list" "int" = some false by decide +kernel)
  | .tuple _ => kit_ty (show kitB "tuple" "int" = some false by decide +kernel)
  | .dict _ => kit_ty (show kitB "dict" "int" = some false by decide +kernel)
theorem ki_bool {K : PySem.W.Frag} : ∀ d : PyData, PySem.W.kitOne K (.type (tyD d)) (.type "bool") = some (match d with | .bool _ => true | _ => false)
  | .none => kit_ty (show kitB "NoneType" "bool" = some false by decide +kernel)
  | .bool _ => kit_ty (show kitB "bool" "bool" = some true by decide +kernel)
  | .int _ => kit_ty (show kitB "int" "bool" = some false by decide +kernel)
  | .str _ => kit_ty (show kitB "str" "bool" = some false by decide +kernel)
  | .list _ => kit_ty (show kitB "list" "bool" = some false by decide +kernel)
  | .tuple _ => kit_ty (show kitB "tuple" "bool" = some false by decide +kernel)
  | .dict _ => kit_ty (show kitB "dict" "bool" = some false by decide +kernel)
theorem ki_tup {K : PySem.W.Frag} : ∀ d : PyData, PySem.W.kitOne K (.type (tyD d)) (.type "tuple") = some (match d with | .tuple _ => true | _ => false)
  | .none => kit_ty (show kitB "NoneType" "tuple" = some false by decide +kernel)
  | .bool _ => kit_ty (show kitB "bool" "tuple" = some false by decide +kernel)
  | .int _ => kit_ty (show kitB "int" "tuple" = some false by decide +kernel)
  | .str _ => kit_ty (show kitB "str" "tuple" = some false by decide +kernel)
  | .list _ => kit_ty (show kitB "list" "tuple" = some false by decide +kernel)
  | .tuple _ => kit_ty (show kitB "tuple" "tuple" = some true by decide +kernel)
  | .dict _ => kit_ty (show kitB "dict" "tuple" = some false by decide +kernel)
theorem ki_str {K : PySem.W.Frag} : ∀ d : PyData, PySem.W.kitOne K (.type (tyD d)) (.type "str") = some (match d with | .str _ => true | _ => false)
  | .none => kit_ty (show kitB "NoneType" "str" = some false by decide +kernel)
  | .bool _ => kit_ty (show kitB "bool" "str" = some false by decide +kernel)
  | .int _ => kit_ty (show kitB "int" "str" = some false by decide +kernel)
  | .str _ => kit_ty (show kitB "str" "str" = some true by decide +kernel)
  | .list _ => kit_ty (show kitB "list" "str" = some false by decide +kernel)
  | .tuple _ => kit_ty (show kitB "tuple" "str" = some false by decide +kernel)
  | .dict _ => kit_ty (show kitB "dict" "str" = some false by decide +kernel)
theorem ki_list {K : PySem.W.Frag} : ∀ d : PyData, PySem.W.kitOne K (.type (tyD d)) (.type "list") = some (match d with | .list _ => true | _ => false)
  | .none => kit_ty (show kitB "NoneType" "list" = some false by decide +kernel)
  | .bool _ => kit_ty (show kitB "bool" "list" = some false by decide +kernel)
  | .int _ => kit_ty (show kitB "int" "list" = some false by decide +kernel)
  | .str _ => kit_ty (show kitB "str" "list" = some false by decide +kernel)
  | .list _ => kit_ty (show kitB "list" "list" = some true by decide +kernel)
  | .tuple _ => kit_ty (show kitB "tuple" "list" = some false by decide +kernel)
  | .dict _ => kit_ty (show kitB "dict" "list" = some false by decide +kernel)
theorem dpAll_get {K : PySem.W.Frag} {H : Hp} : ∀ {vs : List V} {ds : List PyData}, DpAll K H vs ds → vs.length = ds.length ∧ ∀ (i : Nat) (v : V), vs[i]? = some v → ∃ d, ds[i]? = some d ∧ Dp K H v d
  | [], [], .nil => ⟨rfl, fun i v e => by simp at e⟩
  | v :: vs, d :: ds, .cons h t => by
    obtain ⟨l, g⟩ := dpAll_get t
    refine ⟨by rw [List.length_cons, List.length_cons, l], fun i u e => ?_⟩
    cases i with
    | zero =>
      cases e
      exact ⟨d, rfl, h⟩
    | succ i => exact g i u e
mutual
theorem dp_same {K : PySem.W.Frag} {H H' : Hp} (s : Same H H') : ∀ {v : V} {d : PyData}, Dp K H v d → Dp K H' v d
  | _, _, .non => .non
  | _, _, .bl b => .bl b
  | _, _, .int i => .int i
  | _, _, .str x => .str x
  | _, _, .lst h a => .lst (s.seq h) (dpAll_same s a)
  | _, _, .tup h a => .tup (sqt_same s h) (dpAll_same s a)
theorem dpAll_same {K : PySem.W.Frag} {H H' : Hp} (s : Same H H') : ∀ {vs : List V} {ds : List PyData}, DpAll K H vs ds → DpAll K H' vs ds
  | _, _, .nil => .nil
  | _, _, .cons h t => .cons (dp_same s h) (dpAll_same s t)
end
theorem intsD {K : PySem.W.Frag} {H : Hp} : ∀ s : List Int, DpAll K H (s.map V.int) (s.map PyData.int)
  | [] => .nil
  | x :: s => .cons (.int x) (intsD s)
theorem dpAll_of {K : PySem.W.Frag} {H : Hp} : ∀ {vs : List V} {ds : List PyData}, vs.length = ds.length → (∀ (i : Nat) (v : V) (d : PyData), vs[i]? = some v → ds[i]? = some d → Dp K H v d) → DpAll K H vs ds
  | [], [], _, _ => .nil
  | [], _ :: _, l, _ => by cases l
  | _ :: _, [], l, _ => by cases l
  | v :: vs, d :: ds, l, h => .cons (h 0 v d rfl rfl) (dpAll_of (Nat.succ.inj l) fun i u e a b => h (i + 1) u e a b)
theorem dp_tup {K : PySem.W.Frag} {H : Hp} {v : V} {xs : List PyData} (h : Dp K H v (.tuple xs)) : ∃ a vs, v = .ref a ∧ SqT K H a vs ∧ DpAll K H vs xs := by
  cases h with
  | tup h a => exact ⟨_, _, rfl, h, a⟩
theorem dp_lst {K : PySem.W.Frag} {H : Hp} {v : V} {xs : List PyData} (h : Dp K H v (.list xs)) : ∃ a vs, v = .ref a ∧ SqL K H a vs ∧ DpAll K H vs xs := by
  cases h with
  | lst h a => exact ⟨_, _, rfl, h, a⟩
theorem xiJ {x : V} {i : Nat} (h : x = V.int (0 + (i : Int))) : x = V.int (i : Nat) := by rw [h, Int.zero_add]
theorem neV (x y : Int) : (!decide (V.int x = V.int y)) = decide (x ≠ y) := by
  by_cases z : x = y <;> simp [z]
theorem eqV0 (x y : Int) : decide (V.int x = V.int y) = decide (x = y) := by
  by_cases z : x = y <;> simp [z]
theorem modNat {n : Nat} (x : Int) (h : 0 < n) : ∃ k : Nat, k < n ∧ x % (n : Int) = (k : Int) := by
  have a := Int.emod_nonneg x (show (n : Int) ≠ 0 by omega)
  have b := Int.emod_lt_of_pos x (show (0 : Int) < (n : Int) by omega)
  exact ⟨(x % (n : Int)).toNat, by omega, by omega⟩
end Dd
namespace K1
open PySem PySem.Spec PyProof.Rows L2 Ow Po Dd
def topS (i : Nat) : Stmt := PySem.Challenge.pw_turnshelves_k31_blocks.main.body.getD i (.Pass ⟨0, 0, 0, 0⟩)
structure Bl (mg : Str → Option Value) : Prop where
  range : mg "range" = none
  len : mg "len" = none
  int : mg "int" = none
  list : mg "list" = none
  isinstance : mg "isinstance" = none
  tuple : mg "tuple" = none
  bool : mg "bool" = none
  str : mg "str" = none
  any : mg "any" = none
  reversed : mg "reversed" = none
end K1
namespace K1
open PySem PySem.Spec PyProof.Rows L2 Ow Po Dd
abbrev s_law_next : Stmt := topS 20
abbrev N_law_next : List Str := ["state", "limit", "cell", "value"]
theorem sc_law_next : FnScope N_law_next ["state", "limit"] (defScope s_law_next) := ⟨rfl, rfl, rfl, by decide +kernel, rfl, by decide +kernel, by decide +kernel⟩
abbrev s_law_same : Stmt := topS 21
abbrev N_law_same : List Str := ["actual", "expected", "k"]
theorem sc_law_same : FnScope N_law_same ["actual", "expected"] (defScope s_law_same) := ⟨rfl, rfl, rfl, by decide +kernel, rfl, by decide +kernel, by decide +kernel⟩
/-- the state that draws -/
def St (H : Hp) (a : Addr) : Prop := ∃ (sc : Addr) (ns : List Int) (pos : Nat) (c seed : Int), H a = some (.lst [.ref sc, .int (pos : Nat), .int c, .int seed]) ∧ H sc = some (.lst (ns.map V.int)) ∧ sc ≠ a ∧ ns.length ≤ 63 ∧ 0 ≤ c ∧ 0 ≤ seed ∧ seed < 2147483647
theorem St.same {H H' : Hp} {a : Addr} (s : Same H H') (h : St H a) : St H' a := by
  obtain ⟨sc, ns, pos, c, seed, e, e2, r⟩ := h
  exact ⟨sc, ns, pos, c, seed, s _ _ e, s _ _ e2, r⟩
def spNext : Sp := fun vs H Q _ => ∃ (a : Addr) (l : Int), vs = [.ref a, .int l] ∧ St H a ∧ 0 < l ∧ l ≤ 1152921504606846976 ∧ ∀ H' r, St H' a → Gw a H H' → 0 ≤ r → r < l → Q (.int r) H'
def okD : Nat → PyData → Bool
  | _, .none => true
  | _, .bool _ => true
  | _, .int _ => true
  | _, .str _ => true
  | 0, _ => false
  | n + 1, .list xs => decide (xs.length ≤ 10000) && xs.all (okD n)
  | n + 1, .tuple xs => decide (xs.length ≤ 10000) && xs.all (okD n)
  | _, .dict _ => false
def spSame (K : PySem.W.Frag) (n : Nat) : Sp := fun vs H Q _ => ∃ (x y : V) (d : PyData), vs = [x, y] ∧ Dp K H x d ∧ Dp K H y d ∧ okD n d = true ∧ ∀ H', Same H H' → Q (.bl true) H'
section
variable {P : Program} {w : World} {K : PySem.W.Frag} {mg : Str → Option Value} {base : Heap}
theorem ok_next {f : Addr} {fd : FuncData} (F : Fun K "_law_next" "_law_next" s_law_next f fd) (T0 : Bl mg) :
    FnOk P w K mg base CX0 1 f fd ["state", "limit"] spNext := by
  refine F.ok sc_law_next (fun vs H Q E h => ?_) (fun cdv A outer s H vs Q E hr h => ?_)
  · obtain ⟨a, l, rfl, _⟩ := h
    rfl
  · obtain ⟨a, l, rfl, ⟨sc, ns, pos, c, seed, e, e2, ne, hl, hc, h0, h1⟩, l0, l1, q⟩ := h
    refine ⟨_, (pss_mid (ps_if (PW.pt (pw_and (pt_cmpR op_eq (pe_ix ix_list (pv 0) pe_int (fun _ _ => rfl)) pe_int (nomark _)) (pw_and1 (pt_cmpR op_lt (pe_ix ix_list (pv 0) pe_int (fun _ _ => rfl)) (pe_callB call_len_seq (by rfl) T0.len PySem.boot_len (pa_cons (pe_ix ix_list (pv 0) pe_int (fun _ _ => rfl)) pa_nil)) (nomark _))))) (pss_cons (ps_set (i := 2) sc_law_next.nd rfl (.inl rfl) (pe_ix ix_list (pe_ix ix_list (pv 0) pe_int (fun _ _ => rfl)) (pe_ix ix_list (pv 0) pe_int (fun _ _ => rfl)) (fun _ _ => rfl)))
      (pss_cons (ps_augS (pv 0) pe_int pget_list pe_int ip_add set_list)
      (pss_one (ps_if (pt_cmpR op_ge (pv 2) (pe_op op_pow pe_int pe_int) (nomark _)) (pss_one (ps_asg (pv 2) (pg_sub (pv 0) pe_int set_list))) (pss_one (ps_asg (pe_op op_mod (pe_callTy call_int1 (by rfl) T0.int (by decide +kernel) (pa_cons (pe_op op_add (pe_op op_add (pe_op op_mul (pe_ix ix_list (pv 0) pe_int (fun _ _ => rfl)) pe_int) (pe_op op_mod (pe_callTy call_int1 (by rfl) T0.int (by decide +kernel) (pa_cons (pv 2) pa_nil)) pe_int)) pe_int) pa_nil)) pe_int) (pg_sub (pv 0) pe_int set_list))))))) pss_nil)
      (pss_cons (ps_if (pt_cmpR op_gt (pe_ix ix_list (pv 0) pe_int (fun _ _ => rfl)) pe_int (nomark _)) (pss_cons (ps_set (i := 3) sc_law_next.nd rfl (.inl rfl) (pe_op op_mod (pe_callTy call_int1 (by rfl) T0.int (by decide +kernel) (pa_cons (pe_ix ix_list (pv 0) pe_int (fun _ _ => rfl)) pa_nil)) (pv 1)))
      (pss_cons (ps_asg (pe_op op_fdivW (pe_ix ix_list (pv 0) pe_int (fun _ _ => rfl)) (pv 1)) (pg_sub (pv 0) pe_int set_list))
      (pss_one (ps_ret (pv 3))))) pss_nil)
      (pss_cons (ps_asg (pe_op op_mod (pe_callTy call_int1 (by rfl) T0.int (by decide +kernel) (pa_cons (pe_op op_add (pe_op op_mul (pe_ix ix_list (pv 0) pe_int (fun _ _ => rfl)) pe_int) pe_int) pa_nil)) pe_int) (pg_sub (pv 0) pe_int set_list))
      (pss_one (ps_ret (pe_op op_mod (pe_callTy call_int1 (by rfl) T0.int (by decide +kernel) (pa_cons (pe_op op_fdiv (pe_ix ix_list (pv 0) pe_int (fun _ _ => rfl)) pe_int) pa_nil)) (pv 1))))))), ?_⟩
    refine ⟨fun σ' H' => ∃ v2, σ' = [some (.ref a), some (.int l), v2, none] ∧ St H' a ∧ Gw a H H', ?_, ?_⟩
    · refine ⟨_, rfl, a, _, 2, .int c, rfl, rfl, SqL.of e, rfl, rfl, _, rfl, ite2 (fun _ => ?_) (fun _ => iteF ⟨none, rfl, ⟨sc, ns, pos, c, seed, e, e2, ne, hl, hc, h0, h1⟩, Gw.refl _ _⟩)⟩
      refine ⟨_, rfl, a, _, 1, .int (pos : Nat), rfl, rfl, SqL.of e, rfl, _, rfl, a, _, 0, .ref sc, rfl, rfl, SqL.of e, rfl, sc, _, rfl, .inl (SqL.of e2), _, _, rfl, rfl, _, rfl, ?_⟩
      refine ite2 (fun z => ?_) (fun _ => ⟨none, rfl, ⟨sc, ns, pos, c, seed, e, e2, ne, hl, hc, h0, h1⟩, Gw.refl _ _⟩)
      have z : ((pos : Nat) : Int) < ((ns.map V.int).length : Nat) := of_decide_eq_true z
      have hp : pos < ns.length := by rw [List.length_map] at z; omega
      refine ⟨_, rfl, a, _, 0, .ref sc, rfl, rfl, SqL.of e, rfl, _, rfl, a, _, 1, .int (pos : Nat), rfl, rfl, SqL.of e, rfl, sc, _, _, _, rfl, rfl, SqL.of e2, atI_nat (li_at hp), ?_⟩
      refine ⟨_, rfl, a, _, 1, .int (pos : Nat), rfl, rfl, SqL.of e, rfl, _, _, rfl, rfl, a, _, 1, 1, rfl, rfl, e, rfl, ?_⟩
      have e3 : (upd H a (.lst [.ref sc, .int ((pos + 1 : Nat) : Int), .int c, .int seed])) a = some (.lst [.ref sc, .int ((pos + 1 : Nat) : Int), .int c, .int seed]) := upd_same
      have e4 : (upd H a (.lst [.ref sc, .int ((pos + 1 : Nat) : Int), .int c, .int seed])) sc = some (.lst (ns.map V.int)) := by rw [upd_ne ne]; exact e2
      have g1 : Gw a H (upd H a (.lst [.ref sc, .int ((pos + 1 : Nat) : Int), .int c, .int seed])) := Gw.put
      refine ⟨_, rfl, _, _, rfl, rfl, ⟨by decide, by decide, by decide⟩, _, _, rfl, rfl, _, rfl, ?_⟩
      refine ite2 (fun y => ?_) (fun _ => ?_)
      · have y : (10 : Int) ^ (18 : Int).toNat ≤ gI ns pos := of_decide_eq_true y
        have y : (1000000000000000000 : Int) ≤ gI ns pos := y
        refine ⟨_, rfl, _, rfl, a, _, 2, 2, rfl, rfl, e3, rfl, ?_⟩
        refine ⟨_, rfl, ⟨sc, ns, pos + 1, gI ns pos, seed, upd_same, by rw [upd_ne ne]; exact e4, ne, hl, by omega, h0, h1⟩, g1.trans Gw.put⟩
      · refine ⟨_, rfl, a, _, 3, .int seed, rfl, rfl, SqL.of e3, rfl, _, 48271, rfl, rfl, .inr ⟨by decide, by decide⟩, _, rfl, .inl ⟨_, rfl, _, _, rfl, rfl, (by show (0 : Int) < 2147483647; decide), _, _, rfl, rfl, _, _, rfl, rfl, .inl ⟨_, rfl, _, _, rfl, rfl, (by show (0 : Int) < 2147483647; decide), _, rfl, a, _, 3, 3, rfl, rfl, e3, rfl, ?_⟩⟩⟩
        refine ⟨_, rfl, ⟨sc, ns, pos + 1, c, _, upd_same, by rw [upd_ne ne]; exact e4, ne, hl, hc, Int.emod_nonneg _ (by decide), Int.emod_lt_of_pos _ (by decide)⟩, g1.trans Gw.put⟩
    · rintro σ' H1 ⟨v2, rfl, ⟨sc, ns, pos, c, seed, e, e2, ne, hl, hc, h0, h1⟩, g⟩
      refine ⟨_, rfl, a, _, 2, .int c, rfl, rfl, SqL.of e, rfl, _, _, rfl, rfl, _, rfl, ?_⟩
      refine ite2 (fun _ => ?_) (fun _ => ?_)
      · refine ⟨_, rfl, a, _, 2, .int c, rfl, rfl, SqL.of e, rfl, .inl ⟨_, rfl, _, rfl, _, _, rfl, rfl, l0, ?_⟩⟩
        refine ⟨_, rfl, a, _, 2, .int c, rfl, rfl, SqL.of e, rfl, _, rfl, _, _, rfl, rfl, wide_div l0 (b := 64) (by omega) (by decide) (by decide), _, rfl, a, _, 2, 2, rfl, rfl, e, rfl, ?_⟩
        refine ⟨_, rfl, ?_⟩
        exact q _ _ ⟨sc, ns, pos, c / l, seed, upd_same, by rw [upd_ne ne]; exact e2, ne, hl, Int.ediv_nonneg hc (by omega), h0, h1⟩ (g.trans Gw.put) (Int.emod_nonneg _ (by omega)) (Int.emod_lt_of_pos _ l0)
      · refine ⟨_, rfl, a, _, 3, .int seed, rfl, rfl, SqL.of e, rfl, _, 69621, rfl, rfl, .inr ⟨by decide, by decide⟩, _, _, rfl, rfl, .inl ⟨_, rfl, _, _, rfl, rfl, (by show (0 : Int) < 2147483647; decide), _, rfl, a, _, 3, 3, rfl, rfl, e, rfl, ?_⟩⟩
        refine ⟨_, rfl, a, _, 3, _, rfl, rfl, SqL.of upd_same, rfl, _, _, rfl, rfl, ⟨by decide, by decide⟩, .inl ⟨_, rfl, _, rfl, _, _, rfl, rfl, l0, ?_⟩⟩
        exact q _ _ ⟨sc, ns, pos, c, _, upd_same, by rw [upd_ne ne]; exact e2, ne, hl, hc, Int.emod_nonneg _ (by decide), Int.emod_lt_of_pos _ (by decide)⟩ (g.trans Gw.put) (Int.emod_nonneg _ (by omega)) (Int.emod_lt_of_pos _ l0)
theorem okD_kids {n : Nat} {xs : List PyData} (h : (decide (xs.length ≤ 10000) && xs.all (okD n)) = true) : xs.length ≤ 10000 ∧ ∀ d ∈ xs, okD n d = true := by
  rw [Bool.and_eq_true, decide_eq_true_iff, List.all_eq_true] at h
  exact h
theorem kn1 {f : Addr} {fd : FuncData} {x qual : Str} {st : Stmt} {ps : List Str} {sp : Sp} {k : Nat} (F : Fun K x qual st f fd) (g : mg x = some (.ref f)) (b : Binds K fd ps []) (ok : FnOk P w K mg base CX0 k f fd ps sp) : Kn P w K mg base k x ps sp := ⟨⟨f, fd, ok, g, F.kp, b⟩⟩
def spRec (K : PySem.W.Frag) : Nat → Sp
  | 0 => fun _ _ _ _ => False
  | n + 1 => spSame K n
theorem nonF {v : V} (h : v ≠ .non) : decide (v = V.non) = false := decide_eq_false h
/-- the walk over the items -/
theorem ok_same1 {f : Addr} {fd : FuncData} (F : Fun K "_law_same" "_law_same" s_law_same f fd) (T0 : Bl mg) (n : Nat) (rec : Kn P w K mg base n "_law_same" ["actual", "expected"] (spRec K n)) :
    FnOk P w K mg base CX0 (n + 1) f fd ["actual", "expected"] (spSame K n) := by
  refine F.ok sc_law_same (fun vs H Q E h => ?_) (fun cdv A outer s H vs Q E hr h => ?_)
  · obtain ⟨x, y, d, rfl, _⟩ := h
    rfl
  · obtain ⟨x, y, d, rfl, hx, hy, ok, q⟩ := h
    refine ⟨_, (pss_cons (ps_if (pt_cmpR op_isN (pv 1) pe_non (nomark _)) (pss_one (ps_ret (pe_cmpR op_isN (pv 0) pe_non (nomark _)))) pss_nil)
      (pss_cons (ps_if (pt_val (pe_callB call_isi (by rfl) T0.isinstance (by decide +kernel) (pa_cons (pv 1) (pa_cons (pe_ty "bool" (by rfl) T0.bool (by decide +kernel)) pa_nil)))) (pss_one (ps_ret (pe_and (pe_callB call_isi (by rfl) T0.isinstance (by decide +kernel) (pa_cons (pv 0) (pa_cons (pe_ty "bool" (by rfl) T0.bool (by decide +kernel)) pa_nil))) (pe_one (pe_cmpR op_eq (pv 0) (pv 1) (nomark _)))))) pss_nil)
      (pss_cons (ps_if (pt_val (pe_callB call_isi (by rfl) T0.isinstance (by decide +kernel) (pa_cons (pv 1) (pa_cons (pe_ty "int" (by rfl) T0.int (by decide +kernel)) pa_nil)))) (pss_one (ps_ret (pe_and (pe_callB call_isi (by rfl) T0.isinstance (by decide +kernel) (pa_cons (pv 0) (pa_cons (pe_ty "int" (by rfl) T0.int (by decide +kernel)) pa_nil))) (pe_and (pe_not (pe_callB call_isi (by rfl) T0.isinstance (by decide +kernel) (pa_cons (pv 0) (pa_cons (pe_ty "bool" (by rfl) T0.bool (by decide +kernel)) pa_nil)))) (pe_one (pe_cmpR op_eq (pv 0) (pv 1) (nomark _))))))) pss_nil)
      (pss_cons (ps_if (pt_val (pe_callB call_isi (by rfl) T0.isinstance (by decide +kernel) (pa_cons (pv 1) (pa_cons (pe_ty "str" (by rfl) T0.str (by decide +kernel)) pa_nil)))) (pss_one (ps_ret (pe_and (pe_callB call_isi (by rfl) T0.isinstance (by decide +kernel) (pa_cons (pv 0) (pa_cons (pe_ty "str" (by rfl) T0.str (by decide +kernel)) pa_nil))) (pe_one (pe_cmpR op_eq (pv 0) (pv 1) (nomark _)))))) pss_nil)
      (pss_cons (ps_if (PW.pt (pw_and (pt_val (pe_callB call_isi (by rfl) T0.isinstance (by decide +kernel) (pa_cons (pv 1) (pa_cons (pe_ty "tuple" (by rfl) T0.tuple (by decide +kernel)) pa_nil)))) (pw_and1 (pt_not (pt_val (pe_callB call_isi (by rfl) T0.isinstance (by decide +kernel) (pa_cons (pv 0) (pa_cons (pe_ty "tuple" (by rfl) T0.tuple (by decide +kernel)) pa_nil)))))))) (pss_one (ps_ret pe_bl)) pss_nil)
      (pss_cons (ps_if (PW.pt (pw_and (pt_val (pe_callB call_isi (by rfl) T0.isinstance (by decide +kernel) (pa_cons (pv 1) (pa_cons (pe_ty "list" (by rfl) T0.list (by decide +kernel)) pa_nil)))) (pw_and1 (pt_not (pt_val (pe_callB call_isi (by rfl) T0.isinstance (by decide +kernel) (pa_cons (pv 0) (pa_cons (pe_ty "list" (by rfl) T0.list (by decide +kernel)) pa_nil)))))))) (pss_one (ps_ret pe_bl)) pss_nil)
      (pss_cons (ps_if (pt_cmpR op_ne (pe_callB call_len_seq (by rfl) T0.len PySem.boot_len (pa_cons (pv 0) pa_nil)) (pe_callB call_len_seq (by rfl) T0.len PySem.boot_len (pa_cons (pv 1) pa_nil)) (nomark _)) (pss_one (ps_ret pe_bl)) pss_nil)
      (pss_cons (ps_for PassesOwn.never rfl (pi_range1 (by rfl) T0.range (pa_cons (pe_callB call_len_seq (by rfl) T0.len PySem.boot_len (pa_cons (pv 1) pa_nil)) pa_nil)) (pg_name (i := 2) sc_law_same.nd rfl (.inl rfl)) (pss_one (ps_if (pt_not (pt_val (pe_kn (hk := Nat.le_refl _) rec hr (pa_cons (pe_ix ix_seq (pv 0) (pv 2) (fun _ _ => rfl)) (pa_cons (pe_ix ix_seq (pv 1) (pv 2) (fun _ _ => rfl)) pa_nil))))) (pss_one (ps_ret pe_bl)) pss_nil)))
      (pss_one (ps_ret pe_bl)))))))))), ?_⟩
    cases d with
    | none =>
      cases hx
      cases hy
      refine ⟨_, rfl, rfl, _, rfl, ?_⟩
      rw [show decide (V.non = V.non) = true from rfl]
      refine iteT ⟨_, rfl, rfl, ?_⟩
      rw [show decide (V.non = V.non) = true from rfl]
      exact q _ (Same.refl _)
    | bool b =>
      cases hx
      cases hy
      refine ⟨_, rfl, rfl, _, rfl, ?_⟩
      rw [nonF (by intro z; cases z)]
      refine iteF ?_
      refine ⟨_, rfl, _, _, .type "bool", .type "bool", _, rfl, .ty _, dp_ty (.bl b), ki_bool (.bool b), ?_⟩
      refine ⟨_, rfl, iteT ?_⟩
      refine ⟨_, rfl, _, _, .type "bool", .type "bool", _, rfl, .ty _, dp_ty (.bl b), ki_bool (.bool b), ?_⟩
      refine ⟨_, rfl, iteT ?_⟩
      refine ⟨_, rfl, _, rfl, rfl, ?_⟩
      rw [show decide (V.bl b = V.bl b) = true from decide_eq_true rfl]
      exact q _ (Same.refl _)
    | int i =>
      cases hx
      cases hy
      refine ⟨_, rfl, rfl, _, rfl, ?_⟩
      rw [nonF (by intro z; cases z)]
      refine iteF ?_
      refine ⟨_, rfl, _, _, .type "int", .type "bool", _, rfl, .ty _, dp_ty (.int i), ki_bool (.int i), ?_⟩
      refine ⟨_, rfl, iteF ?_⟩
      refine ⟨_, rfl, _, _, .type "int", .type "int", _, rfl, .ty _, dp_ty (.int i), ki_int (.int i), ?_⟩
      refine ⟨_, rfl, iteT ?_⟩
      refine ⟨_, rfl, _, _, .type "int", .type "int", _, rfl, .ty _, dp_ty (.int i), ki_int (.int i), ?_⟩
      refine ⟨_, rfl, iteT ?_⟩
      refine ⟨_, rfl, _, _, .type "int", .type "bool", _, rfl, .ty _, dp_ty (.int i), ki_bool (.int i), ?_⟩
      refine ⟨_, rfl, _, rfl, iteT ?_⟩
      refine ⟨_, rfl, _, rfl, rfl, ?_⟩
      rw [show decide (V.int i = V.int i) = true from decide_eq_true rfl]
      exact q _ (Same.refl _)
    | str z =>
      cases hx
      cases hy
      refine ⟨_, rfl, rfl, _, rfl, ?_⟩
      rw [nonF (by intro z; cases z)]
      refine iteF ?_
      refine ⟨_, rfl, _, _, .type "str", .type "bool", _, rfl, .ty _, dp_ty (.str z), ki_bool (.str z), ?_⟩
      refine ⟨_, rfl, iteF ?_⟩
      refine ⟨_, rfl, _, _, .type "str", .type "int", _, rfl, .ty _, dp_ty (.str z), ki_int (.str z), ?_⟩
      refine ⟨_, rfl, iteF ?_⟩
      refine ⟨_, rfl, _, _, .type "str", .type "str", _, rfl, .ty _, dp_ty (.str z), ki_str (.str z), ?_⟩
      refine ⟨_, rfl, iteT ?_⟩
      refine ⟨_, rfl, _, _, .type "str", .type "str", _, rfl, .ty _, dp_ty (.str z), ki_str (.str z), ?_⟩
      refine ⟨_, rfl, iteT ?_⟩
      refine ⟨_, rfl, _, rfl, rfl, ?_⟩
      rw [show decide (V.str z = V.str z) = true from decide_eq_true rfl]
      exact q _ (Same.refl _)
    | dict z => cases hx
    | list ds =>
      obtain ⟨px, xs, rfl, sx, ax⟩ := dp_lst hx
      obtain ⟨py, ys, rfl, sy, ay⟩ := dp_lst hy
      cases n with
      | zero => cases ok
      | succ m =>
      obtain ⟨lk, ok⟩ := okD_kids ok
      obtain ⟨lx, gx⟩ := dpAll_get ax
      obtain ⟨ly, gy⟩ := dpAll_get ay
      refine ⟨_, rfl, rfl, _, rfl, ?_⟩
      rw [nonF (by intro z; cases z)]
      refine iteF ?_
      refine ⟨_, rfl, _, _, .type "list", .type "bool", _, rfl, .ty _, dp_ty hy, ki_bool (.list ds), ?_⟩
      refine ⟨_, rfl, iteF ?_⟩
      refine ⟨_, rfl, _, _, .type "list", .type "int", _, rfl, .ty _, dp_ty hy, ki_int (.list ds), ?_⟩
      refine ⟨_, rfl, iteF ?_⟩
      refine ⟨_, rfl, _, _, .type "list", .type "str", _, rfl, .ty _, dp_ty hy, ki_str (.list ds), ?_⟩
      refine ⟨_, rfl, iteF ?_⟩
      refine ⟨_, rfl, _, _, .type "list", .type "tuple", _, rfl, .ty _, dp_ty hy, ki_tup (.list ds), ?_⟩
      refine ⟨_, rfl, iteF (iteF ?_)⟩
      refine ⟨_, rfl, _, _, .type "list", .type "list", _, rfl, .ty _, dp_ty hy, ki_list (.list ds), ?_⟩
      refine ⟨_, rfl, iteT ?_⟩
      refine ⟨_, rfl, _, _, .type "list", .type "list", _, rfl, .ty _, dp_ty hx, ki_list (.list ds), ?_⟩
      refine ⟨_, rfl, iteF ?_⟩
      refine ⟨_, rfl, px, xs, rfl, .inl sx, _, rfl, py, ys, rfl, .inl sy, rfl, _, rfl, ?_⟩
      rw [lx, ly]
      rw [show (!decide (V.int (ds.length : Nat) = V.int (ds.length : Nat))) = false by rw [decide_eq_true rfl]; rfl]
      refine iteF ?_
      refine ⟨_, rfl, py, ys, rfl, .inl sy, _, rfl, ?_⟩
      rw [ly]
      refine ⟨by omega, by omega, ?_⟩
      refine for_range (lo := 0) (n := ds.length) (fun k σ H' => ∃ v2, σ = [some (.ref px), some (.ref py), v2] ∧ Same H H') ⟨none, rfl, Same.refl _⟩ ?_ ?_
      · rintro k σ H1 hk ⟨v2, rfl, s1⟩
        show gName 2 (V.int (0 + (k : Int))) _ _ _
        rw [Int.zero_add]
        have hkx : k < xs.length := by rw [lx]; exact hk
        have hky : k < ys.length := by rw [ly]; exact hk
        obtain ⟨dx, e1, d1⟩ := gx k _ (List.getElem?_eq_getElem hkx)
        obtain ⟨dy, e2, d2⟩ := gy k _ (List.getElem?_eq_getElem hky)
        rw [e1] at e2
        cases e2
        refine ⟨_, rfl, _, rfl, .inl ⟨px, _, _, _, rfl, rfl, Same.seq s1 sx, atI_nat (List.getElem?_eq_getElem hkx), _, rfl, _, rfl, .inl ⟨py, _, _, _, rfl, rfl, Same.seq s1 sy, atI_nat (List.getElem?_eq_getElem hky), _, _, dx, rfl, dp_same s1 d1, dp_same s1 d2, ok dx (List.mem_of_getElem? e1), fun H2 s2 => ?_⟩⟩⟩
        refine ⟨_, rfl, iteF ?_⟩
        exact ⟨_, rfl, s1.trans s2⟩
      · rintro σ H1 ⟨v2, rfl, s1⟩
        exact q _ s1
    | tuple ds =>
      obtain ⟨px, xs, rfl, sx, ax⟩ := dp_tup hx
      obtain ⟨py, ys, rfl, sy, ay⟩ := dp_tup hy
      cases n with
      | zero => cases ok
      | succ m =>
      obtain ⟨lk, ok⟩ := okD_kids ok
      obtain ⟨lx, gx⟩ := dpAll_get ax
      obtain ⟨ly, gy⟩ := dpAll_get ay
      refine ⟨_, rfl, rfl, _, rfl, ?_⟩
      rw [nonF (by intro z; cases z)]
      refine iteF ?_
      refine ⟨_, rfl, _, _, .type "tuple", .type "bool", _, rfl, .ty _, dp_ty hy, ki_bool (.tuple ds), ?_⟩
      refine ⟨_, rfl, iteF ?_⟩
      refine ⟨_, rfl, _, _, .type "tuple", .type "int", _, rfl, .ty _, dp_ty hy, ki_int (.tuple ds), ?_⟩
      refine ⟨_, rfl, iteF ?_⟩
      refine ⟨_, rfl, _, _, .type "tuple", .type "str", _, rfl, .ty _, dp_ty hy, ki_str (.tuple ds), ?_⟩
      refine ⟨_, rfl, iteF ?_⟩
      refine ⟨_, rfl, _, _, .type "tuple", .type "tuple", _, rfl, .ty _, dp_ty hy, ki_tup (.tuple ds), ?_⟩
      refine ⟨_, rfl, iteT ?_⟩
      refine ⟨_, rfl, _, _, .type "tuple", .type "tuple", _, rfl, .ty _, dp_ty hx, ki_tup (.tuple ds), ?_⟩
      refine ⟨_, rfl, iteF ?_⟩
      refine ⟨_, rfl, _, _, .type "tuple", .type "list", _, rfl, .ty _, dp_ty hy, ki_list (.tuple ds), ?_⟩
      refine ⟨_, rfl, iteF (iteF ?_)⟩
      refine ⟨_, rfl, px, xs, rfl, .inr sx, _, rfl, py, ys, rfl, .inr sy, rfl, _, rfl, ?_⟩
      rw [lx, ly]
      rw [show (!decide (V.int (ds.length : Nat) = V.int (ds.length : Nat))) = false by rw [decide_eq_true rfl]; rfl]
      refine iteF ?_
      refine ⟨_, rfl, py, ys, rfl, .inr sy, _, rfl, ?_⟩
      rw [ly]
      refine ⟨by omega, by omega, ?_⟩
      refine for_range (lo := 0) (n := ds.length) (fun k σ H' => ∃ v2, σ = [some (.ref px), some (.ref py), v2] ∧ Same H H') ⟨none, rfl, Same.refl _⟩ ?_ ?_
      · rintro k σ H1 hk ⟨v2, rfl, s1⟩
        show gName 2 (V.int (0 + (k : Int))) _ _ _
        rw [Int.zero_add]
        have hkx : k < xs.length := by rw [lx]; exact hk
        have hky : k < ys.length := by rw [ly]; exact hk
        obtain ⟨dx, e1, d1⟩ := gx k _ (List.getElem?_eq_getElem hkx)
        obtain ⟨dy, e2, d2⟩ := gy k _ (List.getElem?_eq_getElem hky)
        rw [e1] at e2
        cases e2
        refine ⟨_, rfl, _, rfl, .inr (.inl ⟨px, _, _, _, rfl, rfl, sqt_same s1 sx, atI_nat (List.getElem?_eq_getElem hkx), _, rfl, _, rfl, .inr (.inl ⟨py, _, _, _, rfl, rfl, sqt_same s1 sy, atI_nat (List.getElem?_eq_getElem hky), _, _, dx, rfl, dp_same s1 d1, dp_same s1 d2, ok dx (List.mem_of_getElem? e1), fun H2 s2 => ?_⟩)⟩)⟩
        refine ⟨_, rfl, iteF ?_⟩
        exact ⟨_, rfl, s1.trans s2⟩
      · rintro σ H1 ⟨v2, rfl, s1⟩
        exact q _ s1
theorem ok_same {f : Addr} {fd : FuncData} (F : Fun K "_law_same" "_law_same" s_law_same f fd) (T0 : Bl mg) (g : mg "_law_same" = some (.ref f)) (b : Binds K fd ["actual", "expected"] []) :
    ∀ n, FnOk P w K mg base CX0 (n + 1) f fd ["actual", "expected"] (spSame K n)
  | 0 => ok_same1 F T0 0 (kn1 F g b ⟨fun _ _ _ _ h => h.elim, fun _ _ _ _ _ _ _ _ _ _ _ _ _ h => h.elim⟩)
  | n + 1 => ok_same1 F T0 (n + 1) (kn1 F g b (ok_same F T0 g b n))
end
end K1
/-! blocks: the mathematics -/
namespace Bk
open Po
/-- the k bytes of n, the highest first -/
def fixF (n : Int) (k : Nat) : List Int := (List.range k).map fun i => n / 256 ^ (k - 1 - i) % 256
theorem fix_len (n : Int) (k : Nat) : (fixF n k).length = k := by simp [fixF]
theorem fix_succ (n : Int) (k : Nat) : fixF n (k + 1) = (n / 256 ^ k % 256) :: fixF n k := by
  unfold fixF
  rw [List.range_succ_eq_map, List.map_cons, List.map_map]
  congr 1
  refine List.map_congr_left fun i hi => ?_
  have := List.mem_range.mp hi
  show n / 256 ^ (k + 1 - 1 - (i + 1)) % 256 = n / 256 ^ (k - 1 - i) % 256
  rw [show k + 1 - 1 - (i + 1) = k - 1 - i by omega]
theorem fix_b (n : Int) (k : Nat) : ∀ b ∈ fixF n k, 0 ≤ b ∧ b ≤ 255 := fun b m => by
  obtain ⟨i, _, rfl⟩ := List.mem_map.mp m
  omega
def numF (xs : List Int) : Int := xs.foldl (fun n b => 256 * n + b) 0
theorem num_acc (xs : List Int) : ∀ a : Int, xs.foldl (fun n b => 256 * n + b) a = a * 256 ^ xs.length + numF xs := by
  induction xs with
  | nil => intro a; simp [numF]
  | cons x xs ih =>
    intro a
    have e : numF (x :: xs) = x * 256 ^ xs.length + numF xs := by
      show xs.foldl (fun n b => 256 * n + b) (256 * 0 + x) = _
      rw [ih]
      congr 2
      omega
    rw [e, List.foldl_cons, ih, List.length_cons, Int.pow_succ, Int.add_mul]
    have : 256 * a * 256 ^ xs.length = a * (256 ^ xs.length * 256) := by
      rw [Int.mul_comm 256 a, Int.mul_assoc, Int.mul_comm 256]
    omega
theorem num_cons (x : Int) (xs : List Int) : numF (x :: xs) = x * 256 ^ xs.length + numF xs := by
  have := num_acc xs (256 * 0 + x)
  have e : numF (x :: xs) = xs.foldl (fun n b => 256 * n + b) (256 * 0 + x) := rfl
  rw [e, this]
  congr 2
  omega
theorem pow_pos (k : Nat) : (0 : Int) < 256 ^ k := Int.pow_pos (by decide)
theorem num_nn : ∀ {xs : List Int}, (∀ b ∈ xs, 0 ≤ b) → 0 ≤ numF xs
  | [], _ => by simp [numF]
  | x :: xs, h => by
    rw [num_cons]
    have := num_nn (xs := xs) fun b m => h b (List.mem_cons_of_mem _ m)
    have := Int.mul_nonneg (h x List.mem_cons_self) (Int.le_of_lt (pow_pos xs.length))
    omega
theorem num_fix {n : Int} : ∀ k : Nat, numF (fixF n k) = n % 256 ^ k
  | 0 => by simp [fixF, numF]
  | k + 1 => by
    rw [fix_succ, num_cons, fix_len, num_fix k]
    have p := pow_pos k
    have h1 := Int.mul_ediv_add_emod n (256 ^ k)
    have h2 := Int.mul_ediv_add_emod (n / 256 ^ k) 256
    have r0 := Int.emod_nonneg n (show (256 : Int) ^ k ≠ 0 by omega)
    have r1 := Int.emod_lt_of_pos n p
    have q0 := Int.emod_nonneg (n / 256 ^ k) (show (256 : Int) ≠ 0 by decide)
    have q1 := Int.emod_lt_of_pos (n / 256 ^ k) (show (0 : Int) < 256 by decide)
    generalize n % 256 ^ k = r at *
    generalize n / 256 ^ k % 256 = b at *
    generalize n / 256 ^ k / 256 = q at *
    have e : n = (b * 256 ^ k + r) + (256 ^ (k + 1)) * q := by
      rw [← h1, ← h2, Int.pow_succ, Int.mul_add, Int.mul_comm b, ← Int.mul_assoc]
      omega
    rw [e, Int.add_mul_emod_self_left]
    refine (Int.emod_eq_of_lt ?_ ?_).symm
    · have := Int.mul_nonneg q0 (Int.le_of_lt p)
      omega
    · rw [Int.pow_succ]
      have h3 : b * 256 ^ k ≤ 255 * 256 ^ k := Int.mul_le_mul_of_nonneg_right (by omega) (Int.le_of_lt p)
      omega
/-- of one length, another byte makes another number -/
theorem num_set {xs : List Int} {i : Nat} {b : Int} (h : i < xs.length) (n : b ≠ gI xs i) : numF (xs.set i b) ≠ numF xs := by
  induction xs generalizing i with
  | nil => simp at h
  | cons x xs ih =>
    cases i with
    | zero =>
      rw [List.set_cons_zero, num_cons, num_cons]
      intro e
      have n : b ≠ x := n
      have e : b * 256 ^ xs.length = x * 256 ^ xs.length := by omega
      exact n (Int.eq_of_mul_eq_mul_right (by have := pow_pos xs.length; omega) e)
    | succ i =>
      rw [List.set_cons_succ, num_cons, num_cons, List.length_set]
      have := ih (Nat.lt_of_succ_lt_succ h) n
      omega
/-- what stands in the sectors -/
def toldF (data : List Int) : List Int := fixF (data.length : Nat) 4 ++ data
def manyF (data : List Int) : Nat := ((toldF data).length + 53) / 54
def pieceF (data : List Int) (i : Nat) : List Int := ((toldF data).drop (54 * i)).take 54
def secF (turn : Int) (data : List Int) (i : Nat) : List Int := fixF turn 6 ++ fixF (manyF data : Nat) 4 ++ pieceF data i ++ List.replicate (54 - (pieceF data i).length) 0
def blockF (turn : Int) (data : List Int) : List (List Int) := (List.range (manyF data)).map (secF turn data)
theorem told_len (data : List Int) : (toldF data).length = 4 + data.length := by unfold toldF; rw [List.length_append, fix_len]
theorem many_pos (data : List Int) : 0 < manyF data := by unfold manyF; rw [told_len]; omega
theorem piece_len (data : List Int) (i : Nat) : (pieceF data i).length ≤ 54 := by unfold pieceF; rw [List.length_take]; omega
theorem block_len (turn : Int) (data : List Int) : (blockF turn data).length = manyF data := by simp [blockF]
theorem sec_len (turn : Int) (data : List Int) (i : Nat) : (secF turn data i).length = 64 := by
  unfold secF
  have := piece_len data i
  rw [List.length_append, List.length_append, List.length_append, fix_len, fix_len, List.length_replicate]
  omega
def turnF (r : List Int) : Int := numF (r.take 6)
def readF (xss : List (List Int)) (turn : Int) : Option (List Int × Nat) :=
  match xss with
  | [] => none
  | x :: _ =>
    if numF ((x.drop 6).take 4) < 1 ∨ (xss.length : Int) < numF ((x.drop 6).take 4) then none else
    if ((xss.take (numF ((x.drop 6).take 4)).toNat).any fun r => decide (turnF r ≠ turn)) = true then none else
    if (((((xss.take (numF ((x.drop 6).take 4)).toNat).map fun r => r.drop 10).flatten).length : Nat) : Int) - 4 < numF ((((xss.take (numF ((x.drop 6).take 4)).toNat).map fun r => r.drop 10).flatten).take 4) then none else
    some ((((((xss.take (numF ((x.drop 6).take 4)).toNat).map fun r => r.drop 10).flatten).drop 4).take (numF ((((xss.take (numF ((x.drop 6).take 4)).toNat).map fun r => r.drop 10).flatten).take 4)).toNat), (numF ((x.drop 6).take 4)).toNat)
theorem read_x {x : List Int} {xs : List (List Int)} {turn : Int} {m : Nat} (hm : numF ((x.drop 6).take 4) = (m : Int)) : readF (x :: xs) turn =
    if m < 1 ∨ (x :: xs).length < m then none else if (((x :: xs).take m).any fun r => decide (turnF r ≠ turn)) = true then none else
    if ((((((x :: xs).take m).map fun r => r.drop 10).flatten).length : Nat) : Int) - 4 < numF (((((x :: xs).take m).map fun r => r.drop 10).flatten).take 4) then none else
    some ((((((x :: xs).take m).map fun r => r.drop 10).flatten).drop 4).take (numF (((((x :: xs).take m).map fun r => r.drop 10).flatten).take 4)).toNat, m) := by
  show (if numF ((x.drop 6).take 4) < 1 ∨ ((x :: xs).length : Int) < numF ((x.drop 6).take 4) then none else _) = _
  rw [hm, Int.toNat_natCast]
  by_cases z : m < 1 ∨ (x :: xs).length < m
  · rw [if_pos z, if_pos (by omega)]
  · rw [if_neg z, if_neg (by omega)]
theorem sec_turn (turn : Int) (data : List Int) (i : Nat) (h0 : 0 ≤ turn) (h1 : turn < 256 ^ 6) : turnF (secF turn data i) = turn := by
  unfold turnF secF
  rw [List.append_assoc, List.append_assoc, List.take_append_of_le_length (by rw [fix_len]; exact Nat.le_refl _), List.take_of_length_le (by rw [fix_len]; exact Nat.le_refl _), num_fix]
  exact Int.emod_eq_of_lt h0 h1
theorem sec_many (turn : Int) (data : List Int) (i : Nat) (h : manyF data < 2 ^ 32) : numF (((secF turn data i).drop 6).take 4) = (manyF data : Nat) := by
  unfold secF
  rw [List.append_assoc, List.append_assoc, List.drop_append_of_le_length (by rw [fix_len]; exact Nat.le_refl _), List.drop_of_length_le (by rw [fix_len]; exact Nat.le_refl _), List.nil_append,
    List.take_append_of_le_length (by rw [fix_len]; exact Nat.le_refl _), List.take_of_length_le (by rw [fix_len]; exact Nat.le_refl _), num_fix]
  exact Int.emod_eq_of_lt (by omega) (by show ((manyF data : Nat) : Int) < 256 ^ 4; omega)
theorem sec_body (turn : Int) (data : List Int) (i : Nat) : (secF turn data i).drop 10 = pieceF data i ++ List.replicate (54 - (pieceF data i).length) 0 := by
  unfold secF
  rw [List.append_assoc, List.drop_append_of_le_length (by rw [List.length_append, fix_len, fix_len]; exact Nat.le_refl _), List.drop_of_length_le (by rw [List.length_append, fix_len, fix_len]; exact Nat.le_refl _)]
  rfl
theorem chunks (full : List Int) : ∀ n : Nat, ((List.range n).map fun i => (full.drop (54 * i)).take 54).flatten = full.take (54 * n)
  | 0 => by simp
  | n + 1 => by
    rw [List.range_succ, List.map_append, List.flatten_append, chunks full n, Nat.mul_succ, List.take_add]
    simp
/-- the bodies, one behind another -/
theorem bodies (turn : Int) (data : List Int) : ((blockF turn data).map fun r => r.drop 10).flatten = toldF data ++ List.replicate (54 * manyF data - (toldF data).length) 0 := by
  have len : (toldF data).length ≤ 54 * manyF data := by unfold manyF; omega
  have e : (blockF turn data).map (fun r => r.drop 10) = (List.range (manyF data)).map fun i => ((toldF data ++ List.replicate (54 * manyF data - (toldF data).length) 0).drop (54 * i)).take 54 := by
    unfold blockF
    rw [List.map_map]
    refine List.map_congr_left fun i hi => ?_
    have hi := List.mem_range.mp hi
    show (secF turn data i).drop 10 = _
    have hm : 54 * i ≤ (toldF data).length := by unfold manyF at hi; omega
    rw [sec_body, List.drop_append_of_le_length hm, List.take_append]
    unfold pieceF
    congr 1
    rw [List.take_replicate, List.length_take, List.length_drop]
    congr 1
    unfold manyF at *
    omega
  rw [e, chunks, List.take_of_length_le]
  rw [List.length_append, List.length_replicate]
  omega
theorem block_take (turn : Int) (data : List Int) (rest : List (List Int)) : (blockF turn data ++ rest).take (manyF data) = blockF turn data := by
  rw [List.take_append_of_le_length (by rw [block_len]; exact Nat.le_refl _), List.take_of_length_le (by rw [block_len]; exact Nat.le_refl _)]
theorem block_cons (turn : Int) (data : List Int) : ∃ r, blockF turn data = secF turn data 0 :: r := by
  unfold blockF
  obtain ⟨n, e⟩ : ∃ n, manyF data = n + 1 := ⟨manyF data - 1, by have := many_pos data; omega⟩
  rw [e, List.range_succ_eq_map, List.map_cons]
  exact ⟨_, rfl⟩
theorem mem_block {turn : Int} {data r : List Int} (m : r ∈ blockF turn data) : ∃ i, i < manyF data ∧ r = secF turn data i := by
  obtain ⟨i, hi, rfl⟩ := List.mem_map.mp m
  exact ⟨i, List.mem_range.mp hi, rfl⟩
/-- it is read back -/
theorem read_block (turn : Int) (data : List Int) (rest : List (List Int)) (h0 : 0 ≤ turn) (h1 : turn < 256 ^ 6) (hd : data.length ≤ 100000) : readF (blockF turn data ++ rest) turn = some (data, manyF data) := by
  obtain ⟨r, er⟩ := block_cons turn data
  have hm : manyF data < 2 ^ 32 := by unfold manyF; rw [told_len]; omega
  have e1 : blockF turn data ++ rest = secF turn data 0 :: (r ++ rest) := by rw [er]; rfl
  have x := read_x (x := secF turn data 0) (xs := r ++ rest) (turn := turn) (sec_many turn data 0 hm)
  rw [← e1, block_take, bodies] at x
  rw [x, if_neg (by rw [List.length_append, block_len]; have := many_pos data; omega), if_neg ?_]
  · have len : (toldF data).length ≤ 54 * manyF data := by unfold manyF; omega
    have e4 : (toldF data ++ List.replicate (54 * manyF data - (toldF data).length) 0).take 4 = fixF (data.length : Nat) 4 := by
      unfold toldF
      rw [List.append_assoc, List.take_append_of_le_length (by rw [fix_len]; exact Nat.le_refl _), List.take_of_length_le (by rw [fix_len]; exact Nat.le_refl _)]
    have n4 : numF (fixF (data.length : Nat) 4) = (data.length : Nat) := by
      rw [num_fix]
      exact Int.emod_eq_of_lt (by omega) (by show ((data.length : Nat) : Int) < 256 ^ 4; omega)
    rw [e4, n4, if_neg ?_, Int.toNat_natCast]
    · congr 2
      unfold toldF
      rw [List.append_assoc, List.drop_append_of_le_length (by rw [fix_len]; exact Nat.le_refl _), List.drop_of_length_le (by rw [fix_len]; exact Nat.le_refl _), List.nil_append, List.take_append_of_le_length (Nat.le_refl _), List.take_of_length_le (Nat.le_refl _)]
    · rw [List.length_append, List.length_replicate, told_len] at *
      omega
  · rw [Bool.not_eq_true, List.any_eq_false]
    intro s ms
    obtain ⟨i, _, rfl⟩ := mem_block ms
    rw [sec_turn turn data i h0 h1]
    simp
/-- one of the first sectors has another turn -/
theorem read_other {x : List Int} {xs : List (List Int)} {turn : Int} {m : Nat} (hm : numF ((x.drop 6).take 4) = (m : Int)) {r : List Int} (mr : r ∈ (x :: xs).take m) (hr : turnF r ≠ turn) : readF (x :: xs) turn = none := by
  rw [read_x hm]
  by_cases z : m < 1 ∨ (x :: xs).length < m
  · rw [if_pos z]
  · rw [if_neg z, if_pos (List.any_eq_true.mpr ⟨r, mr, decide_eq_true hr⟩)]
theorem read_few {x : List Int} {xs : List (List Int)} {turn : Int} {m : Nat} (hm : numF ((x.drop 6).take 4) = (m : Int)) (h : m < 1 ∨ (x :: xs).length < m) : readF (x :: xs) turn = none := by
  rw [read_x hm, if_pos h]
/-! heads -/
def headF (turn : Int) (area : Int) : List Int := [82, 85, 76, 69] ++ fixF turn 6 ++ [area] ++ List.replicate 53 0
end Bk
namespace Ow
open PySem PySem.Spec PyProof.Rows L2
/-- every turn gives a new list, of the row i: all of them different -/
theorem lc_newD {J : L2.It} {n : Nat} {G : Hp → Prop} {Y : Nat → Hp → V → Hp → Prop} (w : Walk J n G Y) (row : Nat → List V) (hn : n < sizeLine) {g : TG} {te : TE} {vs : List Nat} {σ : L2.St} {H1 : Hp} {D : Addr} {Qd : Hp → Prop} (hD : H1 D = none)
    (hG : ∀ H, Same H1 H → G H)
    (hs : ∀ i x H H' (N : VK), i < n → Same H1 H → Y i H x H' → (∀ H4 q, Same H H4 → H q = none → H4 q = some (.lst (row i)) → N (.ref q) H4) → g x (wipe σ vs) H' fun σ2 H2 => wipe σ2 vs = wipe σ vs ∧ te σ2 H2 N)
    (hd : ∀ (H : Hp) (ts : List Addr), Same H1 H → H D = some (.lst (ts.map V.ref)) → ts.length = n → (∀ i t, ts[i]? = some t → H1 t = none ∧ t ≠ D ∧ H t = some (.lst (row i))) → (∀ (i j : Nat) (t : Addr), ts[i]? = some t → ts[j]? = some t → i = j) → Qd H) :
    ∃ W : Nat → Nat → Hp → Prop, (∃ m, W 0 m (upd H1 D (.lst []))) ∧ ∀ i m H, W i m H →
      (J.stop i H ∧ Qd H) ∨ (J.go i H ∧ ∃ Nx : Hp → Prop, (∀ H', Nx H' → ∃ m', m' < m ∧ W (i + 1) m' H') ∧ ∀ x H', J.yld i H x H' → g x (wipe σ vs) H' fun σ2 H2 => wipe σ2 vs = wipe σ vs ∧ tYes σ2 H2 fun b H3 =>
        if b = true then te σ2 H3 fun y H4 => ∃ acc, H4 D = some (.lst acc) ∧ acc.length < sizeLine ∧ Nx (upd H4 D (.lst (acc ++ [y]))) else Nx H3) := by
  refine lc_it w (fun i H => Same H1 H ∧ ∃ ts : List Addr, H D = some (.lst (ts.map V.ref)) ∧ ts.length = i ∧ (∀ (j : Nat) (t : Addr), ts[j]? = some t → H1 t = none ∧ t ≠ D ∧ H t = some (.lst (row j))) ∧ ∀ (i j : Nat) (t : Addr), ts[i]? = some t → ts[j]? = some t → i = j) ⟨Same.new hD, [], upd_same, rfl, fun j t e => by simp at e, fun i j t e => by simp at e⟩ (fun i H _ h => hG H h.1) (fun i x H H' hi h y => ?_) fun H h => ?_
  · obtain ⟨s, ts, eD, el, et, ed⟩ := h
    refine hs i x H H' _ hi s y fun H4 q s4 nq eq => ?_
    have qD : q ≠ D := fun z => by rw [z, eD] at nq; cases nq
    have old : ∀ j, ts[j]? = some q → False := fun j ej => by rw [(et j q ej).2.2] at nq; cases nq
    refine ⟨_, s4 _ _ eD, by rw [List.length_map, el]; exact Nat.lt_trans hi hn, Same.over (s.trans s4) hD, ts ++ [q], ?_, by rw [List.length_append, el]; rfl, fun j t ej => ?_, fun a b t ea eb => ?_⟩
    · rw [upd_same, List.map_append]
      rfl
    · rcases Nat.lt_trichotomy j ts.length with h1 | h1 | h1
      · rw [List.getElem?_append_left h1] at ej
        obtain ⟨f1, f2, f3⟩ := et j t ej
        exact ⟨f1, f2, by rw [upd_ne f2]; exact s4 _ _ f3⟩
      · subst h1
        have e2 : q = t := by simpa using ej
        subst e2
        refine ⟨?_, qD, by rw [upd_ne qD, el]; exact eq⟩
        cases z : H1 q with
        | none => rfl
        | some o => rw [s q o z] at nq; cases nq
      · rw [List.getElem?_eq_none (by rw [List.length_append, List.length_singleton]; omega)] at ej
        cases ej
    · have la := (List.getElem?_eq_some_iff.mp ea).1
      have lb := (List.getElem?_eq_some_iff.mp eb).1
      rw [List.length_append, List.length_singleton] at la lb
      by_cases ha : a < ts.length
      · rw [List.getElem?_append_left ha] at ea
        by_cases hb : b < ts.length
        · rw [List.getElem?_append_left hb] at eb
          exact ed a b t ea eb
        · have : b = ts.length := by omega
          subst this
          have e2 : q = t := by simpa using eb
          subst e2
          exact (old a ea).elim
      · have : a = ts.length := by omega
        subst this
        have e2 : q = t := by simpa using ea
        subst e2
        by_cases hb : b < ts.length
        · rw [List.getElem?_append_left hb] at eb
          exact (old b eb).elim
        · omega
  · obtain ⟨s, ts, eD, el, et, ed⟩ := h
    exact hd H ts s eD el et ed
end Ow
namespace K1
open PySem PySem.Spec PyProof.Rows L2 Ow Po Dd Bk
abbrev snumber_bytes : Stmt := topS 9
abbrev Nnumber_bytes : List Str := ["number", "many", "at"]
theorem scnumber_bytes : FnScope Nnumber_bytes ["number", "many"] (defScope snumber_bytes) := ⟨rfl, rfl, rfl, by decide +kernel, rfl, by decide +kernel, by decide +kernel⟩
abbrev snumber_of : Stmt := topS 10
abbrev Nnumber_of : List Str := ["data", "number", "byte"]
theorem scnumber_of : FnScope Nnumber_of ["data"] (defScope snumber_of) := ⟨rfl, rfl, rfl, by decide +kernel, rfl, by decide +kernel, by decide +kernel⟩
abbrev sturn_of : Stmt := topS 11
abbrev Nturn_of : List Str := ["sector"]
theorem scturn_of : FnScope Nturn_of ["sector"] (defScope sturn_of) := ⟨rfl, rfl, rfl, by decide +kernel, rfl, by decide +kernel, by decide +kernel⟩
abbrev shead : Stmt := topS 14
abbrev Nhead : List Str := ["turn", "area", "told"]
theorem schead : FnScope Nhead ["turn", "area"] (defScope shead) := ⟨rfl, rfl, rfl, by decide +kernel, rfl, by decide +kernel, by decide +kernel⟩
abbrev sread_head : Stmt := topS 15
abbrev Nread_head : List Str := ["sector", "first", "turn", "area"]
theorem scread_head : FnScope Nread_head ["sector"] (defScope sread_head) := ⟨rfl, rfl, rfl, by decide +kernel, rfl, by decide +kernel, by decide +kernel⟩
abbrev sregion_start : Stmt := topS 16
abbrev Nregion_start : List Str := ["size"]
theorem scregion_start : FnScope Nregion_start ["size"] (defScope sregion_start) := ⟨rfl, rfl, rfl, by decide +kernel, rfl, by decide +kernel, by decide +kernel⟩
abbrev sarea_size : Stmt := topS 17
abbrev Narea_size : List Str := ["size"]
theorem scarea_size : FnScope Narea_size ["size"] (defScope sarea_size) := ⟨rfl, rfl, rfl, by decide +kernel, rfl, by decide +kernel, by decide +kernel⟩
abbrev sarea_start : Stmt := topS 18
abbrev Narea_start : List Str := ["size", "area"]
theorem scarea_start : FnScope Narea_start ["size", "area"] (defScope sarea_start) := ⟨rfl, rfl, rfl, by decide +kernel, rfl, by decide +kernel, by decide +kernel⟩
abbrev s_law_fixed : Stmt := topS 22
abbrev N_law_fixed : List Str := ["number", "count", "data", "k"]
theorem sc_law_fixed : FnScope N_law_fixed ["number", "count"] (defScope s_law_fixed) := ⟨rfl, rfl, rfl, by decide +kernel, rfl, by decide +kernel, by decide +kernel⟩
/-- the module's ints -/
structure Gb (K : PySem.W.Frag) (mg : Str → Option Value) : Prop where
  sector : ∃ t, mg "SECTOR_BYTES" = some (.int 64 t)
  turn : ∃ t, mg "TURN_BYTES" = some (.int 6 t)
  count : ∃ t, mg "COUNT_BYTES" = some (.int 4 t)
  front : ∃ t, mg "FRONT_BYTES" = some (.int 10 t)
  piece : ∃ t, mg "PIECE_BYTES" = some (.int 54 t)
  length : ∃ t, mg "LENGTH_BYTES" = some (.int 4 t)
  heads : ∃ t, mg "HEADS" = some (.int 2 t)
  mark : ∃ (a : Addr) (o : Obj) (its : Array Value) (n : Nat), mg "HEAD_MARK" = some (.ref a) ∧ K.lookup a = some o ∧ o.cls = .type "tuple" ∧ o.data = .seq its n ∧ its.size ≤ sizeLine ∧ Vals [V.int 82, .int 85, .int 76, .int 69] its.toList
def By (xs : List Int) : Prop := ∀ b ∈ xs, 0 ≤ b ∧ b ≤ 255
theorem By.take {xs : List Int} (h : By xs) (k : Nat) : By (xs.take k) := fun b m => h b (List.mem_of_mem_take m)
theorem By.drop {xs : List Int} (h : By xs) (k : Nat) : By (xs.drop k) := fun b m => h b (List.mem_of_mem_drop m)
theorem num_lt : ∀ {xs : List Int}, By xs → numF xs < 256 ^ xs.length
  | [], _ => by simp [numF]
  | x :: xs, h => by
    rw [num_cons, List.length_cons, Int.pow_succ]
    have a := num_lt (xs := xs) fun b m => h b (List.mem_cons_of_mem _ m)
    have p := pow_pos xs.length
    have b := (h x List.mem_cons_self).2
    have := Int.mul_le_mul_of_nonneg_right b (Int.le_of_lt p)
    omega
theorem By.nn {xs : List Int} (h : By xs) : 0 ≤ numF xs := num_nn fun b m => (h b m).1
theorem num_le (k : Nat) {xs : List Int} (h : By xs) (l : xs.length ≤ k) : 0 ≤ numF xs ∧ numF xs < 256 ^ k := by
  refine ⟨h.nn, Int.lt_of_lt_of_le (num_lt h) ?_⟩
  obtain ⟨d, rfl⟩ : ∃ d, k = xs.length + d := ⟨k - xs.length, by omega⟩
  rw [Int.pow_add]
  have a := pow_pos xs.length
  have b := pow_pos d
  have : 256 ^ xs.length * 1 ≤ (256 : Int) ^ xs.length * 256 ^ d := Int.mul_le_mul_of_nonneg_left (by omega) (Int.le_of_lt a)
  omega
def spNb : Sp := fun vs H Q _ => ∃ (n : Int) (k : Nat), vs = [.int n, .int (k : Nat)] ∧ k ≤ 10 ∧ ∀ H' l, Same H H' → H l = none → LI H' l (fixF n k) → Q (.ref l) H'
def spNo (K : PySem.W.Frag) : Sp := fun vs H Q _ => ∃ (a : Addr) (xs : List Int), vs = [.ref a] ∧ LI H a xs ∧ xs.length ≤ 6 ∧ By xs ∧ ∀ H', Same H H' → Q (.int (numF xs)) H'
def spTo (K : PySem.W.Frag) : Sp := fun vs H Q _ => ∃ (a : Addr) (xs : List Int), vs = [.ref a] ∧ LI H a xs ∧ By xs ∧ ∀ H', Same H H' → Q (.int (turnF xs)) H'
def spHead : Sp := fun vs H Q _ => ∃ (n area : Int), vs = [.int n, .int area] ∧ ∀ H' l, Same H H' → H l = none → LI H' l (headF n area) → Q (.ref l) H'
def rhF (xs : List Int) : Option (Int × Int) := if numF ((xs.drop 4).take 6) < 1 ∨ 1 < numF ((xs.drop 10).take 1) ∨ xs ≠ headF (numF ((xs.drop 4).take 6)) (numF ((xs.drop 10).take 1)) then none else some (numF ((xs.drop 4).take 6), numF ((xs.drop 10).take 1))
def spRh (K : PySem.W.Frag) : Sp := fun vs H Q _ => ∃ (a : Addr) (xs : List Int), vs = [.ref a] ∧ LI H a xs ∧ By xs ∧ xs.length ≤ 100 ∧ (rhF xs = none → ∀ H', Same H H' → Q .non H') ∧ (∀ t c, rhF xs = some (t, c) → ∀ H' p, Same H H' → H' p = some (.tup [.int t, .int c]) → Q (.ref p) H')
def spRs : Sp := fun vs H Q _ => ∃ n : Int, vs = [.int n] ∧ Q (.int (n - (n - 2) / 2)) H
def spAz : Sp := fun vs H Q _ => ∃ n : Int, vs = [.int n] ∧ Q (.int ((n - (n - 2) / 2 - 2) / 2)) H
def spAt : Sp := fun vs H Q _ => ∃ n c : Int, vs = [.int n, .int c] ∧ 0 ≤ c ∧ c ≤ 1 ∧ Q (.int (2 + c * ((n - (n - 2) / 2 - 2) / 2))) H
def spFixed : Sp := fun vs H Q _ => ∃ (n : Int) (k : Nat), vs = [.int n, .int (k : Nat)] ∧ k ≤ 10 ∧ ∀ H' l, Same H H' → H l = none → LI H' l (fixF n k) → Q (.ref l) H'
theorem map_take (xs : List Int) (k : Nat) : (xs.map V.int).take k = (xs.take k).map V.int := by rw [List.map_take]
theorem map_drop (xs : List Int) (k : Nat) : (xs.map V.int).drop k = (xs.drop k).map V.int := by rw [List.map_drop]
theorem eqvI : ∀ xs ys : List Int, PyData.eqvAll (xs.map PyData.int) (ys.map PyData.int) = decide (xs = ys)
  | [], [] => rfl
  | [], _ :: _ => rfl
  | _ :: _, [] => rfl
  | x :: xs, y :: ys => by
    rw [List.map_cons, List.map_cons, PyData.eqvAll, eqvI xs ys, PyData.eqv]
    by_cases a : x = y <;> by_cases b : xs = ys <;> simp [a, b]
theorem shr_byte (n : Int) (m : Nat) : n / 2 ^ ((8 * (m : Int)).toNat) % 2 ^ 8 = n / 256 ^ m % 256 := by
  have : (8 * (m : Int)).toNat = 8 * m := by omega
  rw [this, Int.pow_mul]
  rfl
theorem repl0 (k : Nat) : (List.replicate k [V.int 0]).flatten = (List.replicate k (0 : Int)).map V.int := by
  rw [List.map_replicate]
  induction k with
  | zero => rfl
  | succ k ih => rw [List.replicate_succ, List.replicate_succ, List.flatten_cons, ih]; rfl
section
variable {P : Program} {w : World} {K : PySem.W.Frag} {mg : Str → Option Value} {base : Heap}
theorem ok_nb {f : Addr} {fd : FuncData} (F : Fun K "number_bytes" "number_bytes" snumber_bytes f fd) (T0 : Bl mg) : FnOk P w K mg base CX0 1 f fd ["number", "many"] spNb := by
  refine F.ok scnumber_bytes (fun vs H Q E h => ?_) (fun cdv A outer s H vs Q E hr h => ?_)
  · obtain ⟨n, k, rfl, _⟩ := h
    rfl
  · obtain ⟨n, k, rfl, hk, q⟩ := h
    refine ⟨_, (pss_one (ps_ret (pe_lc (own := [("at", 2)]) (g := gName 2) (tt := tYes) rfl scnumber_bytes.nd (pi_revR (by rfl) T0.reversed (prg_1 (by rfl) T0.range (pv 1))) (blkOk_by (own := [("at", 2)]) (N := Nnumber_bytes) (sc := defScope snumber_bytes) (by decide +kernel)) (fun _ _ _ _ _ => pg_name (i := 2) scnumber_bytes.nd rfl (Or.inl rfl)) (fun _ _ _ _ _ => pts_nil) (fun _ _ _ _ _ => (pe_op op_andM (pe_op op_shr (pv 0) (pe_op op_mul pe_int (pv 2))) pe_int))))), ?_⟩
    refine ⟨_, rfl, _, rfl, by decide, by decide, by omega, by omega, fun D nD => ?_⟩
    have ek : (((k : Nat) : Int) - 0).toNat = k := by omega
    rw [ek]
    refine lc_mk (walk_rangeC (n := k)) (fun i => V.int (n / 256 ^ (k - 1 - i) % 256)) (small (Nat.le_trans hk (by decide)) (Nat.le_refl _)) nD (fun _ _ => trivial) (fun i x H1 H1' N hi s1 yy fin => ?_) fun H1 s1 eD => ?_
    · obtain ⟨rfl, ex⟩ := yy
      have ex : x = V.int ((k - 1 - i : Nat) : Int) := by
        rw [ex]
        have hi : i < k := hi
        refine congrArg V.int ?_
        show (0 : Int) + ((k : Nat) : Int) - 1 + ((i : Nat) : Int) * (-1) = _
        omega
      subst ex
      refine ⟨rfl, _, rfl, _, rfl, _, _, rfl, rfl, .inl ⟨by decide, by decide⟩, _, _, rfl, rfl, by omega, _, 8, rfl, rfl, ?_⟩
      rw [shr_byte]
      exact fin _ (Same.refl _)
    · exact q _ _ s1 nD (by rw [LI, eD]; unfold fixF; rw [List.map_map]; rfl)
theorem ok_no {f : Addr} {fd : FuncData} (F : Fun K "number_of" "number_of" snumber_of f fd) (T0 : Bl mg) : FnOk P w K mg base CX0 1 f fd ["data"] (spNo K) := by
  refine F.ok scnumber_of (fun vs H Q E h => ?_) (fun cdv A outer s H vs Q E hr h => ?_)
  · obtain ⟨a, xs, rfl, _⟩ := h
    rfl
  · obtain ⟨a, xs, rfl, ha, hl, hb, q⟩ := h
    refine ⟨_, (pss_cons (ps_set (i := 1) scnumber_of.nd rfl (.inl rfl) pe_int)
      (pss_cons (ps_for PassesOwn.never rfl (pi_list (pv 0)) (pg_name (i := 2) scnumber_of.nd rfl (.inl rfl)) (pss_one (ps_set (i := 1) scnumber_of.nd rfl (.inl rfl) (pe_op op_add (pe_op op_mul pe_int (pv 1)) (pv 2)))))
      (pss_one (ps_ret (pv 1))))), ?_⟩
    refine ⟨_, rfl, a, rfl, ⟨_, ha.seq⟩, ?_⟩
    refine for_list (K := K) (a := a) (xs := xs.map V.int) (fun i σ H' => ∃ v2, σ = [some (.ref a), some (.int (numF (xs.take i))), v2] ∧ Same H H') ⟨none, rfl, Same.refl _⟩ (fun i σ H' _ h => ?_) ?_ ?_
    · obtain ⟨_, _, s⟩ := h
      exact s.seq ha.seq
    · rintro i x σ H1 ex ⟨v2, rfl, s1⟩
      rw [List.getElem?_map] at ex
      obtain ⟨b, eb, rfl⟩ := Option.map_eq_some_iff.mp ex
      have hi := (List.getElem?_eq_some_iff.mp eb).1
      have nl := num_le 6 (hb.take i) (by rw [List.length_take]; omega)
      refine ⟨_, rfl, _, _, rfl, rfl, .inl ⟨by decide, by decide⟩, _, rfl, _, _, rfl, rfl, some (.int b), ?_, s1⟩
      have : numF (xs.take (i + 1)) = 256 * numF (xs.take i) + b := by
        rw [List.take_succ, eb]
        show (xs.take i ++ [b]).foldl _ _ = _
        rw [List.foldl_append]
        rfl
      rw [this]
      rfl
    · rintro σ H1 ⟨v2, rfl, s1⟩
      refine ⟨_, rfl, ?_⟩
      rw [List.length_map, List.take_length]
      exact q _ s1
theorem ok_to {f : Addr} {fd : FuncData} (F : Fun K "turn_of" "turn_of" sturn_of f fd) (G0 : Gb K mg) (Dnumber_of : Kn P w K mg base 1 "number_of" ["data"] (spNo K)) : FnOk P w K mg base CX0 2 f fd ["sector"] (spTo K) := by
  refine F.ok scturn_of (fun vs H Q E h => ?_) (fun cdv A outer s H vs Q E hr h => ?_)
  · obtain ⟨a, xs, rfl, _⟩ := h
    rfl
  · obtain ⟨a, xs, rfl, ha, hb, q⟩ := h
    obtain ⟨t1, gTURN_BYTES⟩ := G0.turn
    refine ⟨_, (pss_one (ps_ret (pe_kn Dnumber_of hr (pa_cons (pe_slice sl_list (pv 0) po_none (po_some (pe_gi (by rfl) gTURN_BYTES))) pa_nil)))), ?_⟩
    refine ⟨_, rfl, _, rfl, a, _, rfl, ha.seq, fun p np => ?_⟩
    refine ⟨p, xs.take 6, rfl, ?_, by rw [List.length_take]; omega, hb.take 6, fun H' s => q _ (Same.trans (Same.new np) s)⟩
    rw [LI, upd_same, show (some 6 : Option Int) = some ((6 : Nat) : Int) from rfl, cut_to, map_take]
theorem ok_rs {f : Addr} {fd : FuncData} (F : Fun K "region_start" "region_start" sregion_start f fd) : FnOk P w K mg base CX0 1 f fd ["size"] spRs := by
  refine F.ok scregion_start (fun vs H Q E h => ?_) (fun cdv A outer s H vs Q E hr h => ?_)
  · obtain ⟨n, rfl, _⟩ := h
    rfl
  · obtain ⟨n, rfl, q⟩ := h
    refine ⟨_, (pss_one (ps_ret (pe_op op_sub (pv 0) (pe_op op_fdiv (pe_op op_sub (pv 0) pe_int) pe_int)))), ?_⟩
    exact ⟨_, rfl, _, rfl, _, _, rfl, rfl, _, _, rfl, rfl, ⟨by decide, by decide⟩, _, _, rfl, rfl, q⟩
theorem ok_az {f : Addr} {fd : FuncData} (F : Fun K "area_size" "area_size" sarea_size f fd) (G0 : Gb K mg) (Dregion_start : Kn P w K mg base 1 "region_start" ["size"] spRs) : FnOk P w K mg base CX0 2 f fd ["size"] spAz := by
  refine F.ok scarea_size (fun vs H Q E h => ?_) (fun cdv A outer s H vs Q E hr h => ?_)
  · obtain ⟨n, rfl, _⟩ := h
    rfl
  · obtain ⟨n, rfl, q⟩ := h
    obtain ⟨t1, gHEADS⟩ := G0.heads
    refine ⟨_, (pss_one (ps_ret (pe_op op_fdiv (pe_op op_sub (pe_kn Dregion_start hr (pa_cons (pv 0) pa_nil)) (pe_gi (by rfl) gHEADS)) pe_int))), ?_⟩
    exact ⟨_, rfl, _, rfl, _, _, rfl, rfl, _, _, rfl, rfl, ⟨by decide, by decide⟩, q⟩
theorem ok_at {f : Addr} {fd : FuncData} (F : Fun K "area_start" "area_start" sarea_start f fd) (G0 : Gb K mg) (Darea_size : Kn P w K mg base 2 "area_size" ["size"] spAz) : FnOk P w K mg base CX0 3 f fd ["size", "area"] spAt := by
  refine F.ok scarea_start (fun vs H Q E h => ?_) (fun cdv A outer s H vs Q E hr h => ?_)
  · obtain ⟨n, c, rfl, _⟩ := h
    rfl
  · obtain ⟨n, c, rfl, h0, h1, q⟩ := h
    obtain ⟨t1, gHEADS⟩ := G0.heads
    refine ⟨_, (pss_one (ps_ret (pe_op op_add (pe_gi (by rfl) gHEADS) (pe_op op_mul (pv 1) (pe_kn Darea_size hr (pa_cons (pv 0) pa_nil)))))), ?_⟩
    exact ⟨_, rfl, _, rfl, _, rfl, _, _, rfl, rfl, .inl ⟨by omega, by omega⟩, _, _, rfl, rfl, q⟩
theorem ok_fixed {f : Addr} {fd : FuncData} (F : Fun K "_law_fixed" "_law_fixed" s_law_fixed f fd) (T0 : Bl mg) : FnOk P w K mg base CX0 1 f fd ["number", "count"] spFixed := by
  refine F.ok sc_law_fixed (fun vs H Q E h => ?_) (fun cdv A outer s H vs Q E hr h => ?_)
  · obtain ⟨n, k, rfl, _⟩ := h
    rfl
  · obtain ⟨n, k, rfl, hk, q⟩ := h
    refine ⟨_, (pss_cons (ps_set (i := 2) sc_law_fixed.nd rfl (.inl rfl) (pe_lst pa_nil))
      (pss_cons (ps_for PassesOwn.never rfl (pi_range1 (by rfl) T0.range (pa_cons (pv 1) pa_nil)) (pg_name (i := 3) sc_law_fixed.nd rfl (.inl rfl)) (pss_cons (ps_set (i := 2) sc_law_fixed.nd rfl (.inl rfl) (pe_op op_cat (pe_lst (pa_cons (pe_op op_mod (pe_callTy call_int1 (by rfl) T0.int (by decide +kernel) (pa_cons (pv 0) pa_nil)) pe_int) pa_nil)) (pv 2)))
      (pss_one (ps_set (i := 0) sc_law_fixed.nd rfl (.inl rfl) (pe_op op_fdiv (pv 0) pe_int)))))
      (pss_one (ps_ret (pv 2))))), ?_⟩
    refine ⟨by decide, fun l nl => ⟨_, rfl, _, rfl, by omega, by omega, ?_⟩⟩
    refine for_range (lo := 0) (n := k) (fun i σ H' => ∃ (v3 : Option V) (l : Addr), σ = [some (.int (n / 256 ^ i)), some (.int (k : Nat)), some (.ref l), v3] ∧ Same H H' ∧ H l = none ∧ LI H' l (fixF n i)) ⟨none, l, ?_, Same.new nl, nl, upd_same⟩ ?_ ?_
    · rw [Int.pow_zero, Int.ediv_one]
      rfl
    · rintro i σ H1 hi ⟨v3, l1, rfl, s1, n1, e1⟩
      refine ⟨_, rfl, .inl ⟨_, rfl, _, _, rfl, rfl, by show (0 : Int) < 256; decide, by show 1 ≤ sizeLine; decide, fun p np => ⟨_, rfl, p, l1, _, _, rfl, rfl, upd_same, Same.new np _ _ e1, ?_, fun p2 np2 => ?_⟩⟩⟩
      · rw [List.length_map, fix_len]
        exact Nat.le_of_lt (small (n := 1 + i) (m := 100) (by omega) (by decide))
      · refine ⟨_, rfl, _, _, rfl, rfl, ⟨by decide, by decide⟩, ?_⟩
        have s2 : Same H1 (upd (upd H1 p (.lst [V.int (n / 256 ^ i % 256)])) p2 (.lst ([V.int (n / 256 ^ i % 256)] ++ (fixF n i).map V.int))) := (Same.new np).trans (Same.new np2)
        refine ⟨some (.int (0 + (i : Nat))), p2, ?_, s1.trans s2, Same.free (s1.trans (Same.new np)) np2, ?_⟩
        · rw [Int.pow_succ, ← Int.ediv_ediv_of_nonneg (Int.le_of_lt (pow_pos i))]
          rfl
        · rw [LI, upd_same, fix_succ]
          rfl
    · rintro σ H1 ⟨v3, l1, rfl, s1, n1, e1⟩
      exact ⟨_, rfl, q _ _ s1 n1 e1⟩
theorem ok_head {f : Addr} {fd : FuncData} (F : Fun K "head" "head" shead f fd) (T0 : Bl mg) (G0 : Gb K mg) (Dnumber_bytes : Kn P w K mg base 1 "number_bytes" ["number", "many"] spNb) : FnOk P w K mg base CX0 2 f fd ["turn", "area"] spHead := by
  refine F.ok schead (fun vs H Q E h => ?_) (fun cdv A outer s H vs Q E hr h => ?_)
  · obtain ⟨n, area, rfl, _⟩ := h
    rfl
  · obtain ⟨n, area, rfl, q⟩ := h
    obtain ⟨t1, gTURN_BYTES⟩ := G0.turn
    obtain ⟨t2, gSECTOR_BYTES⟩ := G0.sector
    obtain ⟨aM, oM, iM, nM, gM, lM, cM, dM, zM, vM⟩ := G0.mark
    have hM : ∀ H : Hp, SqT K H aM [V.int 82, .int 85, .int 76, .int 69] := fun H => .inr ⟨oM, iM, nM, lM, cM, dM, zM, vM⟩
    refine ⟨_, (pss_cons (ps_set (i := 2) schead.nd rfl (.inl rfl) (pe_op op_cat (pe_op op_cat (pe_callTy call_list_of (by rfl) T0.list (by decide +kernel) (pa_cons (pe_glob (v := .ref aM) (by rfl) gM rfl) pa_nil)) (pe_kn Dnumber_bytes hr (pa_cons (pv 0) (pa_cons (pe_gi (by rfl) gTURN_BYTES) pa_nil)))) (pe_lst (pa_cons (pv 1) pa_nil))))
      (pss_one (ps_ret (pe_op op_cat (pv 2) (pe_op op_rep (pe_lst (pa_cons pe_int pa_nil)) (pe_op op_sub (pe_gi (by rfl) gSECTOR_BYTES) (pe_callB call_len_seq (by rfl) T0.len PySem.boot_len (pa_cons (pv 2) pa_nil)))))))), ?_⟩
    refine ⟨aM, _, rfl, .inr (hM H), fun p1 n1 => ⟨_, rfl, n, 6, rfl, by decide, fun H1 p2 s1 n2 e2 => ?_⟩⟩
    have e1 : H1 p1 = some (.lst [V.int 82, .int 85, .int 76, .int 69]) := s1 _ _ upd_same
    refine ⟨_, _, _, _, rfl, rfl, e1, e2, ?_, fun p3 n3 => ⟨_, rfl, by show 1 ≤ sizeLine; decide, fun p4 n4 => ⟨_, _, _, _, rfl, rfl, Same.new n4 _ _ upd_same, upd_same, ?_, fun p5 n5 => ?_⟩⟩⟩
    · rw [List.length_map, fix_len]
      show 4 + 6 ≤ sizeLine
      decide
    · rw [List.length_append, List.length_map, fix_len]
      show 4 + 6 + 1 ≤ sizeLine
      decide
    have s5 := (Same.new n1).trans (s1.trans ((Same.new (o := .lst ([V.int 82, .int 85, .int 76, .int 69] ++ (fixF n 6).map V.int)) n3).trans ((Same.new (o := .lst [V.int area]) n4).trans (Same.new (o := .lst ([V.int 82, .int 85, .int 76, .int 69] ++ (fixF n 6).map V.int ++ [V.int area])) n5))))
    have e5 : (upd (upd (upd H1 p3 (.lst ([V.int 82, .int 85, .int 76, .int 69] ++ (fixF n 6).map V.int))) p4 (.lst [V.int area])) p5 (.lst ([V.int 82, .int 85, .int 76, .int 69] ++ (fixF n 6).map V.int ++ [V.int area]))) p5 = some (.lst (([82, 85, 76, 69] ++ fixF n 6 ++ [area]).map V.int)) := by
      rw [upd_same, List.map_append, List.map_append]
      rfl
    generalize (upd (upd (upd H1 p3 (.lst ([V.int 82, .int 85, .int 76, .int 69] ++ (fixF n 6).map V.int))) p4 (.lst [V.int area])) p5 (.lst ([V.int 82, .int 85, .int 76, .int 69] ++ (fixF n 6).map V.int ++ [V.int area]))) = H5 at s5 e5 ⊢
    have l5 : ([82, 85, 76, 69] ++ fixF n 6 ++ [area]).length = 11 := by rw [List.length_append, List.length_append, fix_len]; rfl
    refine ⟨_, rfl, by show 1 ≤ sizeLine; decide, fun p6 n6 => ⟨_, rfl, p5, _, rfl, .inl (SqL.of (Same.new n6 _ _ e5)), _, _, rfl, rfl, _, 53, _, rfl, ?_, upd_same, by decide, by decide, by decide, fun p7 n7 => ?_⟩⟩
    · rw [List.length_map, l5]
      rfl
    refine ⟨p5, p7, _, _, rfl, rfl, Same.new n7 _ _ (Same.new n6 _ _ e5), upd_same, ?_, fun p8 n8 => ?_⟩
    · rw [List.length_map, l5]
      decide
    · refine q _ _ (s5.trans ((Same.new n6).trans ((Same.new n7).trans (Same.new n8)))) (Same.free (s5.trans ((Same.new n6).trans (Same.new n7))) n8) ?_
      rw [LI, upd_same]
      show some (HO.lst (_ ++ (List.replicate 53 [V.int 0]).flatten)) = _
      rw [repl0, ← List.map_append]
      rfl
theorem ok_rh {f : Addr} {fd : FuncData} (F : Fun K "read_head" "read_head" sread_head f fd) (T0 : Bl mg) (G0 : Gb K mg) (Dnumber_of : Kn P w K mg base 1 "number_of" ["data"] (spNo K)) (Dhead : Kn P w K mg base 2 "head" ["turn", "area"] spHead) : FnOk P w K mg base CX0 3 f fd ["sector"] (spRh K) := by
  refine F.ok scread_head (fun vs H Q E h => ?_) (fun cdv A outer s H vs Q E hr h => ?_)
  · obtain ⟨a, xs, rfl, _⟩ := h
    rfl
  · obtain ⟨a, xs, rfl, ha, hb, hl, q0, q1⟩ := h
    obtain ⟨t1, gTURN_BYTES⟩ := G0.turn
    obtain ⟨aM, oM, iM, nM, gM, lM, cM, dM, zM, vM⟩ := G0.mark
    have hM : ∀ H : Hp, SqT K H aM [V.int 82, .int 85, .int 76, .int 69] := fun H => .inr ⟨oM, iM, nM, lM, cM, dM, zM, vM⟩
    refine ⟨_, (pss_cons (ps_set (i := 1) scread_head.nd rfl (.inl rfl) (pe_callB call_len_seq (by rfl) T0.len PySem.boot_len (pa_cons (pe_glob (v := .ref aM) (by rfl) gM rfl) pa_nil)))
      (pss_cons (ps_set (i := 2) scread_head.nd rfl (.inl rfl) (pe_kn Dnumber_of hr (pa_cons (pe_slice sl_list (pv 0) (po_some (pv 1)) (po_some (pe_op op_add (pv 1) (pe_gi (by rfl) gTURN_BYTES)))) pa_nil)))
      (pss_cons (ps_set (i := 3) scread_head.nd rfl (.inl rfl) (pe_kn Dnumber_of hr (pa_cons (pe_slice sl_list (pv 0) (po_some (pe_op op_add (pv 1) (pe_gi (by rfl) gTURN_BYTES))) (po_some (pe_op op_add (pe_op op_add (pv 1) (pe_gi (by rfl) gTURN_BYTES)) pe_int))) pa_nil)))
      (pss_cons (ps_if (PW.pt (pw_or (pt_cmpR op_lt (pv 2) pe_int (nomark _)) (pw_or (pt_cmpR op_gt (pv 3) pe_int (nomark _)) (pw_or1 (pt_cmpR (op_neD (hu64 hr)) (pv 0) (pe_kn Dhead hr (pa_cons (pv 2) (pa_cons (pv 3) pa_nil))) (nomark _)))))) (pss_one (ps_ret pe_non)) pss_nil)
      (pss_one (ps_ret (pe_tup (pa_cons (pv 2) (pa_cons (pv 3) pa_nil))))))))), ?_⟩
    refine ⟨aM, _, rfl, .inr (hM H), ?_⟩
    refine ⟨_, rfl, _, rfl, 4, rfl, _, rfl, _, _, rfl, rfl, 10, rfl, a, _, rfl, ha.seq, fun p1 n1 => ?_⟩
    refine ⟨p1, (xs.drop 4).take 6, rfl, ?_, by rw [List.length_take]; omega, (hb.drop 4).take 6, fun H1 s1 => ?_⟩
    · rw [LI, upd_same, show (some 4 : Option Int) = some ((4 : Nat) : Int) from rfl, show (some 10 : Option Int) = some ((10 : Nat) : Int) from rfl, cut_mid, map_drop, map_take]
    have s1 := (Same.new n1).trans s1
    refine ⟨_, rfl, _, rfl, _, _, rfl, rfl, 10, rfl, _, rfl, _, _, rfl, rfl, _, _, rfl, rfl, 11, rfl, a, _, rfl, (ha.same s1).seq, fun p2 n2 => ?_⟩
    refine ⟨p2, (xs.drop 10).take 1, rfl, ?_, by rw [List.length_take]; omega, (hb.drop 10).take 1, fun H2 s2 => ?_⟩
    · rw [LI, upd_same, show (some 10 : Option Int) = some ((10 : Nat) : Int) from rfl, show (some 11 : Option Int) = some ((11 : Nat) : Int) from rfl, cut_mid, map_drop, map_take]
    have s2 := s1.trans ((Same.new n2).trans s2)
    have e : rhF xs = if numF ((xs.drop 4).take 6) < 1 ∨ 1 < numF ((xs.drop 10).take 1) ∨ xs ≠ headF (numF ((xs.drop 4).take 6)) (numF ((xs.drop 10).take 1)) then none else some (numF ((xs.drop 4).take 6), numF ((xs.drop 10).take 1)) := rfl
    generalize numF ((xs.drop 4).take 6) = t at e ⊢
    generalize numF ((xs.drop 10).take 1) = c at e ⊢
    refine ⟨_, rfl, _, _, rfl, rfl, _, rfl, ?_⟩
    refine ite2 (fun z => ?_) (fun z1 => ?_)
    · exact iteT (q0 (by rw [e, if_pos (.inl (of_decide_eq_true z))]) _ s2)
    refine ⟨_, rfl, _, _, rfl, rfl, _, rfl, ?_⟩
    refine ite2 (fun z => ?_) (fun z2 => ?_)
    · exact iteT (q0 (by rw [e, if_pos (.inr (.inl (of_decide_eq_true z)))]) _ s2)
    refine ⟨_, rfl, _, rfl, _, rfl, t, c, rfl, fun H3 p3 s3 n3 e3 => ?_⟩
    have s3 := s2.trans s3
    refine ⟨.list (xs.map PyData.int), .list ((headF t c).map PyData.int), .lst (s3.seq ha.seq) (intsD _), .lst e3.seq (intsD _), PySem.W.ke_shaped_ints _, PySem.W.ke_shaped_ints _, _, rfl, ?_⟩
    rw [PyData.eqv, eqvI]
    have z1 : ¬ t < 1 := fun z => z1 (decide_eq_true z)
    have z2 : ¬ 1 < c := fun z => z2 (decide_eq_true z)
    by_cases z : xs = headF t c
    · rw [decide_eq_true z]
      refine iteF ⟨_, rfl, _, rfl, by show 2 ≤ sizeLine; decide, fun p4 n4 => ?_⟩
      exact q1 t c (by rw [e, if_neg (fun h => by rcases h with h | h | h; exact z1 h; exact z2 h; exact h z)]) _ _ (s3.trans (Same.new n4)) upd_same
    · rw [decide_eq_false z]
      exact iteT (q0 (by rw [e, if_pos (.inr (.inr z))]) _ s3)
end
end K1
namespace Ow
open PySem PySem.Spec PyProof.Rows L2
theorem sl_list_K {X : Cx} {K : PySem.W.Frag} (e : X.K = K) : SlR X (rSlL K) := by
  subst e
  exact sl_list
theorem fitsL {x : Int} (h : 0 ≤ x) (h2 : x < 100000) : Builtin.Range.rangeFitsLong x = true := by
  unfold Builtin.Range.rangeFitsLong
  rw [decide_eq_true (show -(2 ^ 63) ≤ x by omega), decide_eq_true (show x < 2 ^ 63 by omega)]
  rfl
theorem rgC54 {n : Nat} (h : n ≤ 10000) : RgC 0 (n : Int) 54 ((n + 53) / 54) := by
  have z : Builtin.Range.rangeSize 0 (n : Int) 54 = ((n : Int) + 54 - 1) / 54 := rangeSize_pos (by decide) (by omega)
  refine ⟨by decide, by decide, ?_, by rw [z]; omega⟩
  unfold Builtin.Range.small
  rw [z, if_pos (by decide), fitsL (x := 0) (by decide) (by decide), fitsL (x := (n : Int)) (by omega) (by omega), fitsL (x := 54) (by decide) (by decide), fitsL (x := ((n : Int) + 54 - 1) / 54) (by omega) (by omega), fitsL (x := (n : Int) + (54 - 1)) (by omega) (by omega), Bool.or_true]
  rfl
end Ow
namespace K1
open PySem PySem.Spec PyProof.Rows L2 Ow Po Dd Bk
abbrev swrite_block : Stmt := topS 12
abbrev Nwrite_block : List Str := ["turn", "data", "told", "pieces", "front", "at", "piece"]
theorem scwrite_block : FnScope Nwrite_block ["turn", "data"] (defScope swrite_block) := ⟨rfl, rfl, rfl, by decide +kernel, rfl, by decide +kernel, by decide +kernel⟩
abbrev No : Addr → Prop := fun _ => False
theorem LL.no {av : Addr → Prop} {H : Hp} {a : Addr} {xss : List (List Int)} (h : LL av H a xss) : LL No H a xss := by
  obtain ⟨ts, e, l, g, _⟩ := h
  exact ⟨ts, e, l, g, fun _ _ z => z⟩
/-- a block: new rows, none of them before -/
def spWb : Sp := fun vs H Q _ => ∃ (turn : Int) (a : Addr) (data : List Int), vs = [.int turn, .ref a] ∧ LI H a data ∧ data.length ≤ 1000 ∧ ∀ H' l, Same H H' → H l = none → LL No H' l (blockF turn data) → Q (.ref l) H'
def spRb : Sp := fun vs H Q _ => ∃ (a : Addr) (xss : List (List Int)) (turn : Int), vs = [.ref a, .int turn] ∧ LL No H a xss ∧ xss.length ≤ 100 ∧ (∀ xs ∈ xss, By xs ∧ xs.length = 64) ∧ (readF xss turn = none → ∀ H', Same H H' → Q .non H') ∧
  ∀ ds m, readF xss turn = some (ds, m) → ∀ H' p l, Same H H' → H' p = some (.tup [.ref l, .int (m : Nat)]) → LI H' l ds → Q (.ref p) H'
theorem many_le {data : List Int} (h : data.length ≤ 1000) : manyF data ≤ 19 := by unfold manyF; rw [told_len]; omega
theorem cutL (xs : List Int) (j k : Nat) (u v : Int) (hu : u = (j : Nat)) (hv : v = (k : Nat)) : cutV (xs.map V.int) (some u) (some v) = ((xs.drop j).take (k - j)).map V.int := by
  subst hu
  subst hv
  rw [cut_mid, map_drop, map_take]
theorem gR_sec (turn : Int) (data : List Int) {i : Nat} (h : i < manyF data) : (blockF turn data)[i]? = some (secF turn data i) := by
  unfold blockF
  rw [List.getElem?_map, List.getElem?_range h]
  rfl
section
variable {P : Program} {w : World} {K : PySem.W.Frag} {mg : Str → Option Value} {base : Heap}
theorem ok_wb {f : Addr} {fd : FuncData} (F : Fun K "write_block" "write_block" swrite_block f fd) (T0 : Bl mg) (G0 : Gb K mg) (Dnumber_bytes : Kn P w K mg base 1 "number_bytes" ["number", "many"] spNb) : FnOk P w K mg base CX0 2 f fd ["turn", "data"] spWb := by
  refine F.ok scwrite_block (fun vs H Q E h => ?_) (fun cdv A outer s H vs Q E hr h => ?_)
  · obtain ⟨n, a, data, rfl, _⟩ := h
    rfl
  · obtain ⟨turn, a, data, rfl, ha, hl, q⟩ := h
    obtain ⟨t1, gTURN_BYTES⟩ := G0.turn
    obtain ⟨t2, gCOUNT_BYTES⟩ := G0.count
    obtain ⟨t3, gLENGTH_BYTES⟩ := G0.length
    obtain ⟨t4, gPIECE_BYTES⟩ := G0.piece
    refine ⟨_, (pss_cons (ps_set (i := 2) scwrite_block.nd rfl (.inr rfl) (pe_op op_cat (pe_kn Dnumber_bytes hr (pa_cons (pe_callB call_len_seq (by rfl) T0.len PySem.boot_len (pa_cons (pv 1) pa_nil)) (pa_cons (pe_gi (by rfl) gLENGTH_BYTES) pa_nil))) (pe_callTy call_list_of (by rfl) T0.list (by decide +kernel) (pa_cons (pv 1) pa_nil))))
      (pss_cons (ps_setLc (i := 3) (own := [("at", 5)]) (g := gName 5) (tt := tYes) rfl scwrite_block.nd rfl rfl (sw_true rfl rfl rfl (by decide +kernel)) (pi_range3 (by rfl) T0.range (pa_cons pe_int (pa_cons (pe_callB call_len_seq (by rfl) T0.len PySem.boot_len (pa_cons (pv 2) pa_nil)) (pa_cons (pe_gi (by rfl) gPIECE_BYTES) pa_nil)))) (blkOk_by (own := [("at", 5)]) (N := Nwrite_block) (sc := defScope swrite_block) (by decide +kernel)) (fun _ _ _ _ _ => pg_name (i := 5) scwrite_block.nd rfl (Or.inl rfl)) (fun _ _ _ _ _ => pts_nil) (fun _ _ _ _ _ => (pe_slice (sl_list_K rfl) (pv 2) (po_some (pv 5)) (po_some (pe_op op_add (pv 5) (pe_gi (by rfl) gPIECE_BYTES))))))
      (pss_cons (ps_set (i := 4) scwrite_block.nd rfl (.inr rfl) (pe_op op_cat (pe_kn Dnumber_bytes hr (pa_cons (pv 0) (pa_cons (pe_gi (by rfl) gTURN_BYTES) pa_nil))) (pe_kn Dnumber_bytes hr (pa_cons (pe_callB call_len_seq (by rfl) T0.len PySem.boot_len (pa_cons (pv 3) pa_nil)) (pa_cons (pe_gi (by rfl) gCOUNT_BYTES) pa_nil)))))
      (pss_one (ps_ret (pe_lc (own := [("piece", 6)]) (g := gName 6) (tt := tYes) rfl scwrite_block.nd (pi_list (pv 3)) (blkOk_by (own := [("piece", 6)]) (N := Nwrite_block) (sc := defScope swrite_block) (by decide +kernel)) (fun _ _ _ _ _ => pg_name (i := 6) scwrite_block.nd rfl (Or.inl rfl)) (fun _ _ _ _ _ => pts_nil) (fun _ _ _ _ _ => (pe_op op_cat (pe_op op_cat (pv 4) (pv 6)) (pe_op op_rep (pe_lst (pa_cons pe_int pa_nil)) (pe_op op_sub (pe_gi (by rfl) gPIECE_BYTES) (pe_callB (call_len_K rfl) (by rfl) T0.len PySem.boot_len (pa_cons (pv 6) pa_nil)))))))))))), ?_⟩
    refine ⟨_, rfl, a, _, rfl, .inl ha.seq, (data.length : Nat), 4, by rw [List.length_map]; rfl, by decide, fun H1 p1 s1 n1 e1 => ?_⟩
    refine ⟨_, rfl, a, _, rfl, .inl (ha.same s1).seq, fun p2 n2 => ⟨p1, p2, _, _, rfl, rfl, Same.new n2 _ _ e1, upd_same, ?_, fun p3 n3 => ?_⟩⟩
    · rw [List.length_map, List.length_map, fix_len]
      exact Nat.le_of_lt (small (n := 4 + data.length) (m := 2000) (by omega) (by decide))
    have s3 : Same H (upd (upd H1 p2 (.lst (data.map V.int))) p3 (.lst ((fixF (data.length : Nat) 4).map V.int ++ data.map V.int))) := s1.trans ((Same.new n2).trans (Same.new n3))
    have e3 : LI (upd (upd H1 p2 (.lst (data.map V.int))) p3 (.lst ((fixF (data.length : Nat) 4).map V.int ++ data.map V.int))) p3 (toldF data) := by
      rw [LI, upd_same, ← List.map_append]
      rfl
    generalize (upd (upd H1 p2 (.lst (data.map V.int))) p3 (.lst ((fixF (data.length : Nat) 4).map V.int ++ data.map V.int))) = H3 at s3 e3 ⊢
    have lt := told_len data
    have hm := many_le hl
    -- pieces
    refine ⟨_, rfl, p3, _, rfl, .inl e3.seq, 0, _, 54, manyF data, rfl, ?_, fun D nD => ?_⟩
    · rw [List.length_map]
      exact rgC54 (by omega)
    refine lc_newD (walk_rangeC (n := manyF data)) (fun i => (pieceF data i).map V.int) (small (Nat.le_trans hm (by decide)) (Nat.le_refl _)) nD (fun _ _ => trivial) (fun i x H4 H4' N hi s4 yy fin => ?_) fun H4 ts s4 eD lD gD _ => ?_
    · obtain ⟨rfl, ex⟩ := yy
      have ex : x = V.int ((54 * i : Nat) : Int) := by
        rw [ex]
        refine congrArg V.int ?_
        omega
      subst ex
      refine ⟨rfl, _, rfl, _, rfl, _, rfl, _, rfl, _, _, rfl, rfl, _, rfl, p3, _, rfl, (e3.same s4).seq, fun p np => ?_⟩
      refine fin _ p (Same.new np) np ?_
      rw [upd_same, cutL _ (54 * i) (54 * i + 54) _ _ rfl (by omega), Nat.add_sub_cancel_left]
      rfl
    have hp : LL No H4 D ((List.range (manyF data)).map (pieceF data)) := by
      refine ⟨ts, eD, by rw [lD, List.length_map, List.length_range], fun i t xs e1 e2 => ?_, fun _ _ z => z⟩
      obtain ⟨_, _, g⟩ := gD i t e1
      rw [List.getElem?_map, List.getElem?_range (by rw [← lD]; exact (List.getElem?_eq_some_iff.mp e1).1)] at e2
      cases e2
      exact g
    have s4' := s3.trans s4
    clear eD lD gD
    -- front
    refine ⟨_, rfl, turn, 6, rfl, by decide, fun H5 p5 s5 n5 e5 => ?_⟩
    obtain ⟨ts, eD, lD, gD, nv⟩ := hp.same s5
    rw [List.length_map, List.length_range] at lD
    refine ⟨_, rfl, D, _, rfl, .inl (SqL.of eD), (manyF data : Nat), 4, by rw [List.length_map, lD]; rfl, by decide, fun H6 p6 s6 n6 e6 => ?_⟩
    refine ⟨p5, p6, _, _, rfl, rfl, s6 _ _ e5, e6, by rw [List.length_map, List.length_map, fix_len, fix_len]; show 6 + 4 ≤ sizeLine; decide, fun p7 n7 => ?_⟩
    have s7 := s5.trans (s6.trans (Same.new (o := .lst ((fixF turn 6).map V.int ++ (fixF (manyF data : Nat) 4).map V.int)) n7))
    have e7 : LI (upd H6 p7 (.lst ((fixF turn 6).map V.int ++ (fixF (manyF data : Nat) 4).map V.int))) p7 (fixF turn 6 ++ fixF (manyF data : Nat) 4) := by
      rw [LI, upd_same, ← List.map_append]
    have hp7 := hp.same s7
    clear nv eD lD gD
    clear ts
    generalize (upd H6 p7 (.lst ((fixF turn 6).map V.int ++ (fixF (manyF data : Nat) 4).map V.int))) = H7 at s7 e7 hp7 ⊢
    have s7' := s4'.trans s7
    obtain ⟨ts, eD, lD, gD, _⟩ := hp7.ex
    rw [List.length_map, List.length_range] at lD
    refine ⟨_, rfl, D, rfl, ⟨_, SqL.of eD⟩, fun B nB => ?_⟩
    refine lc_newD (walk_list (K := K) (a := D) (xs := ts.map V.ref)) (fun i => (secF turn data i).map V.int) (by rw [List.length_map, lD]; exact small (Nat.le_trans hm (by decide)) (Nat.le_refl _)) nB (fun H s => s.seq (SqL.of eD)) (fun i x H8 H8' N hi s8 yy fin => ?_) fun H8 us s8 eB lB gB _ => ?_
    · obtain ⟨rfl, ex⟩ := yy
      rw [List.length_map, lD] at hi
      rw [List.getElem?_map] at ex
      obtain ⟨t, et, rfl⟩ := Option.map_eq_some_iff.mp ex
      have hg := (gD i t (pieceF data i) et (by rw [List.getElem?_map, List.getElem?_range hi]; rfl)).same s8
      have pl := piece_len data i
      refine ⟨rfl, _, rfl, _, rfl, p7, t, _, _, rfl, rfl, s8 _ _ e7, hg, ?_, fun q1 m1 => ?_⟩
      · rw [List.length_map, List.length_map, List.length_append, fix_len, fix_len]
        exact Nat.le_of_lt (small (n := 6 + 4 + (pieceF data i).length) (m := 100) (by omega) (by decide))
      refine ⟨by show 1 ≤ sizeLine; decide, fun q2 m2 => ?_⟩
      refine ⟨_, rfl, t, _, rfl, .inl ((hg.same (Same.new m1)).same (Same.new m2)).seq, _, _, rfl, rfl, _, ((54 - (pieceF data i).length : Nat) : Int), _, rfl, ?_, upd_same, by omega, by omega, ?_, fun q3 m3 => ?_⟩
      · rw [List.length_map]
        refine congrArg V.int ?_
        omega
      · show 1 * _ ≤ sizeLine
        exact Nat.le_of_lt (small (m := 100) (by omega) (by decide))
      refine ⟨q1, q3, _, _, rfl, rfl, Same.new m3 _ _ (Same.new m2 _ _ upd_same), upd_same, ?_, fun q4 m4 => ?_⟩
      · rw [Int.toNat_natCast, repl0, List.length_append, List.length_map, List.length_map, List.length_map, List.length_append, fix_len, fix_len, List.length_replicate]
        exact Nat.le_of_lt (small (m := 100) (by omega) (by decide))
      · refine fin _ q4 ((Same.new m1).trans ((Same.new m2).trans ((Same.new m3).trans (Same.new m4)))) (Same.free ((Same.new m1).trans ((Same.new m2).trans (Same.new m3))) m4) ?_
        rw [upd_same, Int.toNat_natCast, repl0, ← List.map_append, ← List.map_append]
        rfl
    · rw [List.length_map] at lB
      refine q H8 B (s7'.trans s8) (Same.free s7' nB) ⟨us, eB, by rw [lB, lD, block_len], fun i t xs e1 e2 => ?_, fun _ _ z => z⟩
      obtain ⟨_, _, g⟩ := gB i t e1
      rw [gR_sec turn data (by rw [← lD, ← lB]; exact (List.getElem?_eq_some_iff.mp e1).1)] at e2
      cases e2
      exact g
end
end K1
namespace K1
open PySem PySem.Spec PyProof.Rows L2 Ow Po Dd Bk
abbrev sread_block : Stmt := topS 13
abbrev Nread_block : List Str := ["sectors", "turn", "many", "told", "length", "sector", "byte"]
theorem scread_block : FnScope Nread_block ["sectors", "turn"] (defScope sread_block) := ⟨rfl, rfl, rfl, by decide +kernel, rfl, by decide +kernel, by decide +kernel⟩
abbrev s_law_block : Stmt := topS 23
abbrev N_law_block : List Str := ["turn", "data", "rest", "count", "sectors", "k", "piece"]
theorem sc_law_block : FnScope N_law_block ["turn", "data"] (defScope s_law_block) := ⟨rfl, rfl, rfl, by decide +kernel, rfl, by decide +kernel, by decide +kernel⟩
theorem mapSelf (zs : List Int) : (List.range zs.length).map (fun j => V.int (gI zs j)) = zs.map V.int := by
  have e := mk_self zs
  unfold mk at e
  have h : (List.range zs.length).map (fun j => V.int (gI zs j)) = ((List.range zs.length).map (gI zs)).map V.int := by rw [List.map_map]; rfl
  rw [h, e]
def body (xss : List (List Int)) (i : Nat) : List Int := ((xss.take i).map fun r => r.drop 10).flatten
theorem body_succ {xss : List (List Int)} {i : Nat} {r : List Int} (e : xss[i]? = some r) : body xss (i + 1) = body xss i ++ r.drop 10 := by
  unfold body
  rw [List.take_succ, e, List.map_append, List.flatten_append]
  simp
theorem body_len {xss : List (List Int)} (h : ∀ r ∈ xss, By r ∧ r.length = 64) : ∀ i, i ≤ xss.length → (body xss i).length = 54 * i
  | 0, _ => by simp [body]
  | i + 1, hi => by
    have e : xss[i]? = some xss[i] := List.getElem?_eq_getElem (show i < xss.length by omega)
    rw [body_succ e, List.length_append, body_len h i (by omega), List.length_drop, (h _ (List.mem_of_getElem? e)).2]
    omega
theorem body_by {xss : List (List Int)} (h : ∀ r ∈ xss, By r ∧ r.length = 64) (i : Nat) : By (body xss i) := fun b m => by
  unfold body at m
  obtain ⟨l, ml, mb⟩ := List.mem_flatten.mp m
  obtain ⟨r, mr, rfl⟩ := List.mem_map.mp ml
  exact ((h r (List.mem_of_mem_take mr)).1.drop 10) b mb
/-- readF, step by step -/
theorem readS {xss : List (List Int)} {x : List Int} {xs : List (List Int)} {turn : Int} {m : Nat} (ex : xss = x :: xs) (hm : numF ((x.drop 6).take 4) = (m : Int)) (h1 : 1 ≤ m) (h2 : m ≤ xss.length) : readF xss turn =
    if ((xss.take m).any fun r => decide (turnF r ≠ turn)) = true then none else
    if (((body xss m).length : Nat) : Int) - 4 < numF ((body xss m).take 4) then none else some (((body xss m).drop 4).take (numF ((body xss m).take 4)).toNat, m) := by
  subst ex
  rw [read_x hm, if_neg (by omega)]
  rfl
theorem map_range_getD (rs : List (List Int)) (f : List Int → Bool) : (List.range rs.length).map (fun i => V.bl (f (gR rs i))) = (rs.map f).map V.bl := by
  refine List.ext_getElem? fun i => ?_
  rw [List.getElem?_map, List.getElem?_map, List.getElem?_map]
  rcases Nat.lt_or_ge i rs.length with z | z
  · rw [List.getElem?_range z, at_gR z]
    rfl
  · rw [List.getElem?_eq_none (by rw [List.length_range]; exact z), List.getElem?_eq_none z]
    rfl
section
variable {P : Program} {w : World} {K : PySem.W.Frag} {mg : Str → Option Value} {base : Heap}
theorem ok_lb {f : Addr} {fd : FuncData} (F : Fun K "_law_block" "_law_block" s_law_block f fd) (T0 : Bl mg) (D_law_fixed : Kn P w K mg base 1 "_law_fixed" ["number", "count"] spFixed) : FnOk P w K mg base CX0 2 f fd ["turn", "data"] spWb := by
  refine F.ok sc_law_block (fun vs H Q E h => ?_) (fun cdv A outer s H vs Q E hr h => ?_)
  · obtain ⟨n, a, data, rfl, _⟩ := h
    rfl
  · obtain ⟨turn, a, data, rfl, ha, hl, q⟩ := h
    refine ⟨_, (pss_cons (ps_set (i := 2) sc_law_block.nd rfl (.inl rfl) (pe_op op_cat (pe_kn D_law_fixed hr (pa_cons (pe_callB call_len_seq (by rfl) T0.len PySem.boot_len (pa_cons (pv 1) pa_nil)) (pa_cons pe_int pa_nil))) (pv 1)))
      (pss_cons (ps_set (i := 3) sc_law_block.nd rfl (.inl rfl) (pe_op op_fdiv (pe_op op_add (pe_callB call_len_seq (by rfl) T0.len PySem.boot_len (pa_cons (pv 2) pa_nil)) pe_int) pe_int))
      (pss_cons (ps_set (i := 4) sc_law_block.nd rfl (.inl rfl) (pe_lst pa_nil))
      (pss_cons (ps_for PassesOwn.never rfl (pi_range1 (by rfl) T0.range (pa_cons (pv 3) pa_nil)) (pg_name (i := 5) sc_law_block.nd rfl (.inl rfl)) (pss_cons (ps_set (i := 6) sc_law_block.nd rfl (.inl rfl) (pe_slice sl_list (pv 2) (po_some (pe_op op_mul pe_int (pv 5))) (po_some (pe_op op_add (pe_op op_mul pe_int (pv 5)) pe_int))))
      (pss_one (ps_expr (pe_bm PySem.F.plainAttrs_list PySem.F.slot_list_append PySem.F.type_list_append mt_append (pv 4) (pa_cons (pe_op op_cat (pe_op op_cat (pe_op op_cat (pe_kn D_law_fixed hr (pa_cons (pv 0) (pa_cons pe_int pa_nil))) (pe_kn D_law_fixed hr (pa_cons (pv 3) (pa_cons pe_int pa_nil)))) (pv 6)) (pe_op op_rep (pe_lst (pa_cons pe_int pa_nil)) (pe_op op_sub pe_int (pe_callB call_len_seq (by rfl) T0.len PySem.boot_len (pa_cons (pv 6) pa_nil))))) pa_nil))))))
      (pss_one (ps_ret (pv 4))))))), ?_⟩
    refine ⟨_, rfl, a, _, rfl, .inl ha.seq, (data.length : Nat), 4, by rw [List.length_map]; rfl, by decide, fun H1 p1 s1 n1 e1 => ?_⟩
    refine ⟨_, rfl, p1, a, _, _, rfl, rfl, e1, ha.same s1, ?_, fun p3 n3 => ?_⟩
    · rw [List.length_map, List.length_map, fix_len]
      exact Nat.le_of_lt (small (n := 4 + data.length) (m := 2000) (by omega) (by decide))
    have s3 : Same H (upd H1 p3 (.lst ((fixF (data.length : Nat) 4).map V.int ++ data.map V.int))) := s1.trans (Same.new n3)
    have e3 : LI (upd H1 p3 (.lst ((fixF (data.length : Nat) 4).map V.int ++ data.map V.int))) p3 (toldF data) := by
      rw [LI, upd_same, ← List.map_append]
      rfl
    generalize (upd H1 p3 (.lst ((fixF (data.length : Nat) 4).map V.int ++ data.map V.int))) = H3 at s3 e3 ⊢
    have lt := told_len data
    have hm := many_le hl
    have em : (((toldF data).length : Nat) : Int) + 53 = ((((toldF data).length + 53 : Nat)) : Int) := by omega
    refine ⟨_, rfl, p3, _, rfl, .inl e3.seq, _, _, rfl, rfl, _, _, rfl, rfl, ⟨by decide, by decide⟩, ?_⟩
    rw [show ((fun i j : Int => V.int (i / j)) (((((toldF data).map V.int).length : Nat) : Int) + 53) 54) = V.int ((manyF data : Nat) : Int) from congrArg V.int (by rw [List.length_map]; unfold manyF; omega)]
    refine ⟨by show 0 ≤ sizeLine; decide, fun l nl => ⟨_, rfl, _, rfl, by omega, by omega, ?_⟩⟩
    refine for_range (lo := 0) (n := manyF data) (fun k σ H' => ∃ (v5 v6 : Option V) (ts : List Addr), σ = [some (.int turn), some (.ref a), some (.ref p3), some (.int (manyF data : Nat)), some (.ref l), v5, v6] ∧ Same H3 H' ∧ H' l = some (.lst (ts.map V.ref)) ∧ ts.length = k ∧ ∀ (i : Nat) (t : Addr), ts[i]? = some t → t ≠ l ∧ LI H' t (secF turn data i)) ⟨none, none, [], rfl, Same.new nl, upd_same, rfl, fun i t e => by simp at e⟩ ?_ ?_
    · rintro k σ H4 hk ⟨v5, v6, ts, rfl, s4, e4, l4, g4⟩
      refine ⟨_, rfl, _, rfl, _, _, rfl, rfl, .inl ⟨by decide, by decide⟩, _, rfl, _, rfl, _, _, rfl, rfl, .inl ⟨by decide, by decide⟩, _, _, rfl, rfl, _, rfl, p3, _, rfl, (e3.same s4).seq, fun p np => ?_⟩
      have e5 : LI (upd H4 p (.lst (cutV ((toldF data).map V.int) (some (54 * (0 + (k : Int)))) (some (54 * (0 + (k : Int)) + 54))))) p (pieceF data k) := by
        rw [LI, upd_same, cutL _ (54 * k) (54 * k + 54) _ _ (by omega) (by omega), Nat.add_sub_cancel_left]
        rfl
      have s5 : Same H4 (upd H4 p (.lst (cutV ((toldF data).map V.int) (some (54 * (0 + (k : Int)))) (some (54 * (0 + (k : Int)) + 54))))) := Same.new np
      generalize (upd H4 p (.lst (cutV ((toldF data).map V.int) (some (54 * (0 + (k : Int)))) (some (54 * (0 + (k : Int)) + 54))))) = H5 at e5 s5 ⊢
      have pl := piece_len data k
      refine ⟨_, rfl, .inl ⟨rfl, _, SqL.of (s5 _ _ e4)⟩, _, rfl, turn, 6, rfl, by decide, fun H6 p6 s6 n6 e6 => ⟨_, rfl, (manyF data : Nat), 4, rfl, by decide, fun H7 p7 s7 n7 e7 => ⟨p6, p7, _, _, rfl, rfl, s7 _ _ e6, e7, by rw [List.length_map, List.length_map, fix_len, fix_len]; show 6 + 4 ≤ sizeLine; decide, fun p8 n8 => ?_⟩⟩⟩
      have e8 : LI (upd H7 p8 (.lst ((fixF turn 6).map V.int ++ (fixF (manyF data : Nat) 4).map V.int))) p8 (fixF turn 6 ++ fixF (manyF data : Nat) 4) := by
        rw [LI, upd_same, ← List.map_append]
      have s8 : Same H5 (upd H7 p8 (.lst ((fixF turn 6).map V.int ++ (fixF (manyF data : Nat) 4).map V.int))) := s6.trans (s7.trans (Same.new n8))
      generalize (upd H7 p8 (.lst ((fixF turn 6).map V.int ++ (fixF (manyF data : Nat) 4).map V.int))) = H8 at e8 s8 ⊢
      refine ⟨_, rfl, p8, p, _, _, rfl, rfl, e8, e5.same s8, ?_, fun q1 m1 => ?_⟩
      · rw [List.length_map, List.length_map, List.length_append, fix_len, fix_len]
        exact Nat.le_of_lt (small (n := 6 + 4 + (pieceF data k).length) (m := 100) (by omega) (by decide))
      refine ⟨by show 1 ≤ sizeLine; decide, fun q2 m2 => ?_⟩
      refine ⟨_, rfl, p, _, rfl, .inl (((e5.same s8).same (Same.new m1)).same (Same.new m2)).seq, _, _, rfl, rfl, _, ((54 - (pieceF data k).length : Nat) : Int), _, rfl, ?_, upd_same, by omega, by omega, ?_, fun q3 m3 => ?_⟩
      · rw [List.length_map]
        refine congrArg V.int ?_
        omega
      · show 1 * _ ≤ sizeLine
        exact Nat.le_of_lt (small (m := 100) (by omega) (by decide))
      refine ⟨q1, q3, _, _, rfl, rfl, Same.new m3 _ _ (Same.new m2 _ _ upd_same), upd_same, ?_, fun q4 m4 => ?_⟩
      · rw [Int.toNat_natCast, repl0, List.length_append, List.length_map, List.length_map, List.length_map, List.length_append, fix_len, fix_len, List.length_replicate]
        exact Nat.le_of_lt (small (m := 100) (by omega) (by decide))
      have s9 := s5.trans (s8.trans ((Same.new (o := .lst ((fixF turn 6 ++ fixF (manyF data : Nat) 4).map V.int ++ (pieceF data k).map V.int)) m1).trans ((Same.new (o := .lst [V.int 0]) m2).trans ((Same.new (o := .lst (List.replicate (((54 - (pieceF data k).length : Nat) : Int)).toNat [V.int 0]).flatten) m3).trans (Same.new (o := .lst ((fixF turn 6 ++ fixF (manyF data : Nat) 4).map V.int ++ (pieceF data k).map V.int ++ (List.replicate (((54 - (pieceF data k).length : Nat) : Int)).toNat [V.int 0]).flatten)) m4)))))
      have e9 : LI (upd (upd (upd (upd H8 q1 (.lst ((fixF turn 6 ++ fixF (manyF data : Nat) 4).map V.int ++ (pieceF data k).map V.int))) q2 (.lst [V.int 0])) q3 (.lst (List.replicate (((54 - (pieceF data k).length : Nat) : Int)).toNat [V.int 0]).flatten)) q4 (.lst ((fixF turn 6 ++ fixF (manyF data : Nat) 4).map V.int ++ (pieceF data k).map V.int ++ (List.replicate (((54 - (pieceF data k).length : Nat) : Int)).toNat [V.int 0]).flatten))) q4 (secF turn data k) := by
        rw [LI, upd_same, Int.toNat_natCast, repl0, ← List.map_append, ← List.map_append]
        rfl
      have n9 : H4 q4 = none := Same.free (s5.trans (s8.trans ((Same.new m1).trans ((Same.new m2).trans (Same.new m3))))) m4
      generalize (upd (upd (upd (upd H8 q1 (.lst ((fixF turn 6 ++ fixF (manyF data : Nat) 4).map V.int ++ (pieceF data k).map V.int))) q2 (.lst [V.int 0])) q3 (.lst (List.replicate (((54 - (pieceF data k).length : Nat) : Int)).toNat [V.int 0]).flatten)) q4 (.lst ((fixF turn 6 ++ fixF (manyF data : Nat) 4).map V.int ++ (pieceF data k).map V.int ++ (List.replicate (((54 - (pieceF data k).length : Nat) : Int)).toNat [V.int 0]).flatten))) = H9 at s9 e9 ⊢
      have ql : q4 ≠ l := fun z => by rw [z, e4] at n9; cases n9
      refine ⟨l, _, _, rfl, rfl, s9 _ _ e4, by rw [List.length_map, l4]; exact small (Nat.le_trans (Nat.le_of_lt hk) (Nat.le_trans hm (by decide))) (Nat.le_refl _), some (.int (0 + (k : Nat))), some (.ref p), ts ++ [q4], rfl, Same.over (s4.trans s9) nl, by rw [upd_same, List.map_append]; rfl, by rw [List.length_append, l4]; rfl, fun i t ei => ?_⟩
      rcases Nat.lt_trichotomy i ts.length with z | z | z
      · rw [List.getElem?_append_left z] at ei
        obtain ⟨f1, f2⟩ := g4 i t ei
        exact ⟨f1, by rw [LI, upd_ne f1]; exact f2.same s9⟩
      · subst z
        have e2 : q4 = t := by simpa using ei
        subst e2
        refine ⟨ql, by rw [LI, upd_ne ql, l4]; exact e9⟩
      · rw [List.getElem?_eq_none (by rw [List.length_append, List.length_singleton]; omega)] at ei
        cases ei
    · rintro σ H4 ⟨v5, v6, ts, rfl, s4, e4, l4, g4⟩
      refine ⟨_, rfl, q H4 l (s3.trans s4) (Same.free s3 nl) ⟨ts, e4, by rw [l4, block_len], fun i t xs e1 e2 => ?_, fun _ _ z => z⟩⟩
      rw [gR_sec turn data (by rw [← l4]; exact (List.getElem?_eq_some_iff.mp e1).1)] at e2
      cases e2
      exact (g4 i t e1).2
theorem ok_rb {f : Addr} {fd : FuncData} (F : Fun K "read_block" "read_block" sread_block f fd) (T0 : Bl mg) (G0 : Gb K mg) (Dnumber_of : Kn P w K mg base 1 "number_of" ["data"] (spNo K)) (Dturn_of : Kn P w K mg base 2 "turn_of" ["sector"] (spTo K)) : FnOk P w K mg base CX0 3 f fd ["sectors", "turn"] spRb := by
  refine F.ok scread_block (fun vs H Q E h => ?_) (fun cdv A outer s H vs Q E hr h => ?_)
  · obtain ⟨a, xss, turn, rfl, _⟩ := h
    rfl
  · obtain ⟨a, xss, turn, rfl, ha, hl, hb, q0, q1⟩ := h
    obtain ⟨t1, gTURN_BYTES⟩ := G0.turn
    obtain ⟨t2, gFRONT_BYTES⟩ := G0.front
    obtain ⟨t3, gLENGTH_BYTES⟩ := G0.length
    refine ⟨_, (pss_cons (ps_if (pt_not (pt_truth (pv 0) (fun _ => rfl))) (pss_one (ps_ret pe_non)) pss_nil)
      (pss_cons (ps_set (i := 2) scread_block.nd rfl (.inl rfl) (pe_kn Dnumber_of hr (pa_cons (pe_slice sl_list (pe_ix ix_list (pv 0) pe_int (fun _ _ => rfl)) (po_some (pe_gi (by rfl) gTURN_BYTES)) (po_some (pe_gi (by rfl) gFRONT_BYTES))) pa_nil)))
      (pss_cons (ps_if (PW.pt (pw_or (pt_cmpR op_lt (pv 2) pe_int (nomark _)) (pw_or1 (pt_cmpR op_gt (pv 2) (pe_callB call_len_seq (by rfl) T0.len PySem.boot_len (pa_cons (pv 0) pa_nil)) (nomark _))))) (pss_one (ps_ret pe_non)) pss_nil)
      (pss_cons (ps_if (pt_val (pe_callB (cr_any rfl) (by rfl) T0.any (by decide +kernel) (pa_cons (pe_lc (own := [("sector", 5)]) (g := gName 5) (tt := tYes) rfl scread_block.nd (pi_list (pe_slice sl_list (pv 0) po_none (po_some (pv 2)))) (blkOk_by (own := [("sector", 5)]) (N := Nread_block) (sc := defScope sread_block) (by decide +kernel)) (fun _ _ _ _ _ => pg_name (i := 5) scread_block.nd rfl (Or.inl rfl)) (fun _ _ _ _ _ => pts_nil) (fun _ _ _ _ _ => (pe_cmpR op_ne (pe_kn Dturn_of hr (pa_cons (pv 5) pa_nil)) (pv 1) (nomark _)))) pa_nil))) (pss_one (ps_ret pe_non)) pss_nil)
      (pss_cons (ps_setLc2 (i := 3) (own := [("sector", 5), ("byte", 6)]) (vs1 := [6]) (g := gName 5) (tt := tYes) (g1 := gName 6) (tt1 := tYes) rfl scread_block.nd rfl rfl (sw_true rfl rfl rfl (by decide +kernel)) (pi_list (pe_slice sl_list (pv 0) po_none (po_some (pv 2)))) (blkOk_by (own := [("sector", 5), ("byte", 6)]) (N := Nread_block) (sc := defScope sread_block) (by decide +kernel)) (by decide) (fun _ _ _ _ _ => pg_name (i := 5) scread_block.nd rfl (Or.inl rfl)) (fun _ _ _ _ _ => pts_nil) (fun _ _ _ _ _ => (pi_list_K (K := K) rfl (pe_slice (sl_list_K (K := K) rfl) (pv 5) (po_some (pe_gi (by rfl) gFRONT_BYTES)) po_none))) (fun _ _ _ _ _ => pg_name (i := 6) scread_block.nd rfl (Or.inl rfl)) (fun _ _ _ _ _ => pts_nil) (fun _ _ _ _ _ => (pv 6)))
      (pss_cons (ps_set (i := 4) scread_block.nd rfl (.inl rfl) (pe_kn Dnumber_of hr (pa_cons (pe_slice sl_list (pv 3) po_none (po_some (pe_gi (by rfl) gLENGTH_BYTES))) pa_nil)))
      (pss_cons (ps_if (pt_cmpR op_gt (pv 4) (pe_op op_sub (pe_callB call_len_seq (by rfl) T0.len PySem.boot_len (pa_cons (pv 3) pa_nil)) (pe_gi (by rfl) gLENGTH_BYTES)) (nomark _)) (pss_one (ps_ret pe_non)) pss_nil)
      (pss_one (ps_ret (pe_tup (pa_cons (pe_slice sl_list (pv 3) (po_some (pe_gi (by rfl) gLENGTH_BYTES)) (po_some (pe_op op_add (pe_gi (by rfl) gLENGTH_BYTES) (pv 4)))) (pa_cons (pv 2) pa_nil)))))))))))), ?_⟩
    obtain ⟨ts, ea, la, ga, _⟩ := ha.ex
    refine ⟨_, rfl, _, .inl ⟨_, SqL.of ea, rfl⟩, ?_⟩
    cases xss with
    | nil =>
      have : ts = [] := List.length_eq_zero_iff.mp la
      subst this
      exact iteT (q0 rfl _ (Same.refl _))
    | cons x xs =>
    obtain ⟨t0, tr, rfl⟩ : ∃ t0 tr, ts = t0 :: tr := by
      cases ts with
      | nil => cases la
      | cons t0 tr => exact ⟨t0, tr, rfl⟩
    refine iteF ?_
    have hx := ga 0 t0 x rfl rfl
    have bx := hb x List.mem_cons_self
    refine ⟨_, rfl, a, _, _, _, rfl, rfl, SqL.of ea, atI_nat (j := 0) rfl, _, rfl, _, rfl, t0, _, rfl, hx.seq, fun p1 n1 => ?_⟩
    refine ⟨p1, (x.drop 6).take 4, rfl, ?_, by rw [List.length_take]; omega, (bx.1.drop 6).take 4, fun H1 s1 => ?_⟩
    · rw [LI, upd_same, cutL x 6 10 6 10 rfl rfl]
    have s1 := (Same.new n1).trans s1
    obtain ⟨m, em⟩ : ∃ m : Nat, numF ((x.drop 6).take 4) = (m : Int) := ⟨(numF ((x.drop 6).take 4)).toNat, by have := ((bx.1.drop 6).take 4).nn; omega⟩
    rw [em]
    refine ⟨_, rfl, _, _, rfl, rfl, _, rfl, ?_⟩
    refine ite2 (fun z => ?_) (fun z1 => ?_)
    · have z := of_decide_eq_true z
      exact iteT (q0 (read_few em (.inl (by omega))) _ s1)
    have z1 : 1 ≤ m := by
      have : ¬ (m : Int) < 1 := fun z => z1 (decide_eq_true z)
      omega
    refine ⟨_, rfl, _, rfl, a, _, rfl, .inl (s1.seq (SqL.of ea)), _, _, rfl, rfl, _, rfl, ?_⟩
    rw [List.length_map, la]
    refine ite2 (fun z => ?_) (fun z2 => ?_)
    · have z := of_decide_eq_true z
      exact q0 (read_few em (.inr (by omega))) _ s1
    have z2 : m ≤ (x :: xs).length := by
      have : ¬ (((x :: xs).length : Nat) : Int) < (m : Int) := fun z => z2 (decide_eq_true z)
      omega
    have R := readS (xss := x :: xs) (turn := turn) rfl em z1 z2
    have lm : ((x :: xs).take m).length = m := by rw [List.length_take]; omega
    have m100 : m ≤ 100 := Nat.le_trans z2 hl
    -- the turns
    have tl : ((t0 :: tr).take m).length = m := by rw [List.length_take, la]; omega
    have cm : cutV ((t0 :: tr).map V.ref) none (some (m : Int)) = ((t0 :: tr).take m).map V.ref := by rw [cut_to, List.map_take]
    have gm : ∀ (i : Nat) (v : V), (((t0 :: tr).take m).map V.ref)[i]? = some v → i < m ∧ ∃ t r, v = .ref t ∧ (x :: xs)[i]? = some r ∧ ((x :: xs).take m)[i]? = some r ∧ LI H t r ∧ By r ∧ r.length = 64 := fun i v e => by
      rw [List.getElem?_map] at e
      obtain ⟨t, et, rfl⟩ := Option.map_eq_some_iff.mp e
      have hi := (List.getElem?_eq_some_iff.mp et).1
      rw [tl] at hi
      have et2 : (t0 :: tr)[i]? = some t := by rw [List.getElem?_take_of_lt hi] at et; exact et
      have er : (x :: xs)[i]? = some (x :: xs)[i] := List.getElem?_eq_getElem (show i < (x :: xs).length by omega)
      exact ⟨hi, t, _, rfl, er, by rw [List.getElem?_take_of_lt hi]; exact er, ga i t _ et2 er, hb _ (List.mem_of_getElem? er)⟩
    refine ⟨_, rfl, _, rfl, _, rfl, a, _, rfl, s1.seq (SqL.of ea), fun p2 n2 => ?_⟩
    rw [cm]
    have s2 := s1.trans (Same.new (o := .lst (((t0 :: tr).take m).map V.ref)) n2)
    have e2 : (upd H1 p2 (.lst (((t0 :: tr).take m).map V.ref))) p2 = some (.lst (((t0 :: tr).take m).map V.ref)) := upd_same
    generalize (upd H1 p2 (.lst (((t0 :: tr).take m).map V.ref))) = H2 at s2 e2 ⊢
    refine ⟨p2, rfl, ⟨_, SqL.of e2⟩, fun D nD => ?_⟩
    refine lc_mk (walk_list (K := K) (a := p2) (xs := ((t0 :: tr).take m).map V.ref)) (fun i => V.bl (decide (turnF (gR ((x :: xs).take m) i) ≠ turn))) (by rw [List.length_map, tl]; exact small m100 (by decide)) nD (fun H s => SqL.of (s _ _ e2)) (fun i y H4 H4' N hi s4 yy fin => ?_) fun H4 s4 eD => ?_
    · obtain ⟨rfl, ex⟩ := yy
      obtain ⟨im, t, r, rfl, er, er2, hr2, br, lr⟩ := gm i y ex
      refine ⟨rfl, _, rfl, t, r, rfl, (hr2.same s2).same s4, br, fun H5 s5 => ?_⟩
      have fin := fin _ s5
      rw [gR_at er2, ← neV] at fin
      exact ⟨_, rfl, rfl, fin⟩
    have s4' := s2.trans s4
    rw [List.length_map, tl] at eD
    have eD2 : (List.range m).map (fun i => V.bl (decide (turnF (gR ((x :: xs).take m) i) ≠ turn))) = (((x :: xs).take m).map fun r => decide (turnF r ≠ turn)).map V.bl := by
      have := map_range_getD ((x :: xs).take m) fun r => decide (turnF r ≠ turn)
      rw [lm] at this
      exact this
    rw [eD2] at eD
    refine ⟨D, _, rfl, SqL.of eD, _, rfl, ?_⟩
    rw [List.any_map]
    refine ite2 (fun z => ?_) (fun z3 => ?_)
    · exact q0 (by rw [R]; exact if_pos z) _ s4'
    have R := R.trans (if_neg z3)
    clear eD eD2 z3
    -- told
    refine ⟨_, rfl, _, rfl, _, rfl, a, _, rfl, s4'.seq (SqL.of ea), fun p3 n3 => ?_⟩
    rw [cm]
    have s5 := s4'.trans (Same.new (o := .lst (((t0 :: tr).take m).map V.ref)) n3)
    have e3 : (upd H4 p3 (.lst (((t0 :: tr).take m).map V.ref))) p3 = some (.lst (((t0 :: tr).take m).map V.ref)) := upd_same
    generalize (upd H4 p3 (.lst (((t0 :: tr).take m).map V.ref))) = H5 at s5 e3 ⊢
    refine ⟨p3, rfl, ⟨_, SqL.of e3⟩, fun D2 nD2 => ?_⟩
    refine lc2_out (walk_list (K := K) (a := p3) (xs := ((t0 :: tr).take m).map V.ref)) (fun i => (body (x :: xs) i).map V.int) rfl nD2 (fun H s => SqL.of (s _ _ e3)) (fun i v H6 H6' hi s6 e6 yy => ?_) fun H6 s6 e6 => ?_
    · obtain ⟨rfl, ex⟩ := yy
      obtain ⟨im, t, r, rfl, er, er2, hr2, br, lr⟩ := gm i v ex
      have hr6 := (hr2.same s5).same s6
      refine ⟨rfl, _, rfl, _, rfl, t, _, rfl, hr6.seq, fun q nq => ?_⟩
      rw [show cutV (r.map V.int) (some 10) none = (r.drop 10).map V.int by rw [show (10 : Int) = ((10 : Nat) : Int) from rfl, cut_from, map_drop]]
      have qD : q ≠ D2 := fun z => by rw [z, e6] at nq; cases nq
      refine ⟨q, rfl, ⟨_, SqL.of upd_same⟩, ?_⟩
      refine lc2_in (walk_list (K := K) (a := q) (xs := (r.drop 10).map V.int)) (fun j => V.int (gI (r.drop 10) j)) (a0 := (body (x :: xs) i).map V.int) ?_ (by rw [upd_ne qD.symm]; exact e6) (fun H s => SqL.of (s q _ qD upd_same)) (fun j u H7 H7' N hj s7 yy fin => ?_) fun H7 s7 e7 => ?_
      · rw [List.length_map, body_len hb i (by omega), List.length_map, List.length_drop, lr]
        exact small (show 54 * i + (64 - 10) ≤ 6000 by omega) (by decide)
      · obtain ⟨rfl, ey⟩ := yy
        rw [List.length_map] at hj
        rw [li_at hj] at ey
        cases ey
        exact ⟨rfl, _, rfl, fin _ (Same.refl _)⟩
      · refine ⟨fun b o e => s7 b o (fun z => by rw [z, nD2] at e; cases e) (Same.new nq b o (s6 b o e)), ?_⟩
        rw [e7, body_succ er, List.map_append, List.length_map, mapSelf]
    · rw [List.length_map, tl] at e6
      have s6' := s5.trans s6
      have lb := body_len hb m z2
      have bb := body_by hb m
      generalize body (x :: xs) m = told at e6 lb bb R
      refine ⟨_, rfl, _, rfl, D2, _, rfl, SqL.of e6, fun p4 n4 => ?_⟩
      refine ⟨p4, told.take 4, rfl, ?_, by rw [List.length_take]; omega, bb.take 4, fun H7 s7 => ?_⟩
      · rw [LI, upd_same, show (some 4 : Option Int) = some ((4 : Nat) : Int) from rfl, cut_to, map_take]
      have s7 := (Same.new n4).trans s7
      have s7' := s6'.trans s7
      obtain ⟨k, ek⟩ : ∃ k : Nat, numF (told.take 4) = (k : Int) := ⟨(numF (told.take 4)).toNat, by have := (bb.take 4).nn; omega⟩
      rw [ek] at R ⊢
      refine ⟨_, rfl, _, rfl, D2, _, rfl, .inl (SqL.of (s7 _ _ e6)), _, _, rfl, rfl, _, _, rfl, rfl, _, rfl, ?_⟩
      rw [List.length_map]
      refine ite2 (fun z => ?_) (fun z4 => ?_)
      · exact q0 (by rw [R, if_pos (of_decide_eq_true z)]) _ s7'
      have z4 : ¬ (((told.length : Nat) : Int) - 4 < (k : Int)) := fun z => z4 (decide_eq_true z)
      rw [if_neg z4, Int.toNat_natCast] at R
      refine ⟨_, rfl, _, rfl, _, rfl, _, _, rfl, rfl, _, rfl, D2, _, rfl, SqL.of (s7 _ _ e6), fun p5 n5 => ⟨_, rfl, by show 2 ≤ sizeLine; decide, fun p6 n6 => ?_⟩⟩
      refine q1 _ m R _ p6 p5 (s7'.trans ((Same.new n5).trans (Same.new n6))) upd_same ?_
      rw [LI, upd_ne (fun z => by rw [← z, upd_same] at n6; cases n6), upd_same, cutL told 4 (4 + k) 4 (4 + (k : Int)) rfl (by omega), Nat.add_sub_cancel_left]
end
end K1
namespace Bk
open Po
def rdF (t c : Int) : List Int := [82, 85, 76, 69] ++ (fixF t 6 ++ [c]) ++ List.replicate 53 0
theorem head_rd (t c : Int) : headF t c = rdF t c := by unfold headF rdF; simp only [List.append_assoc]
theorem head_len (t c : Int) : (headF t c).length = 64 := by
  rw [head_rd]
  unfold rdF
  rw [List.length_append, List.length_append, List.length_append, fix_len, List.length_replicate]
  rfl
theorem head_turn {t c : Int} (h0 : 0 ≤ t) (h1 : t < 256 ^ 6) : numF (((headF t c).drop 4).take 6) = t := by
  rw [head_rd]
  unfold rdF
  rw [List.append_assoc, show ([82, 85, 76, 69] ++ (fixF t 6 ++ [c] ++ List.replicate 53 0) : List Int).drop 4 = fixF t 6 ++ [c] ++ List.replicate 53 0 from rfl, List.append_assoc, List.take_append_of_le_length (by rw [fix_len]; exact Nat.le_refl _), List.take_of_length_le (by rw [fix_len]; exact Nat.le_refl _), num_fix]
  exact Int.emod_eq_of_lt h0 h1
theorem head_area {t c : Int} : numF (((headF t c).drop 10).take 1) = c := by
  have e : (headF t c).drop 10 = [c] ++ List.replicate 53 0 := by
    rw [head_rd]
    unfold rdF
    rw [List.append_assoc, show ([82, 85, 76, 69] ++ (fixF t 6 ++ [c] ++ List.replicate 53 0) : List Int).drop 10 = (fixF t 6 ++ [c] ++ List.replicate 53 0).drop 6 from rfl, List.append_assoc, List.drop_append_of_le_length (by rw [fix_len]; exact Nat.le_refl _), List.drop_of_length_le (by rw [fix_len]; exact Nat.le_refl _)]
    rfl
  rw [e]
  show 256 * 0 + c = c
  omega
/-- outside of the turn and the area it is always the same -/
theorem head_const {t c : Int} {i : Nat} (h : i < 4 ∨ 11 ≤ i) : gI (headF t c) i = gI (headF 0 0) i := by
  rw [head_rd, head_rd]
  unfold rdF gI
  rw [List.getD_eq_getElem?_getD, List.getD_eq_getElem?_getD]
  congr 1
  have l : ∀ t c : Int, ([82, 85, 76, 69] ++ (fixF t 6 ++ [c])).length = 11 := fun t c => by
    rw [List.length_append, List.length_append, fix_len]
    rfl
  rcases h with h | h
  · rw [List.getElem?_append_left (l₁ := [82, 85, 76, 69] ++ (fixF t 6 ++ [c])) (by rw [l]; omega), List.getElem?_append_left (l₁ := [82, 85, 76, 69] ++ (fixF 0 6 ++ [0])) (by rw [l]; omega), List.getElem?_append_left (l₁ := [82, 85, 76, 69]) h, List.getElem?_append_left (l₁ := [82, 85, 76, 69]) h]
  · rw [List.getElem?_append_right (by rw [l]; exact h), List.getElem?_append_right (by rw [l]; exact h), l, l]
theorem fix_by (t : Int) (k : Nat) : ∀ b ∈ fixF t k, 0 ≤ b ∧ b ≤ 255 := fix_b t k
theorem head_by {t c : Int} (h0 : 0 ≤ c) (h1 : c ≤ 255) : ∀ b ∈ headF t c, 0 ≤ b ∧ b ≤ 255 := fun b m => by
  unfold headF at m
  simp only [List.mem_append, List.mem_cons, List.not_mem_nil, or_false] at m
  rcases m with ((m | m) | m) | m
  · omega
  · exact fix_b _ _ b m
  · omega
  · have := (List.mem_replicate.mp m).2
    omega
end Bk
namespace K1
open PySem PySem.Spec PyProof.Rows L2 Ow Po Dd Bk
abbrev s_law_turn : Stmt := topS 24
abbrev N_law_turn : List Str := ["state"]
theorem sc_law_turn : FnScope N_law_turn ["state"] (defScope s_law_turn) := ⟨rfl, rfl, rfl, by decide +kernel, rfl, by decide +kernel, by decide +kernel⟩
abbrev s_law_bytes : Stmt := topS 25
abbrev N_law_bytes : List Str := ["state", "count", "start", "k"]
theorem sc_law_bytes : FnScope N_law_bytes ["state"] (defScope s_law_bytes) := ⟨rfl, rfl, rfl, by decide +kernel, rfl, by decide +kernel, by decide +kernel⟩
abbrev s_law_asks_places : Stmt := topS 28
abbrev N_law_asks_places : List Str := ["size", "low", "area", "told"]
theorem sc_law_asks_places : FnScope N_law_asks_places ["size"] (defScope s_law_asks_places) := ⟨rfl, rfl, rfl, by decide +kernel, rfl, by decide +kernel, by decide +kernel⟩
abbrev s_law_asks_head : Stmt := topS 27
abbrev N_law_asks_head : List Str := ["state", "turn", "area", "sector", "other", "place"]
theorem sc_law_asks_head : FnScope N_law_asks_head ["state"] (defScope s_law_asks_head) := ⟨rfl, rfl, rfl, by decide +kernel, rfl, by decide +kernel, by decide +kernel⟩
theorem rh_back {t c : Int} (h1 : 1 ≤ t) (h2 : t < 256 ^ 6) (h3 : c ≤ 1) : rhF (headF t c) = some (t, c) := by
  unfold rhF
  rw [head_turn (by omega) h2, head_area, if_neg (fun h => by rcases h with h | h | h; omega; omega; exact h rfl)]
theorem rh_other {xs : List Int} {i : Nat} (h : i < 4 ∨ 11 ≤ i) (n : gI xs i ≠ gI (headF 0 0) i) : rhF xs = none := by
  unfold rhF
  rw [if_pos (.inr (.inr fun e => n (Eq.trans (congrArg (fun l => gI l i) e) (head_const h))))]
theorem rh_area {xs : List Int} (h : 1 < numF ((xs.drop 10).take 1)) : rhF xs = none := by
  unfold rhF
  rw [if_pos (.inr (.inl h))]
theorem rh_zero {xs : List Int} (h : numF ((xs.drop 4).take 6) < 1) : rhF xs = none := by
  unfold rhF
  rw [if_pos (.inl h)]
theorem gI_set {xs : List Int} {i : Nat} {b : Int} (h : i < xs.length) : gI (xs.set i b) i = b := by
  unfold gI
  rw [List.getD_eq_getElem?_getD, List.getElem?_set_self h]
  rfl
theorem ten {xs : List Int} (h : 10 < xs.length) : numF ((xs.drop 10).take 1) = gI xs 10 := by
  have e : (xs.drop 10).take 1 = [gI xs 10] := by
    rw [List.drop_eq_getElem_cons h]
    show [xs[10]] = _
    rw [gI_at (List.getElem?_eq_getElem h)]
  rw [e]
  show 256 * 0 + _ = _
  omega
theorem by_set {xs : List Int} {i : Nat} {b : Int} (h : By xs) (h0 : 0 ≤ b) (h1 : b ≤ 255) : By (xs.set i b) := fun x m => by
  rcases List.mem_or_eq_of_mem_set m with m | rfl
  · exact h x m
  · exact ⟨h0, h1⟩
theorem dpI {K : PySem.W.Frag} {H : Hp} {a : Addr} {xs : List Int} (h : LI H a xs) : Dp K H (.ref a) (.list (xs.map PyData.int)) := .lst h.seq (intsD xs)
theorem ok1I {xs : List Int} (h : xs.length ≤ 10000) (n : Nat) : okD (n + 1) (.list (xs.map PyData.int)) = true := by
  rw [okD, List.length_map, decide_eq_true h, Bool.true_and, List.all_map, List.all_eq_true]
  intro x _
  cases n <;> rfl
theorem set_map (xs : List Int) (i : Nat) (b : Int) : (xs.map V.int).set i (V.int b) = (xs.set i b).map V.int := by rw [List.map_set]
theorem hr0 {H : Hp} {a : Addr} {n : Int} (e : H a = some (.lst (List.replicate (n.toNat) [V.int 0]).flatten)) : LI H a (List.replicate n.toNat 0) := by rw [LI, e, repl0]
def spTurn : Sp := fun vs H Q _ => ∃ a : Addr, vs = [.ref a] ∧ St H a ∧ ∀ H' t, St H' a → Gw a H H' → 1 ≤ t → t ≤ 140737488355328 → Q (.int t) H'
def spBytes : Sp := fun vs H Q _ => ∃ a : Addr, vs = [.ref a] ∧ St H a ∧ ∀ H' l data, St H' a → Gw a H H' → H l = none → LI H' l data → data.length ≤ 400 → By data → Q (.ref l) H'
def spPlaces : Sp := fun vs H Q _ => ∃ n : Int, vs = [.int n] ∧ 60 ≤ n ∧ n ≤ 400 ∧ ∀ H', Same H H' → Q (.bl true) H'
def spAsk : Sp := fun vs H Q _ => ∃ a : Addr, vs = [.ref a] ∧ St H a ∧ ∀ H', St H' a → Gw a H H' → Q (.bl true) H'
section
variable {P : Program} {w : World} {K : PySem.W.Frag} {mg : Str → Option Value} {base : Heap}
theorem ok_turn {f : Addr} {fd : FuncData} (F : Fun K "_law_turn" "_law_turn" s_law_turn f fd) (D_law_next : Kn P w K mg base 1 "_law_next" ["state", "limit"] spNext) : FnOk P w K mg base CX0 2 f fd ["state"] spTurn := by
  refine F.ok sc_law_turn (fun vs H Q E h => ?_) (fun cdv A outer s H vs Q E hr h => ?_)
  · obtain ⟨a, rfl, _⟩ := h
    rfl
  · obtain ⟨a, rfl, S, q⟩ := h
    refine ⟨_, (pss_one (ps_ret (pe_ix ix_list (pe_lst (pa_cons pe_int (pa_cons pe_int (pa_cons pe_int (pa_cons pe_int (pa_cons (pe_op op_add pe_int (pe_kn D_law_next hr (pa_cons (pv 0) (pa_cons (pe_op op_pow pe_int pe_int) pa_nil)))) pa_nil)))))) (pe_kn D_law_next hr (pa_cons (pv 0) (pa_cons pe_int pa_nil))) (fun _ _ => rfl)))), ?_⟩
    refine ⟨_, rfl, _, _, rfl, rfl, ⟨by decide, by decide, by decide⟩, a, _, rfl, S, by decide, by decide, fun H1 r S1 g1 r0 r1 => ⟨_, _, rfl, rfl, by show 5 ≤ sizeLine; decide, fun p np => ?_⟩⟩
    have r1 : r < 140737488355328 := r1
    refine ⟨_, rfl, a, 5, rfl, S1.same (Same.new np), by decide, by decide, fun H2 k S2 g2 k0 k1 => ?_⟩
    have e2 : H2 p = some (.lst [.int 1, .int 2, .int 255, .int 256, .int (1 + r)]) := g2 _ _ (fun z => by
      obtain ⟨sc, ns, ps, c, sd, e, _⟩ := S1
      rw [z, e] at np
      cases np) upd_same
    have g : Gw a H H2 := g1.trans ((Gw.same (Same.new np)).trans g2)
    obtain ⟨y, ey, my⟩ := at_in (xs := [V.int 1, .int 2, .int 255, .int 256, .int (1 + r)]) k0 k1
    refine ⟨p, _, _, y, rfl, rfl, SqL.of e2, ey, ?_⟩
    simp only [List.mem_cons, List.not_mem_nil, or_false] at my
    rcases my with z | z | z | z | z <;> subst z <;> exact q _ _ S2 g (by omega) (by omega)
theorem ok_bytes {f : Addr} {fd : FuncData} (F : Fun K "_law_bytes" "_law_bytes" s_law_bytes f fd) (T0 : Bl mg) (D_law_next : Kn P w K mg base 1 "_law_next" ["state", "limit"] spNext) : FnOk P w K mg base CX0 2 f fd ["state"] spBytes := by
  refine F.ok sc_law_bytes (fun vs H Q E h => ?_) (fun cdv A outer s H vs Q E hr h => ?_)
  · obtain ⟨a, rfl, _⟩ := h
    rfl
  · obtain ⟨a, rfl, S, q⟩ := h
    refine ⟨_, (pss_cons (ps_set (i := 1) sc_law_bytes.nd rfl (.inl rfl) (pe_ix ix_list (pe_lst (pa_cons pe_int (pa_cons pe_int (pa_cons (pe_op op_add pe_int (pe_kn D_law_next hr (pa_cons (pv 0) (pa_cons pe_int pa_nil)))) (pa_cons (pe_op op_add pe_int (pe_kn D_law_next hr (pa_cons (pv 0) (pa_cons pe_int pa_nil)))) (pa_cons (pe_kn D_law_next hr (pa_cons (pv 0) (pa_cons pe_int pa_nil))) pa_nil)))))) (pe_kn D_law_next hr (pa_cons (pv 0) (pa_cons pe_int pa_nil))) (fun _ _ => rfl)))
      (pss_cons (ps_set (i := 2) sc_law_bytes.nd rfl (.inr rfl) (pe_kn D_law_next hr (pa_cons (pv 0) (pa_cons pe_int pa_nil))))
      (pss_one (ps_ret (pe_lc (own := [("k", 3)]) (g := gName 3) (tt := tYes) rfl sc_law_bytes.nd (pi_range1 (by rfl) T0.range (pa_cons (pv 1) pa_nil)) (blkOk_by (own := [("k", 3)]) (N := N_law_bytes) (sc := defScope s_law_bytes) (by decide +kernel)) (fun _ _ _ _ _ => pg_name (i := 3) sc_law_bytes.nd rfl (Or.inl rfl)) (fun _ _ _ _ _ => pts_nil) (fun _ _ _ _ _ => (pe_op op_mod (pe_op op_add (pe_op op_add (pv 2) (pe_op op_mul pe_int (pv 3))) (pe_op op_mul (pv 3) (pv 3))) pe_int))))))), ?_⟩
    refine ⟨_, rfl, a, 3, rfl, S, by decide, by decide, fun H1 r S1 g1 r0 r1 => ⟨_, _, rfl, rfl, _, rfl, a, 3, rfl, S1, by decide, by decide, fun H2 u S2 g2 u0 u1 => ⟨_, _, rfl, rfl, _, rfl, a, 401, rfl, S2, by decide, by decide, fun H3 t S3 g3 t0 t1 => ⟨by show 5 ≤ sizeLine; decide, fun p np => ?_⟩⟩⟩⟩
    refine ⟨_, rfl, a, 5, rfl, S3.same (Same.new np), by decide, by decide, fun H4 k S4 g4 k0 k1 => ?_⟩
    have e4 : H4 p = some (.lst [.int 0, .int 1, .int (49 + r), .int (103 + u), .int t]) := g4 _ _ (fun z => by
      obtain ⟨sc, ns, ps, c, sd, e, _⟩ := S3
      rw [z, e] at np
      cases np) upd_same
    have g : Gw a H H4 := g1.trans (g2.trans (g3.trans ((Gw.same (Same.new np)).trans g4)))
    obtain ⟨y, ey, my⟩ := at_in (xs := [V.int 0, .int 1, .int (49 + r), .int (103 + u), .int t]) k0 k1
    have my : ∃ c : Nat, y = .int (c : Nat) ∧ c ≤ 400 := by
      simp only [List.mem_cons, List.not_mem_nil, or_false] at my
      rcases my with z | z | z | z | z
      · exact ⟨0, z, by decide⟩
      · exact ⟨1, z, by decide⟩
      · exact ⟨(49 + r).toNat, by rw [z]; congr 1; omega, by omega⟩
      · exact ⟨(103 + u).toNat, by rw [z]; congr 1; omega, by omega⟩
      · exact ⟨t.toNat, by rw [z]; congr 1; omega, by omega⟩
    obtain ⟨c, rfl, hc⟩ := my
    refine ⟨p, _, _, _, rfl, rfl, SqL.of e4, ey, ?_⟩
    refine ⟨_, rfl, a, 256, rfl, S4, by decide, by decide, fun H5 st S5 g5 st0 st1 => ?_⟩
    refine ⟨_, rfl, _, rfl, by omega, by omega, fun D nD => ?_⟩
    refine lc_mk (walk_range (lo := 0) (n := c)) (fun i => V.int ((st + 31 * (i : Nat) + (i : Nat) * (i : Nat)) % 256)) (small hc (by decide)) nD (fun _ _ => trivial) (fun i x H6 H6' N hi s6 yy fin => ?_) fun H6 s6 eD => ?_
    · obtain ⟨rfl, ex⟩ := yy
      have ex := xiJ ex
      subst ex
      exact ⟨rfl, _, rfl, _, rfl, _, _, rfl, rfl, .inl ⟨by decide, by decide⟩, _, _, rfl, rfl, _, rfl, _, rfl, _, _, rfl, rfl, .inl ⟨by omega, by omega⟩, _, _, rfl, rfl, _, _, rfl, rfl, by show (0 : Int) < 256; decide, fin _ (Same.refl _)⟩
    · have nDa : H D = none := Gw.free (g.trans g5) nD fun z => by
        obtain ⟨sc, ns, ps, c2, sd, e, _⟩ := S5
        rw [z, e] at nD
        cases nD
      refine q H6 D ((List.range c).map fun i => (st + 31 * (i : Nat) + (i : Nat) * (i : Nat)) % 256) (S5.same s6) ((g.trans g5).trans (Gw.same s6)) nDa (by rw [LI, eD, List.map_map]; rfl) (by rw [List.length_map, List.length_range]; exact hc) fun b m => ?_
      obtain ⟨i, _, rfl⟩ := List.mem_map.mp m
      omega
theorem ok_places {f : Addr} {fd : FuncData} (F : Fun K "_law_asks_places" "_law_asks_places" s_law_asks_places f fd) (Dregion_start : Kn P w K mg base 1 "region_start" ["size"] spRs) (Darea_size : Kn P w K mg base 2 "area_size" ["size"] spAz) (Darea_start : Kn P w K mg base 3 "area_start" ["size", "area"] spAt) (D_law_same : Kn P w K mg base 3 "_law_same" ["actual", "expected"] (spSame K 2)) :
    FnOk P w K mg base CX0 4 f fd ["size"] spPlaces := by
  refine F.ok sc_law_asks_places (fun vs H Q E h => ?_) (fun cdv A outer s H vs Q E hr h => ?_)
  · obtain ⟨n, rfl, _⟩ := h
    rfl
  · obtain ⟨n, rfl, h0, h1, q⟩ := h
    refine ⟨_, (pss_cons (ps_set (i := 1) sc_law_asks_places.nd rfl (.inl rfl) (pe_op op_sub (pv 0) (pe_op op_fdiv (pe_op op_sub (pv 0) pe_int) pe_int)))
      (pss_cons (ps_set (i := 2) sc_law_asks_places.nd rfl (.inl rfl) (pe_op op_fdiv (pe_op op_sub (pv 1) pe_int) pe_int))
      (pss_cons (ps_set (i := 3) sc_law_asks_places.nd rfl (.inl rfl) (pe_lst (pa_cons (pe_kn Dregion_start hr (pa_cons (pv 0) pa_nil)) (pa_cons (pe_kn Darea_size hr (pa_cons (pv 0) pa_nil)) (pa_cons (pe_kn Darea_start hr (pa_cons (pv 0) (pa_cons pe_int pa_nil))) (pa_cons (pe_kn Darea_start hr (pa_cons (pv 0) (pa_cons pe_int pa_nil))) pa_nil))))))
      (pss_one (ps_ret (pe_kn D_law_same hr (pa_cons (pv 3) (pa_cons (pe_lst (pa_cons (pv 1) (pa_cons (pv 2) (pa_cons pe_int (pa_cons (pe_op op_add pe_int (pv 2)) pa_nil))))) pa_nil)))))))), ?_⟩
    refine ⟨_, rfl, _, rfl, _, _, rfl, rfl, _, _, rfl, rfl, ⟨by decide, by decide⟩, _, _, rfl, rfl, ?_⟩
    refine ⟨_, rfl, _, _, rfl, rfl, _, _, rfl, rfl, ⟨by decide, by decide⟩, ?_⟩
    refine ⟨_, rfl, _, rfl, _, rfl, _, rfl, _, rfl, n, 0, rfl, by decide, by decide, _, rfl, n, 1, rfl, by decide, by decide, by show 4 ≤ sizeLine; decide, fun p np => ?_⟩
    refine ⟨_, rfl, _, rfl, _, rfl, _, rfl, _, _, rfl, rfl, by show 4 ≤ sizeLine; decide, fun p2 np2 => ?_⟩
    refine ⟨.ref p, .ref p2, .list ([n - (n - 2) / 2, (n - (n - 2) / 2 - 2) / 2, 2, 2 + (n - (n - 2) / 2 - 2) / 2].map PyData.int), rfl, dpI ?_, dpI ?_, ok1I (by show 4 ≤ 10000; decide) 1, fun H' s' => q _ ((Same.new np).trans ((Same.new np2).trans s'))⟩
    · rw [LI, upd_ne (ne_of_none upd_same np2), upd_same]
      simp
    · rw [LI, upd_same]
      rfl
end
end K1
namespace K1
open PySem PySem.Spec PyProof.Rows L2 Ow Po Dd Bk
theorem ixN_nat {n j : Nat} (hj : j < n) : ixN n (j : Int) = some j := by
  unfold ixN
  rw [if_pos (by omega), if_pos (by omega)]
  rfl
/-- a list of 64 is neither the state nor the script -/
theorem St.far {H : Hp} {a p : Addr} {xs : List V} (S : St H a) (e : H p = some (.lst xs)) (l : xs.length = 64) : p ≠ a := fun z => by
  obtain ⟨sc, ns, ps, c, sd, e2, _⟩ := S
  rw [z, e2] at e
  cases e
  cases l
theorem St.put {H : Hp} {a p : Addr} {xs : List V} {o : HO} (S : St H a) (e : H p = some (.lst xs)) (l : xs.length = 64) : St (upd H p o) a := by
  have pa := S.far e l
  obtain ⟨sc, ns, ps, c, sd, e2, e3, ne, l3, r⟩ := S
  refine ⟨sc, ns, ps, c, sd, by rw [upd_ne pa.symm]; exact e2, ?_, ne, l3, r⟩
  rw [upd_ne]
  · exact e3
  · intro z
    rw [z, e] at e3
    cases e3
    rw [List.length_map] at l
    omega
theorem St.fresh {H : Hp} {a p : Addr} (S : St H a) (n : H p = none) : p ≠ a := fun z => by
  obtain ⟨sc, ns, ps, c, sd, e2, _⟩ := S
  rw [z, e2] at n
  cases n
/-- the heap but for a and p -/
def G2w (a p : Addr) (H H' : Hp) : Prop := ∀ b o, b ≠ a → b ≠ p → H b = some o → H' b = some o
theorem zeros (n : Nat) : numF (List.replicate n 0) = 0 := by
  induction n with
  | zero => rfl
  | succ n ih => rw [List.replicate_succ, num_cons, ih]; omega
section
variable {P : Program} {w : World} {K : PySem.W.Frag} {mg : Str → Option Value} {base : Heap}
theorem ok_askhead {f : Addr} {fd : FuncData} (F : Fun K "_law_asks_head" "_law_asks_head" s_law_asks_head f fd) (T0 : Bl mg) (D_law_next : Kn P w K mg base 1 "_law_next" ["state", "limit"] spNext) (D_law_turn : Kn P w K mg base 2 "_law_turn" ["state"] spTurn) (D_law_fixed : Kn P w K mg base 1 "_law_fixed" ["number", "count"] spFixed)
    (Dhead : Kn P w K mg base 2 "head" ["turn", "area"] spHead) (Dread_head : Kn P w K mg base 3 "read_head" ["sector"] (spRh K)) (D_law_same : Kn P w K mg base 3 "_law_same" ["actual", "expected"] (spSame K 2)) : FnOk P w K mg base CX0 4 f fd ["state"] spAsk := by
  refine F.ok sc_law_asks_head (fun vs H Q E h => ?_) (fun cdv A outer s H vs Q E hr h => ?_)
  · obtain ⟨a, rfl, _⟩ := h
    rfl
  · obtain ⟨a, rfl, S, q⟩ := h
    refine ⟨_, (pss_cons (ps_set (i := 1) sc_law_asks_head.nd rfl (.inl rfl) (pe_kn D_law_turn hr (pa_cons (pv 0) pa_nil)))
      (pss_cons (ps_set (i := 2) sc_law_asks_head.nd rfl (.inl rfl) (pe_kn D_law_next hr (pa_cons (pv 0) (pa_cons pe_int pa_nil))))
      (pss_cons (ps_set (i := 3) sc_law_asks_head.nd rfl (.inl rfl) (pe_op op_cat (pe_op op_cat (pe_op op_cat (pe_lst (pa_cons pe_int (pa_cons pe_int (pa_cons pe_int (pa_cons pe_int pa_nil))))) (pe_kn D_law_fixed hr (pa_cons (pv 1) (pa_cons pe_int pa_nil)))) (pe_lst (pa_cons (pv 2) pa_nil))) (pe_op op_rep (pe_lst (pa_cons pe_int pa_nil)) pe_int)))
      (pss_cons (ps_if (PW.pt (pw_or (pt_not (pt_val (pe_kn D_law_same hr (pa_cons (pe_kn Dhead hr (pa_cons (pv 1) (pa_cons (pv 2) pa_nil))) (pa_cons (pv 3) pa_nil))))) (pw_or1 (pt_not (pt_val (pe_kn D_law_same hr (pa_cons (pe_kn Dread_head hr (pa_cons (pe_callTy call_list_of (by rfl) T0.list (by decide +kernel) (pa_cons (pv 3) pa_nil)) pa_nil)) (pa_cons (pe_tup (pa_cons (pv 1) (pa_cons (pv 2) pa_nil))) pa_nil)))))))) (pss_one (ps_ret pe_bl)) pss_nil)
      (pss_cons (ps_set (i := 4) sc_law_asks_head.nd rfl (.inl rfl) (pe_callTy call_list_of (by rfl) T0.list (by decide +kernel) (pa_cons (pv 3) pa_nil)))
      (pss_cons (ps_set (i := 5) sc_law_asks_head.nd rfl (.inl rfl) (pe_ix ix_list (pe_lst (pa_cons (pe_kn D_law_next hr (pa_cons (pv 0) (pa_cons pe_int pa_nil))) (pa_cons pe_int (pa_cons (pe_op op_add pe_int (pe_kn D_law_next hr (pa_cons (pv 0) (pa_cons pe_int pa_nil)))) pa_nil)))) (pe_kn D_law_next hr (pa_cons (pv 0) (pa_cons pe_int pa_nil))) (fun _ _ => rfl)))
      (pss_cons (ps_asg (pe_op op_mod (pe_op op_add (pe_op op_add (pe_ix ix_list (pv 4) (pv 5) (fun _ _ => rfl)) pe_int) (pe_kn D_law_next hr (pa_cons (pv 0) (pa_cons pe_int pa_nil)))) pe_int) (pg_sub (pv 4) (pv 5) set_list))
      (pss_mid (ps_if (pt_cmpR op_eq (pv 5) pe_int (nomark _)) (pss_one (ps_asg (pe_op op_add pe_int (pe_kn D_law_next hr (pa_cons (pv 0) (pa_cons pe_int pa_nil)))) (pg_sub (pv 4) (pv 5) set_list))) pss_nil)
      (pss_cons (ps_if (PW.pt (pw_or (pt_cmpR op_notN (pe_kn Dread_head hr (pa_cons (pv 4) pa_nil)) pe_non (nomark _)) (pw_or1 (pt_cmpR op_notN (pe_kn Dread_head hr (pa_cons (pe_op op_rep (pe_lst (pa_cons pe_int pa_nil)) pe_int) pa_nil)) pe_non (nomark _))))) (pss_one (ps_ret pe_bl)) pss_nil)
      (pss_one (ps_ret (pe_cmpR op_isN (pe_kn Dread_head hr (pa_cons (pe_op op_cat (pe_op op_cat (pe_op op_cat (pe_lst (pa_cons pe_int (pa_cons pe_int (pa_cons pe_int (pa_cons pe_int pa_nil))))) (pe_op op_rep (pe_lst (pa_cons pe_int pa_nil)) pe_int)) (pe_lst (pa_cons (pv 2) pa_nil))) (pe_op op_rep (pe_lst (pa_cons pe_int pa_nil)) pe_int)) pa_nil)) pe_non (nomark _))))))))))))), ?_⟩
    refine ⟨_, rfl, a, rfl, S, fun H1 t S1 g1 t1 t2 => ?_⟩
    refine ⟨_, rfl, a, 2, rfl, S1, by decide, by decide, fun H2 c S2 g2 c0 c1 => ?_⟩
    have g2 := g1.trans g2
    -- sector
    refine ⟨by show 4 ≤ sizeLine; decide, fun p1 n1 => ⟨_, rfl, t, 6, rfl, by decide, fun H3 p2 s2 n2 e2 => ⟨p1, p2, _, _, rfl, rfl, s2 _ _ upd_same, e2, ?_, fun p3 n3 => ⟨_, rfl, by show 1 ≤ sizeLine; decide, fun p4 n4 => ⟨p3, p4, _, _, rfl, rfl, Same.new n4 _ _ upd_same, upd_same, ?_, fun p5 n5 => ⟨by show 1 ≤ sizeLine; decide, fun p6 n6 => ⟨p6, 53, _, rfl, rfl, upd_same, by decide, by decide, by decide, fun p7 n7 => ⟨p5, p7, _, _, rfl, rfl, Same.new n7 _ _ (Same.new n6 _ _ upd_same), upd_same, ?_, fun p8 n8 => ?_⟩⟩⟩⟩⟩⟩⟩⟩
    · rw [List.length_map, fix_len]
      show 4 + 6 ≤ sizeLine
      decide
    · rw [List.length_append, List.length_map, fix_len]
      show 4 + 6 + 1 ≤ sizeLine
      decide
    · rw [List.length_append, List.length_append, List.length_map, fix_len]
      show 4 + 6 + 1 + _ ≤ sizeLine
      decide
    have s8 : Same H2 (upd (upd (upd (upd (upd (upd H3 p3 (.lst ([V.int 82, .int 85, .int 76, .int 69] ++ (fixF t 6).map V.int))) p4 (.lst [V.int c])) p5 (.lst ([V.int 82, .int 85, .int 76, .int 69] ++ (fixF t 6).map V.int ++ [V.int c]))) p6 (.lst [V.int 0])) p7 (.lst (List.replicate (53 : Int).toNat [V.int 0]).flatten)) p8 (.lst ([V.int 82, .int 85, .int 76, .int 69] ++ (fixF t 6).map V.int ++ [V.int c] ++ (List.replicate (53 : Int).toNat [V.int 0]).flatten))) :=
      (Same.new n1).trans (s2.trans ((Same.new n3).trans ((Same.new n4).trans ((Same.new n5).trans ((Same.new n6).trans ((Same.new n7).trans (Same.new n8)))))))
    have e8 : LI (upd (upd (upd (upd (upd (upd H3 p3 (.lst ([V.int 82, .int 85, .int 76, .int 69] ++ (fixF t 6).map V.int))) p4 (.lst [V.int c])) p5 (.lst ([V.int 82, .int 85, .int 76, .int 69] ++ (fixF t 6).map V.int ++ [V.int c]))) p6 (.lst [V.int 0])) p7 (.lst (List.replicate (53 : Int).toNat [V.int 0]).flatten)) p8 (.lst ([V.int 82, .int 85, .int 76, .int 69] ++ (fixF t 6).map V.int ++ [V.int c] ++ (List.replicate (53 : Int).toNat [V.int 0]).flatten))) p8 (headF t c) := by
      rw [LI, upd_same, repl0]
      unfold headF
      rw [List.map_append, List.map_append, List.map_append]
      rfl
    have e53 : ((53 : Int).toNat) = 53 := rfl
    generalize (upd (upd (upd (upd (upd (upd H3 p3 (.lst ([V.int 82, .int 85, .int 76, .int 69] ++ (fixF t 6).map V.int))) p4 (.lst [V.int c])) p5 (.lst ([V.int 82, .int 85, .int 76, .int 69] ++ (fixF t 6).map V.int ++ [V.int c]))) p6 (.lst [V.int 0])) p7 (.lst (List.replicate (53 : Int).toNat [V.int 0]).flatten)) p8 (.lst ([V.int 82, .int 85, .int 76, .int 69] ++ (fixF t 6).map V.int ++ [V.int c] ++ (List.replicate (53 : Int).toNat [V.int 0]).flatten))) = H8 at s8 e8 ⊢
    have g8 := g2.trans (Gw.same s8)
    have S8 := S2.same s8
    have lh := head_len t c
    have bh : By (headF t c) := head_by (by omega) (by omega)
    have tb : t < 256 ^ 6 := Int.lt_of_le_of_lt t2 (by decide)
    clear s8
    -- head
    refine ⟨_, rfl, _, rfl, t, c, rfl, fun H9 q1 s9 m1 e9 => ⟨_, rfl, .ref q1, .ref p8, _, rfl, dpI e9, dpI (e8.same s9), ok1I (by rw [lh]; decide) 1, fun H10 s10 => ⟨_, rfl, iteF ?_⟩⟩⟩
    have s10 := s9.trans s10
    refine ⟨_, rfl, p8, _, rfl, .inl (e8.same s10).seq, fun q2 m2 => ⟨q2, headF t c, rfl, upd_same, bh, by rw [lh]; decide, fun e => ?_, fun t' c' e H11 q3 s11 e11 => ?_⟩⟩
    · rw [rh_back t1 tb (by omega)] at e
      cases e
    rw [rh_back t1 tb (by omega)] at e
    cases e
    refine ⟨_, rfl, _, rfl, by show 2 ≤ sizeLine; decide, fun q4 m4 => ⟨.ref q3, .ref q4, .tuple [.int t, .int c], rfl, .tup (SqT.of (Same.new m4 _ _ e11)) (.cons (.int _) (.cons (.int _) .nil)), .tup (SqT.of upd_same) (.cons (.int _) (.cons (.int _) .nil)), rfl, fun H12 s12 => ⟨_, rfl, iteF ?_⟩⟩⟩
    have s12 := s10.trans ((Same.new m2).trans (s11.trans ((Same.new m4).trans s12)))
    have g12 := g8.trans (Gw.same s12)
    have S12 := S8.same s12
    have e12 := e8.same s12
    -- other, place
    refine ⟨_, rfl, p8, _, rfl, .inl e12.seq, fun po no => ?_⟩
    refine ⟨_, rfl, a, 4, rfl, S12.same (Same.new no), by decide, by decide, fun H13 r S13 g13 r0 r1 => ⟨_, rfl, a, 53, rfl, S13, by decide, by decide, fun H14 u S14 g14 u0 u1 => ⟨_, _, rfl, rfl, by show 3 ≤ sizeLine; decide, fun pl nl => ⟨_, rfl, a, 3, rfl, S14.same (Same.new nl), by decide, by decide, fun H15 k S15 g15 k0 k1 => ?_⟩⟩⟩⟩
    have poa := S12.fresh no
    have e15 : LI H15 po (headF t c) := g15 _ _ poa (Same.new nl _ _ (g14 _ _ poa (g13 _ _ poa upd_same)))
    have el : H15 pl = some (.lst [.int r, .int 10, .int (11 + u)]) := g15 _ _ (S14.fresh nl) upd_same
    have g15 : Gw a H H15 := g12.trans ((Gw.same (Same.new no)).trans (g13.trans (g14.trans ((Gw.same (Same.new nl)).trans g15))))
    obtain ⟨y, ey, my⟩ := at_in (xs := [V.int r, .int 10, .int (11 + u)]) k0 k1
    have my : ∃ m : Nat, y = .int (m : Nat) ∧ m < 64 ∧ (m < 4 ∨ m = 10 ∨ 11 ≤ m) := by
      simp only [List.mem_cons, List.not_mem_nil, or_false] at my
      rcases my with z | z | z
      · exact ⟨r.toNat, by rw [z]; congr 1; omega, by omega, by omega⟩
      · exact ⟨10, z, by decide, by decide⟩
      · exact ⟨(11 + u).toNat, by rw [z]; congr 1; omega, by omega, by omega⟩
    obtain ⟨m, rfl, hm, hm3⟩ := my
    refine ⟨pl, _, _, _, rfl, rfl, SqL.of el, ey, ?_⟩
    have nH : ∀ {H' : Hp} {b : Addr}, Gw a H H' → H' b = none → b ≠ a → H b = none := fun g n ne => Gw.free g n ne
    have noH : H po = none := Gw.free g12 no poa
    refine ⟨_, rfl, _, rfl, po, _, _, _, rfl, rfl, e15.seq, atI_nat (li_at (by rw [lh]; exact hm)), _, _, rfl, rfl, _, rfl, a, 253, rfl, S15, by decide, by decide, fun H16 v S16 g16 v0 v1 => ⟨_, _, rfl, rfl, _, _, rfl, rfl, by show (0 : Int) < 256; decide, ?_⟩⟩
    have e16 : LI H16 po (headF t c) := g16 _ _ poa e15
    refine ⟨_, rfl, _, rfl, po, _, (m : Nat), m, rfl, rfl, e16, ixN_nat (by rw [List.length_map, lh]; exact hm), ?_⟩
    rw [set_map]
    have bm : 0 ≤ gI (headF t c) m ∧ gI (headF t c) m ≤ 255 := bh _ (List.mem_of_getElem? (at_gI (by rw [lh]; exact hm)))
    have l16 : ((headF t c).map V.int).length = 64 := by rw [List.length_map, lh]
    have S17 : St (upd H16 po (.lst (((headF t c).set m ((gI (headF t c) m + 2 + v) % 256)).map V.int))) a := S16.put e16 l16
    have g17 : Gw a H (upd H16 po (.lst (((headF t c).set m ((gI (headF t c) m + 2 + v) % 256)).map V.int))) := (g15.trans g16).over noH
    have e17 : LI (upd H16 po (.lst (((headF t c).set m ((gI (headF t c) m + 2 + v) % 256)).map V.int))) po ((headF t c).set m ((gI (headF t c) m + 2 + v) % 256)) := upd_same
    have l17 : ((headF t c).set m ((gI (headF t c) m + 2 + v) % 256)).length = 64 := by rw [List.length_set, lh]
    have b17 : By ((headF t c).set m ((gI (headF t c) m + 2 + v) % 256)) := by_set bh (by omega) (by omega)
    have r17 : m = 10 ∨ rhF ((headF t c).set m ((gI (headF t c) m + 2 + v) % 256)) = none := by
      by_cases z : m = 10
      · exact .inl z
      · refine .inr (rh_other (i := m) (by omega) ?_)
        rw [gI_set (by rw [lh]; exact hm)]
        rw [← head_const (t := t) (c := c) (i := m) (by omega)]
        omega
    generalize (upd H16 po (.lst (((headF t c).set m ((gI (headF t c) m + 2 + v) % 256)).map V.int))) = H17 at S17 g17 e17 ⊢
    generalize ((headF t c).set m ((gI (headF t c) m + 2 + v) % 256)) = ys at e17 l17 b17 r17
    refine ⟨fun σ H' => ∃ xs, σ = [some (.ref a), some (.int t), some (.int c), some (.ref p8), some (.ref po), some (.int (m : Nat))] ∧ St H' a ∧ Gw a H H' ∧ LI H' po xs ∧ By xs ∧ xs.length = 64 ∧ rhF xs = none, ?_, ?_⟩
    · refine ⟨_, rfl, rfl, _, rfl, ?_⟩
      rw [eqV0]
      refine ite2 (fun z => ?_) (fun z => ?_)
      · have z : m = 10 := by have := of_decide_eq_true z; omega
        subst z
        refine ⟨_, rfl, a, 254, rfl, S17, by decide, by decide, fun H18 x S18 g18 x0 x1 => ⟨_, _, rfl, rfl, _, rfl, _, rfl, po, _, _, 10, rfl, rfl, g18 _ _ poa e17, ixN_nat (by rw [List.length_map, l17]; decide), ?_⟩⟩
        rw [set_map]
        refine ⟨ys.set 10 (2 + x), rfl, S18.put (g18 _ _ poa e17) (by rw [List.length_map, l17]), (g17.trans g18).over noH, upd_same, by_set b17 (by omega) (by omega), by rw [List.length_set, l17], rh_area ?_⟩
        rw [ten (by rw [List.length_set, l17]; decide), gI_set (by rw [l17]; decide)]
        omega
      · have z : m ≠ 10 := fun y => z (decide_eq_true (by omega))
        exact ⟨ys, rfl, S17, g17, e17, b17, l17, r17.resolve_left z⟩
    · rintro σ H18 ⟨xs, rfl, S18, g18, e18, b18, l18, r18⟩
      refine ⟨_, rfl, po, xs, rfl, e18, b18, by rw [l18]; decide, fun _ H19 s19 => ⟨rfl, _, rfl, iteF ?_⟩, fun t' c' e => by rw [r18] at e; cases e⟩
      refine ⟨by show 1 ≤ sizeLine; decide, fun p20 n20 => ⟨p20, 64, _, rfl, rfl, upd_same, by decide, by decide, by decide, fun p21 n21 => ?_⟩⟩
      have h21 : rhF (List.replicate 64 0) = none := rh_zero (by rw [show ((List.replicate 64 (0 : Int)).drop 4).take 6 = List.replicate 6 0 from rfl, zeros]; decide)
      refine ⟨p21, List.replicate 64 0, rfl, hr0 (n := 64) upd_same, fun b mb => by rw [(List.mem_replicate.mp mb).2]; decide, by rw [List.length_replicate]; decide, fun _ H22 s22 => ⟨rfl, _, rfl, iteF ?_⟩, fun t' c' e => by rw [h21] at e; cases e⟩
      have s22 := s19.trans ((Same.new n20).trans ((Same.new n21).trans s22))
      -- the turn 0
      refine ⟨by show 4 ≤ sizeLine; decide, fun p1 n1 => ⟨by show 1 ≤ sizeLine; decide, fun p2 n2 => ⟨p2, 6, _, rfl, rfl, upd_same, by decide, by decide, by decide, fun p3 n3 => ⟨p1, p3, _, _, rfl, rfl, Same.new n3 _ _ (Same.new n2 _ _ upd_same), upd_same, by decide, fun p4 n4 => ⟨_, rfl, by show 1 ≤ sizeLine; decide, fun p5 n5 => ⟨p4, p5, _, _, rfl, rfl, Same.new n5 _ _ upd_same, upd_same, ?_, fun p6 n6 => ⟨by show 1 ≤ sizeLine; decide, fun p7 n7 => ⟨p7, 53, _, rfl, rfl, upd_same, by decide, by decide, by decide, fun p8 n8 => ⟨p6, p8, _, _, rfl, rfl, Same.new n8 _ _ (Same.new n7 _ _ upd_same), upd_same, ?_, fun p9 n9 => ?_⟩⟩⟩⟩⟩⟩⟩⟩⟩
      · show 11 ≤ sizeLine
        decide
      · show 64 ≤ sizeLine
        decide
      have h23 : rhF ([82, 85, 76, 69] ++ List.replicate 6 0 ++ [c] ++ List.replicate 53 0) = none := rh_zero (by rw [show (([82, 85, 76, 69] ++ List.replicate 6 0 ++ [c] ++ List.replicate 53 0 : List Int).drop 4).take 6 = List.replicate 6 0 from rfl, zeros]; decide)
      refine ⟨p9, [82, 85, 76, 69] ++ List.replicate 6 0 ++ [c] ++ List.replicate 53 0, rfl, ?_, fun b mb => ?_, by show 64 ≤ 100; decide, fun _ H24 s24 => ⟨rfl, ?_⟩, fun t' c' e => by rw [h23] at e; cases e⟩
      · rw [LI, upd_same]
        rfl
      · simp only [List.mem_append, List.mem_cons, List.not_mem_nil, or_false] at mb
        rcases mb with ((mb | mb) | mb) | mb
        · omega
        · rw [(List.mem_replicate.mp mb).2]; decide
        · omega
        · rw [(List.mem_replicate.mp mb).2]; decide
      · have s9 := s22.trans ((Same.new n1).trans ((Same.new n2).trans ((Same.new n3).trans ((Same.new n4).trans ((Same.new n5).trans ((Same.new n6).trans ((Same.new n7).trans ((Same.new n8).trans ((Same.new n9).trans s24)))))))))
        exact q _ (S18.same s9) (g18.trans (Gw.same s9))
end
end K1
namespace Bk
open Po
theorem sec_by {t : Int} {data : List Int} (h : ∀ b ∈ data, 0 ≤ b ∧ b ≤ 255) (i : Nat) : ∀ b ∈ secF t data i, 0 ≤ b ∧ b ≤ 255 := fun b m => by
  unfold secF at m
  simp only [List.mem_append] at m
  rcases m with ((m | m) | m) | m
  · exact fix_b _ _ b m
  · exact fix_b _ _ b m
  · unfold pieceF toldF at m
    have m := List.mem_of_mem_drop (List.mem_of_mem_take m)
    rcases List.mem_append.mp m with m | m
    · exact fix_b _ _ b m
    · exact h b m
  · rw [(List.mem_replicate.mp m).2]
    decide
theorem many_lt {data : List Int} (h : data.length ≤ 1000) : manyF data < 2 ^ 32 := by unfold manyF; rw [told_len]; omega
theorem read_next (turn : Int) (data : List Int) (rest : List (List Int)) (h0 : 0 ≤ turn) (h1 : turn < 256 ^ 6) (hd : data.length ≤ 1000) : readF (blockF turn data ++ rest) (turn + 1) = none := by
  obtain ⟨r, er⟩ := block_cons turn data
  have e1 : blockF turn data ++ rest = secF turn data 0 :: (r ++ rest) := by rw [er]; rfl
  rw [e1]
  refine read_other (sec_many turn data 0 (many_lt hd)) (r := secF turn data 0) ?_ (by rw [sec_turn turn data 0 h0 h1]; omega)
  obtain ⟨n, e⟩ : ∃ n, manyF data = n + 1 := ⟨manyF data - 1, by have := many_pos data; omega⟩
  rw [e, List.take_succ_cons]
  exact List.mem_cons_self
theorem read_short (turn : Int) (data : List Int) (hd : data.length ≤ 1000) : readF ((blockF turn data).take (manyF data - 1)) turn = none := by
  obtain ⟨r, er⟩ := block_cons turn data
  obtain ⟨n, e⟩ : ∃ n, manyF data = n + 1 := ⟨manyF data - 1, by have := many_pos data; omega⟩
  have l := block_len turn data
  rw [er, List.length_cons] at l
  rw [er, show manyF data - 1 = n by omega]
  cases n with
  | zero => rfl
  | succ n =>
    rw [List.take_succ_cons]
    refine read_few (sec_many turn data 0 (many_lt hd)) (.inr ?_)
    rw [List.length_cons, List.length_take]
    omega
theorem drop_set {xs : List Int} {i k : Nat} {b : Int} (h : i < k) : (xs.set i b).drop k = xs.drop k := by
  rw [List.drop_set, if_pos h]
/-- a byte of a turn spoilt -/
theorem read_spoilt (turn : Int) (data : List Int) (rest : List (List Int)) {p i : Nat} {b : Int} (h0 : 0 ≤ turn) (h1 : turn < 256 ^ 6) (hd : data.length ≤ 1000) (hp : p < manyF data) (hi : i < 6) (n : b ≠ gI (secF turn data p) i) : readF ((blockF turn data).set p ((secF turn data p).set i b) ++ rest) turn = none := by
  obtain ⟨r, er⟩ := block_cons turn data
  have l := block_len turn data
  have hs : turnF ((secF turn data p).set i b) ≠ turn := by
    have e := sec_turn turn data p h0 h1
    have ls := sec_len turn data p
    unfold turnF at *
    rw [List.take_set]
    intro z
    refine num_set (xs := (secF turn data p).take 6) (i := i) (b := b) (by rw [List.length_take]; omega) ?_ (z.trans e.symm)
    have : gI ((secF turn data p).take 6) i = gI (secF turn data p) i := by
      unfold gI
      rw [List.getD_eq_getElem?_getD, List.getD_eq_getElem?_getD, List.getElem?_take_of_lt hi]
    rw [this]
    exact n
  have mem : (secF turn data p).set i b ∈ ((blockF turn data).set p ((secF turn data p).set i b) ++ rest).take (manyF data) := by
    refine List.mem_iff_getElem?.mpr ⟨p, ?_⟩
    rw [List.getElem?_take_of_lt hp, List.getElem?_append_left (by rw [List.length_set, l]; exact hp), List.getElem?_set_self (by rw [l]; exact hp)]
  cases p with
  | zero =>
    have e1 : (blockF turn data).set 0 ((secF turn data 0).set i b) ++ rest = (secF turn data 0).set i b :: (r ++ rest) := by rw [er]; rfl
    rw [e1] at mem ⊢
    exact read_other (by rw [drop_set hi]; exact sec_many turn data 0 (many_lt hd)) mem hs
  | succ p =>
    have e1 : (blockF turn data).set (p + 1) ((secF turn data (p + 1)).set i b) ++ rest = secF turn data 0 :: (r.set p ((secF turn data (p + 1)).set i b) ++ rest) := by rw [er]; rfl
    rw [e1] at mem ⊢
    exact read_other (sec_many turn data 0 (many_lt hd)) mem hs
/-- no sector counted -/
theorem read_nil {x : List Int} {xs : List (List Int)} {turn : Int} (h : (x.drop 6).take 4 = [0, 0, 0, 0]) : readF (x :: xs) turn = none := by
  refine read_few (m := 0) ?_ (.inl (by decide))
  rw [h]
  rfl
end Bk
namespace K1
open PySem PySem.Spec PyProof.Rows L2 Ow Po Dd Bk
theorem sec10 (t : Int) (data : List Int) (i : Nat) (ys : List Int) (hy : ys.length = 4) : (((secF t data i).take 10 ++ ys ++ (secF t data i).drop 14).drop 6).take 4 = ((secF t data i).drop 6).take 4 ∧ ((secF t data i).take 10 ++ ys ++ (secF t data i).drop 14).length = 64 ∧ ∃ zs, ((secF t data i).take 10 ++ ys ++ (secF t data i).drop 14).drop 10 = ys ++ zs := by
  have l := sec_len t data i
  generalize secF t data i = x at l ⊢
  have lt : (x.take 10).length = 10 := by rw [List.length_take]; omega
  refine ⟨?_, by rw [List.length_append, List.length_append, List.length_drop, lt]; omega, x.drop 14, ?_⟩
  · rw [List.append_assoc, List.drop_append_of_le_length (by omega), List.take_append_of_le_length (by rw [List.length_drop]; omega), List.drop_take, List.take_take]
    rfl
  · rw [List.append_assoc, List.drop_append_of_le_length (by omega), List.drop_of_length_le (by omega)]
    rfl
theorem sec6 (t : Int) (data : List Int) (i : Nat) : (((secF t data i).take 6 ++ [0, 0, 0, 0] ++ (secF t data i).drop 10).drop 6).take 4 = [0, 0, 0, 0] ∧ ((secF t data i).take 6 ++ [0, 0, 0, 0] ++ (secF t data i).drop 10).length = 64 := by
  have l := sec_len t data i
  generalize secF t data i = x at l ⊢
  have lt : (x.take 6).length = 6 := by rw [List.length_take]; omega
  refine ⟨?_, by rw [List.length_append, List.length_append, List.length_drop, lt]; show 6 + 4 + _ = 64; omega⟩
  rw [List.append_assoc, List.drop_append_of_le_length (by omega), List.drop_of_length_le (by omega)]
  rfl
/-- a length too great -/
theorem read_long (turn : Int) (data : List Int) (rest : List (List Int)) {N : Int} (hd : data.length ≤ 1000) (bd : By data) (hr : ∀ r ∈ rest, By r ∧ r.length = 64) (h0 : 54 * ((manyF data : Nat) : Int) - 4 < N) (h1 : N < 256 ^ 4) (hn : 0 ≤ N) : readF ((blockF turn data).set 0 ((secF turn data 0).take 10 ++ fixF N 4 ++ (secF turn data 0).drop 14) ++ rest) turn = none := by
  obtain ⟨r, er⟩ := block_cons turn data
  obtain ⟨a1, a2, zs, a3⟩ := sec10 turn data 0 (fixF N 4) (fix_len _ _)
  have l := block_len turn data
  have mp := many_pos data
  have e1 : (blockF turn data).set 0 ((secF turn data 0).take 10 ++ fixF N 4 ++ (secF turn data 0).drop 14) ++ rest = ((secF turn data 0).take 10 ++ fixF N 4 ++ (secF turn data 0).drop 14) :: (r ++ rest) := by rw [er]; rfl
  have rows : ∀ s ∈ (blockF turn data).set 0 ((secF turn data 0).take 10 ++ fixF N 4 ++ (secF turn data 0).drop 14) ++ rest, By s ∧ s.length = 64 := fun s ms => by
    rcases List.mem_append.mp ms with ms | ms
    · rcases List.mem_or_eq_of_mem_set ms with ms | rfl
      · obtain ⟨i, _, rfl⟩ := mem_block ms
        exact ⟨sec_by bd i, sec_len turn data i⟩
      · refine ⟨fun b mb => ?_, a2⟩
        simp only [List.mem_append] at mb
        rcases mb with (mb | mb) | mb
        · exact sec_by bd 0 b (List.mem_of_mem_take mb)
        · exact fix_b _ _ b mb
        · exact sec_by bd 0 b (List.mem_of_mem_drop mb)
    · exact hr s ms
  have len : manyF data ≤ ((blockF turn data).set 0 ((secF turn data 0).take 10 ++ fixF N 4 ++ (secF turn data 0).drop 14) ++ rest).length := by
    rw [List.length_append, List.length_set, l]
    omega
  rw [readS e1 (by rw [a1]; exact sec_many turn data 0 (many_lt hd)) mp len]
  split
  · rfl
  rw [if_pos]
  have t4 : (body ((blockF turn data).set 0 ((secF turn data 0).take 10 ++ fixF N 4 ++ (secF turn data 0).drop 14) ++ rest) (manyF data)).take 4 = fixF N 4 := by
    rw [e1]
    obtain ⟨n, e⟩ : ∃ n, manyF data = n + 1 := ⟨manyF data - 1, by omega⟩
    unfold body
    rw [e, List.take_succ_cons, List.map_cons, List.flatten_cons, a3, List.append_assoc, List.take_append_of_le_length (by rw [fix_len]; exact Nat.le_refl _), List.take_of_length_le (by rw [fix_len]; exact Nat.le_refl _)]
  rw [t4, body_len rows _ len, num_fix, Int.emod_eq_of_lt hn h1]
  omega
def Rows (H : Hp) (ts : List Addr) (xss : List (List Int)) : Prop := ts.length = xss.length ∧ ∀ (i : Nat) (t : Addr) (xs : List Int), ts[i]? = some t → xss[i]? = some xs → LI H t xs
theorem rows_app {H : Hp} {ts us : List Addr} {xss yss : List (List Int)} (a : Rows H ts xss) (b : Rows H us yss) : Rows H (ts ++ us) (xss ++ yss) := by
  refine ⟨by rw [List.length_append, List.length_append, a.1, b.1], fun i t xs e1 e2 => ?_⟩
  by_cases h : i < ts.length
  · rw [List.getElem?_append_left h] at e1
    rw [List.getElem?_append_left (by rw [← a.1]; exact h)] at e2
    exact a.2 i t xs e1 e2
  · rw [List.getElem?_append_right (by omega)] at e1
    rw [List.getElem?_append_right (by rw [← a.1]; omega), ← a.1] at e2
    exact b.2 _ t xs e1 e2
theorem rows_rep {H : Hp} {ts : List Addr} {xss : List (List Int)} (a : Rows H ts xss) : ∀ k : Nat, Rows H (List.replicate k ts).flatten (List.replicate k xss).flatten
  | 0 => ⟨rfl, fun i t xs e => by simp at e⟩
  | k + 1 => by
    rw [List.replicate_succ, List.replicate_succ, List.flatten_cons, List.flatten_cons]
    exact rows_app a (rows_rep a k)
theorem rows_same {H H' : Hp} {ts : List Addr} {xss : List (List Int)} (s : Same H H') (a : Rows H ts xss) : Rows H' ts xss := ⟨a.1, fun i t xs e1 e2 => (a.2 i t xs e1 e2).same s⟩
theorem refs_rep (ts : List Addr) : ∀ k : Nat, (List.replicate k (ts.map V.ref)).flatten = ((List.replicate k ts).flatten).map V.ref
  | 0 => rfl
  | k + 1 => by rw [List.replicate_succ, List.replicate_succ, List.flatten_cons, List.flatten_cons, List.map_append, refs_rep ts k]
theorem LL.of {H : Hp} {l : Addr} {ts : List Addr} {xss : List (List Int)} (e : H l = some (.lst (ts.map V.ref))) (r : Rows H ts xss) : LL No H l xss := ⟨ts, e, r.1, r.2, fun _ _ z => z⟩
/-- a list of rows of 64 bytes, none of it the state a -/
structure LA (a : Addr) (H : Hp) (l : Addr) (xss : List (List Int)) : Prop where
  ne : l ≠ a
  by_ : ∀ xs ∈ xss, By xs ∧ xs.length = 64
  ex : ∃ ts : List Addr, H l = some (.lst (ts.map V.ref)) ∧ Rows H ts xss ∧ ∀ t ∈ ts, t ≠ a
theorem LA.same {a : Addr} {H H' : Hp} {l : Addr} {xss : List (List Int)} (s : Same H H') (h : LA a H l xss) : LA a H' l xss := by
  obtain ⟨ts, e, r, n⟩ := h.ex
  exact ⟨h.ne, h.by_, ts, s _ _ e, rows_same s r, n⟩
theorem LA.gw {a : Addr} {H H' : Hp} {l : Addr} {xss : List (List Int)} (s : Gw a H H') (h : LA a H l xss) : LA a H' l xss := by
  obtain ⟨ts, e, r, n⟩ := h.ex
  exact ⟨h.ne, h.by_, ts, s _ _ h.ne e, ⟨r.1, fun i t xs e1 e2 => s _ _ (n t (List.mem_of_getElem? e1)) (r.2 i t xs e1 e2)⟩, n⟩
theorem LA.ll {a : Addr} {H : Hp} {l : Addr} {xss : List (List Int)} (h : LA a H l xss) : LL No H l xss := by
  obtain ⟨ts, e, r, _⟩ := h.ex
  exact LL.of e r
theorem LA.of {a : Addr} {H : Hp} {l : Addr} {xss : List (List Int)} (S : St H a) (ne : l ≠ a) (b : ∀ xs ∈ xss, By xs ∧ xs.length = 64) (h : LL No H l xss) : LA a H l xss := by
  obtain ⟨ts, e, ln, g, _⟩ := h
  refine ⟨ne, b, ts, e, ⟨ln, g⟩, fun t mt => ?_⟩
  obtain ⟨i, ei⟩ := List.mem_iff_getElem?.mp mt
  have hi := (List.getElem?_eq_some_iff.mp ei).1
  have ex : xss[i]? = some (xss[i]'(by omega)) := List.getElem?_eq_getElem (by omega)
  exact S.far (g i t _ ei ex) (by rw [List.length_map]; exact (b _ (List.mem_of_getElem? ex)).2)
def tabD (xss : List (List Int)) : PyData := .list (xss.map fun r => .list (r.map PyData.int))
theorem LL.dp {K : PySem.W.Frag} {H : Hp} {l : Addr} {xss : List (List Int)} (h : LL No H l xss) : Dp K H (.ref l) (tabD xss) := by
  obtain ⟨ts, e, ln, g, _⟩ := h
  refine .lst (SqL.of e) (dpAll_of (by rw [List.length_map, List.length_map, ln]) fun i v d e1 e2 => ?_)
  rw [List.getElem?_map] at e1 e2
  obtain ⟨t, et, rfl⟩ := Option.map_eq_some_iff.mp e1
  obtain ⟨r, er, rfl⟩ := Option.map_eq_some_iff.mp e2
  exact dpI (g i t r et er)
theorem ok2T {xss : List (List Int)} (h : xss.length ≤ 10000) (h2 : ∀ r ∈ xss, r.length ≤ 10000) : okD 2 (tabD xss) = true := by
  unfold tabD
  rw [okD, List.length_map, decide_eq_true h, Bool.true_and, List.all_map, List.all_eq_true]
  exact fun r mr => ok1I (h2 r mr) 0
/-- a copy of the rows of a block, all of them new -/
structure Cp (t : Int) (data : List Int) (H : Hp) (D : Addr) (ts : List Addr) : Prop where
  e : H D = some (.lst (ts.map V.ref))
  l : ts.length = manyF data
  g : ∀ (i : Nat) (q : Addr), ts[i]? = some q → q ≠ D ∧ LI H q (secF t data i)
  d : ∀ (i j : Nat) (q : Addr), ts[i]? = some q → ts[j]? = some q → i = j
theorem Cp.gw {t : Int} {data : List Int} {H H' : Hp} {D a : Addr} {ts : List Addr} (h : Cp t data H D ts) (S : St H a) (ne : D ≠ a) (s : Gw a H H') : Cp t data H' D ts :=
  ⟨s _ _ ne h.e, h.l, fun i q eq => ⟨(h.g i q eq).1, s _ _ (S.far (h.g i q eq).2 (by rw [List.length_map, sec_len])) (h.g i q eq).2⟩, h.d⟩
theorem Cp.same {t : Int} {data : List Int} {H H' : Hp} {D : Addr} {ts : List Addr} (h : Cp t data H D ts) (s : Same H H') : Cp t data H' D ts :=
  ⟨s _ _ h.e, h.l, fun i q eq => ⟨(h.g i q eq).1, s _ _ (h.g i q eq).2⟩, h.d⟩
theorem Cp.at {t : Int} {data : List Int} {H : Hp} {D : Addr} {ts : List Addr} (h : Cp t data H D ts) {i : Nat} (hi : i < manyF data) : ∃ q, ts[i]? = some q ∧ (ts.map V.ref)[i]? = some (V.ref q) ∧ q ≠ D ∧ LI H q (secF t data i) := by
  have e : ts[i]? = some (ts[i]'(by rw [h.l]; exact hi)) := List.getElem?_eq_getElem (by rw [h.l]; exact hi)
  exact ⟨_, e, by rw [List.getElem?_map, e]; rfl, h.g i _ e⟩
/-- one row is written anew -/
theorem Cp.set {t : Int} {data : List Int} {H : Hp} {D q : Addr} {ts : List Addr} (h : Cp t data H D ts) {i : Nat} (eq : ts[i]? = some q) (ys : List Int) : (upd H q (.lst (ys.map V.int))) D = some (.lst (ts.map V.ref)) ∧ Rows (upd H q (.lst (ys.map V.int))) ts ((blockF t data).set i ys) := by
  have qD := (h.g i q eq).1
  have hi : i < manyF data := by rw [← h.l]; exact (List.getElem?_eq_some_iff.mp eq).1
  refine ⟨by rw [upd_ne qD.symm]; exact h.e, by rw [List.length_set, block_len, h.l], fun j r xs e1 e2 => ?_⟩
  by_cases z : j = i
  · subst z
    rw [eq] at e1
    cases e1
    rw [List.getElem?_set_self (by rw [block_len]; exact hi)] at e2
    cases e2
    exact upd_same
  · have rq : r ≠ q := fun y => z (h.d j i q (y ▸ e1) eq)
    rw [List.getElem?_set_ne (Ne.symm z), gR_sec t data (by rw [← h.l]; exact (List.getElem?_eq_some_iff.mp e1).1)] at e2
    cases e2
    rw [LI, upd_ne rq]
    exact (h.g j r e1).2
theorem block_rows {t : Int} {data : List Int} (bd : By data) : ∀ xs ∈ blockF t data, By xs ∧ xs.length = 64 := fun xs m => by
  obtain ⟨i, _, rfl⟩ := mem_block m
  exact ⟨sec_by bd i, sec_len t data i⟩
theorem many8 {data : List Int} (h : data.length ≤ 400) : manyF data ≤ 8 := by unfold manyF; rw [told_len]; omega
theorem rows_zero (k : Nat) : ∀ xs ∈ List.replicate k (List.replicate 64 (0 : Int)), By xs ∧ xs.length = 64 := fun xs m => by
  rw [(List.mem_replicate.mp m).2]
  exact ⟨fun b mb => by rw [(List.mem_replicate.mp mb).2]; decide, List.length_replicate⟩
theorem rep1 {α : Type} (x : α) : ∀ k : Nat, (List.replicate k [x]).flatten = List.replicate k x
  | 0 => rfl
  | k + 1 => by rw [List.replicate_succ, List.replicate_succ, List.flatten_cons, rep1 x k]; rfl
theorem rep_len {α : Type} (xs : List α) (k : Nat) : (List.replicate k xs).flatten.length = k * xs.length := by
  induction k with
  | zero => simp
  | succ k ih => rw [List.replicate_succ, List.flatten_cons, List.length_append, ih, Nat.succ_mul]; omega
end K1
namespace K1
open PySem PySem.Spec PyProof.Rows L2 Ow Po Dd Bk
abbrev s_law_asks_block : Stmt := topS 26
abbrev N_law_asks_block : List Str := ["state", "turn", "data", "block", "passed", "others", "sectors", "place", "spoilt", "at", "sector"]
theorem sc_law_asks_block : FnScope N_law_asks_block ["state"] (defScope s_law_asks_block) := ⟨rfl, rfl, rfl, by decide +kernel, rfl, by decide +kernel, by decide +kernel⟩
section
variable {P : Program} {w : World} {K : PySem.W.Frag} {mg : Str → Option Value} {base : Heap}
theorem ok_askblock {f : Addr} {fd : FuncData} (F : Fun K "_law_asks_block" "_law_asks_block" s_law_asks_block f fd) (T0 : Bl mg) (D_law_next : Kn P w K mg base 1 "_law_next" ["state", "limit"] spNext) (D_law_turn : Kn P w K mg base 2 "_law_turn" ["state"] spTurn) (D_law_bytes : Kn P w K mg base 2 "_law_bytes" ["state"] spBytes) (D_law_fixed : Kn P w K mg base 1 "_law_fixed" ["number", "count"] spFixed)
    (D_law_block : Kn P w K mg base 2 "_law_block" ["turn", "data"] spWb) (Dwrite_block : Kn P w K mg base 2 "write_block" ["turn", "data"] spWb) (Dread_block : Kn P w K mg base 3 "read_block" ["sectors", "turn"] spRb) (D_law_same : Kn P w K mg base 3 "_law_same" ["actual", "expected"] (spSame K 2)) : FnOk P w K mg base CX0 4 f fd ["state"] spAsk := by
  refine F.ok sc_law_asks_block (fun vs H Q E h => ?_) (fun cdv A outer s H vs Q E hr h => ?_)
  · obtain ⟨a, rfl, _⟩ := h
    rfl
  · obtain ⟨a, rfl, S, q⟩ := h
    refine ⟨_, (pss_cons (ps_set (i := 1) sc_law_asks_block.nd rfl (.inl rfl) (pe_kn D_law_turn hr (pa_cons (pv 0) pa_nil)))
      (pss_cons (ps_set (i := 2) sc_law_asks_block.nd rfl (.inl rfl) (pe_kn D_law_bytes hr (pa_cons (pv 0) pa_nil)))
      (pss_cons (ps_set (i := 3) sc_law_asks_block.nd rfl (.inl rfl) (pe_kn D_law_block hr (pa_cons (pv 1) (pa_cons (pv 2) pa_nil))))
      (pss_cons (ps_set (i := 4) sc_law_asks_block.nd rfl (.inl rfl) (pe_callTy call_list_of (by rfl) T0.list (by decide +kernel) (pa_cons (pv 2) pa_nil)))
      (pss_cons (ps_if (PW.pt (pw_or (pt_not (pt_val (pe_kn D_law_same hr (pa_cons (pe_kn Dwrite_block hr (pa_cons (pv 1) (pa_cons (pv 4) pa_nil))) (pa_cons (pv 3) pa_nil))))) (pw_or1 (pt_cmpR (op_neD (hu64 hr)) (pv 4) (pv 2) (nomark _))))) (pss_one (ps_ret pe_bl)) pss_nil)
      (pss_cons (ps_set (i := 5) sc_law_asks_block.nd rfl (.inl rfl) (pe_kn D_law_block hr (pa_cons (pe_ix ix_list (pe_lst (pa_cons (pv 1) (pa_cons (pe_op op_add (pv 1) pe_int) pa_nil))) (pe_kn D_law_next hr (pa_cons (pv 0) (pa_cons pe_int pa_nil))) (fun _ _ => rfl)) (pa_cons (pe_kn D_law_bytes hr (pa_cons (pv 0) pa_nil)) pa_nil))))
      (pss_cons (ps_set (i := 6) sc_law_asks_block.nd rfl (.inl rfl) (pe_op op_cat (pe_op op_cat (pv 3) (pe_op op_rep (pv 5) (pe_kn D_law_next hr (pa_cons (pv 0) (pa_cons pe_int pa_nil))))) (pe_op op_rep (pe_lst (pa_cons (pe_op op_rep (pe_lst (pa_cons pe_int pa_nil)) pe_int) pa_nil)) (pe_kn D_law_next hr (pa_cons (pv 0) (pa_cons pe_int pa_nil))))))
      (pss_cons (ps_if (pt_not (pt_val (pe_kn D_law_same hr (pa_cons (pe_kn Dread_block hr (pa_cons (pv 6) (pa_cons (pv 1) pa_nil))) (pa_cons (pe_tup (pa_cons (pv 2) (pa_cons (pe_callB call_len_seq (by rfl) T0.len PySem.boot_len (pa_cons (pv 3) pa_nil)) pa_nil))) pa_nil))))) (pss_one (ps_ret pe_bl)) pss_nil)
      (pss_cons (ps_if (PW.pt (pw_or (pt_cmpR op_notN (pe_kn Dread_block hr (pa_cons (pv 6) (pa_cons (pe_op op_add (pv 1) pe_int) pa_nil))) pe_non (nomark _)) (pw_or1 (pt_cmpR op_notN (pe_kn Dread_block hr (pa_cons (pe_lst pa_nil) (pa_cons (pv 1) pa_nil))) pe_non (nomark _))))) (pss_one (ps_ret pe_bl)) pss_nil)
      (pss_cons (ps_if (pt_cmpR op_notN (pe_kn Dread_block hr (pa_cons (pe_slice sl_list (pv 3) po_none (po_some (pe_op op_sub (pe_callB call_len_seq (by rfl) T0.len PySem.boot_len (pa_cons (pv 3) pa_nil)) pe_int))) (pa_cons (pv 1) pa_nil))) pe_non (nomark _)) (pss_one (ps_ret pe_bl)) pss_nil)
      (pss_cons (ps_set (i := 7) sc_law_asks_block.nd rfl (.inl rfl) (pe_kn D_law_next hr (pa_cons (pv 0) (pa_cons (pe_callB call_len_seq (by rfl) T0.len PySem.boot_len (pa_cons (pv 3) pa_nil)) pa_nil))))
      (pss_cons (ps_setLc (i := 8) (own := [("sector", 10)]) (g := gName 10) (tt := tYes) rfl sc_law_asks_block.nd rfl rfl (sw_true rfl rfl rfl (by decide +kernel)) (pi_list (pv 3)) (blkOk_by (own := [("sector", 10)]) (N := N_law_asks_block) (sc := defScope s_law_asks_block) (by decide +kernel)) (fun _ _ _ _ _ => pg_name (i := 10) sc_law_asks_block.nd rfl (Or.inl rfl)) (fun _ _ _ _ _ => pts_nil) (fun _ _ _ _ _ => (pe_callTy (call_list_K rfl) (by rfl) T0.list (by decide +kernel) (pa_cons (pv 10) pa_nil))))
      (pss_cons (ps_set (i := 9) sc_law_asks_block.nd rfl (.inl rfl) (pe_kn D_law_next hr (pa_cons (pv 0) (pa_cons pe_int pa_nil))))
      (pss_cons (ps_asg (pe_op op_mod (pe_op op_add (pe_op op_add (pe_ix ix_list (pe_ix ix_list (pv 8) (pv 7) (fun _ _ => rfl)) (pv 9) (fun _ _ => rfl)) pe_int) (pe_kn D_law_next hr (pa_cons (pv 0) (pa_cons pe_int pa_nil)))) pe_int) (pg_sub (pe_ix ix_list (pv 8) (pv 7) (fun _ _ => rfl)) (pv 9) set_list))
      (pss_cons (ps_if (pt_cmpR op_notN (pe_kn Dread_block hr (pa_cons (pe_op op_cat (pv 8) (pv 5)) (pa_cons (pv 1) pa_nil))) pe_non (nomark _)) (pss_one (ps_ret pe_bl)) pss_nil)
      (pss_cons (ps_setLc (i := 8) (own := [("sector", 10)]) (g := gName 10) (tt := tYes) rfl sc_law_asks_block.nd rfl rfl (sw_true rfl rfl rfl (by decide +kernel)) (pi_list (pv 3)) (blkOk_by (own := [("sector", 10)]) (N := N_law_asks_block) (sc := defScope s_law_asks_block) (by decide +kernel)) (fun _ _ _ _ _ => pg_name (i := 10) sc_law_asks_block.nd rfl (Or.inl rfl)) (fun _ _ _ _ _ => pts_nil) (fun _ _ _ _ _ => (pe_callTy (call_list_K rfl) (by rfl) T0.list (by decide +kernel) (pa_cons (pv 10) pa_nil))))
      (pss_cons (ps_asg (pe_kn D_law_fixed hr (pa_cons (pe_op op_add (pe_op op_sub (pe_op op_mul pe_int (pe_callB call_len_seq (by rfl) T0.len PySem.boot_len (pa_cons (pv 3) pa_nil))) pe_int) (pe_kn D_law_next hr (pa_cons (pv 0) (pa_cons pe_int pa_nil)))) (pa_cons pe_int pa_nil))) (pg_slice (pe_ix ix_list (pv 8) pe_int (fun _ _ => rfl)) (po_some pe_int) (po_some pe_int)))
      (pss_cons (ps_if (pt_cmpR op_notN (pe_kn Dread_block hr (pa_cons (pe_op op_cat (pv 8) (pv 5)) (pa_cons (pv 1) pa_nil))) pe_non (nomark _)) (pss_one (ps_ret pe_bl)) pss_nil)
      (pss_cons (ps_setLc (i := 8) (own := [("sector", 10)]) (g := gName 10) (tt := tYes) rfl sc_law_asks_block.nd rfl rfl (sw_true rfl rfl rfl (by decide +kernel)) (pi_list (pv 3)) (blkOk_by (own := [("sector", 10)]) (N := N_law_asks_block) (sc := defScope s_law_asks_block) (by decide +kernel)) (fun _ _ _ _ _ => pg_name (i := 10) sc_law_asks_block.nd rfl (Or.inl rfl)) (fun _ _ _ _ _ => pts_nil) (fun _ _ _ _ _ => (pe_callTy (call_list_K rfl) (by rfl) T0.list (by decide +kernel) (pa_cons (pv 10) pa_nil))))
      (pss_cons (ps_asg (pe_lst (pa_cons pe_int (pa_cons pe_int (pa_cons pe_int (pa_cons pe_int pa_nil))))) (pg_slice (pe_ix ix_list (pv 8) pe_int (fun _ _ => rfl)) (po_some pe_int) (po_some pe_int)))
      (pss_one (ps_ret (pe_cmpR op_isN (pe_kn Dread_block hr (pa_cons (pv 8) (pa_cons (pv 1) pa_nil))) pe_non (nomark _)))))))))))))))))))))))), ?_⟩
    refine ⟨_, rfl, a, rfl, S, fun H1 t S1 g1 t1 t2 => ?_⟩
    refine ⟨_, rfl, a, rfl, S1, fun H2 ld data S2 g2 nd ed hl bd => ?_⟩
    have t0 : 0 ≤ t := by omega
    have t6 : t < 256 ^ 6 := Int.lt_of_le_of_lt t2 (by decide)
    have da : ld ≠ a := S1.fresh nd
    have g2 := g1.trans g2
    have m8 := many8 hl
    have mp := many_pos data
    have d1000 : data.length ≤ 1000 := by omega
    refine ⟨_, rfl, _, rfl, t, ld, data, rfl, ed, d1000, fun H3 lb s3 nb Lb => ?_⟩
    have Lb := LA.of (S2.same s3) (S2.fresh nb) (block_rows bd) Lb
    -- written
    refine ⟨_, rfl, ld, _, rfl, .inl (ed.same s3).seq, fun lp np => ?_⟩
    refine ⟨_, rfl, _, rfl, t, lp, data, rfl, upd_same, d1000, fun H5 lw s5 nw Lw => ⟨_, rfl, .ref lw, .ref lb, tabD (blockF t data), rfl, LL.dp (K := K) Lw, LL.dp (K := K) (Lb.same ((Same.new np).trans s5)).ll, ok2T (by rw [block_len]; omega) (fun r mr => by rw [(block_rows bd r mr).2]; decide), fun H6 s6 => ⟨_, rfl, iteF ?_⟩⟩⟩
    have s6' := s5.trans s6
    have s36 := (Same.new (o := .lst (data.map V.int)) np).trans s6'
    refine ⟨_, rfl, _, rfl, .list (data.map PyData.int), .list (data.map PyData.int), dpI (s6' _ _ upd_same), dpI (ed.same (s3.trans s36)), PySem.W.ke_shaped_ints _, PySem.W.ke_shaped_ints _, _, rfl, ?_⟩
    rw [PyData.eqv, eqvI, decide_eq_true rfl]
    refine iteF ?_
    have S6 := S2.same (s3.trans s36)
    have g6 := g2.trans (Gw.same (s3.trans s36))
    have Lb := Lb.same s36
    have ed := ed.same (s3.trans s36)
    clear s6' s36
    -- others
    refine ⟨_, rfl, _, rfl, _, _, rfl, rfl, by show 2 ≤ sizeLine; decide, fun pl nl => ⟨_, rfl, a, 2, rfl, S6.same (Same.new nl), by decide, by decide, fun H7 k S7 g7 k0 k1 => ?_⟩⟩
    have el : H7 pl = some (.lst [.int t, .int (t + 1)]) := g7 _ _ (S6.fresh nl) upd_same
    obtain ⟨y, ey, my⟩ := at_in (xs := [V.int t, .int (t + 1)]) k0 k1
    have my : ∃ t', y = .int t' := by
      simp only [List.mem_cons, List.not_mem_nil, or_false] at my
      rcases my with z | z
      · exact ⟨_, z⟩
      · exact ⟨_, z⟩
    obtain ⟨t', rfl⟩ := my
    refine ⟨pl, _, _, _, rfl, rfl, SqL.of el, ey, ?_⟩
    refine ⟨_, rfl, a, rfl, S7, fun H8 ld2 data2 S8 g8 nd2 ed2 hl2 bd2 => ⟨t', ld2, data2, rfl, ed2, by omega, fun H9 lo s9 no Lo => ?_⟩⟩
    have g69 : Gw a H6 H9 := (Gw.same (Same.new nl)).trans (g7.trans (g8.trans (Gw.same s9)))
    have Lo := LA.of (S8.same s9) (S8.fresh no) (block_rows bd2) Lo
    have Lb := Lb.gw g69
    have ed : LI H9 ld data := g69 _ _ da ed
    have S9 := S8.same s9
    have g9 := g6.trans g69
    have lO : (blockF t' data2).length ≤ 8 := by rw [block_len]; exact many8 hl2
    generalize blockF t' data2 = ow at Lo lO
    have lB := block_len t data
    clear el ey g69 g7 g8 s9 nd2 ed2 bd2 hl2
    -- sectors
    refine ⟨_, rfl, _, rfl, _, rfl, a, 2, rfl, S9, by decide, by decide, fun H10 k S10 g10 k0 k1 => ?_⟩
    have Lb := Lb.gw g10
    have Lo := Lo.gw g10
    have ed : LI H10 ld data := g10 _ _ da ed
    have g10 := g9.trans g10
    obtain ⟨tb, eb, rb, nb'⟩ := Lb.ex
    obtain ⟨to, eo, ro, no'⟩ := Lo.ex
    have ltb : tb.length = manyF data := rb.1.trans lB
    have lto : to.length ≤ 8 := by rw [ro.1]; exact lO
    refine ⟨lo, k, _, rfl, rfl, eo, by omega, by omega, ?_, fun p1 n1 => ?_⟩
    · rw [List.length_map]
      have : to.length * k.toNat ≤ 8 * 1 := Nat.mul_le_mul lto (by omega)
      exact Nat.le_of_lt (small (m := 100) (show to.length * k.toNat ≤ 100 by omega) (by decide))
    refine ⟨lb, p1, _, _, rfl, rfl, Same.new n1 _ _ eb, upd_same, ?_, fun p2 n2 => ?_⟩
    · rw [rep_len, List.length_map, List.length_map, ltb]
      have : k.toNat * to.length ≤ 1 * 8 := Nat.mul_le_mul (by omega) lto
      exact Nat.le_of_lt (small (m := 100) (show manyF data + k.toNat * to.length ≤ 100 by omega) (by decide))
    have sA : Same H10 (upd (upd H10 p1 (.lst (List.replicate k.toNat (to.map V.ref)).flatten)) p2 (.lst (tb.map V.ref ++ (List.replicate k.toNat (to.map V.ref)).flatten))) := (Same.new n1).trans (Same.new n2)
    have eA : (upd (upd H10 p1 (.lst (List.replicate k.toNat (to.map V.ref)).flatten)) p2 (.lst (tb.map V.ref ++ (List.replicate k.toNat (to.map V.ref)).flatten))) p2 = some (.lst ((tb ++ (List.replicate k.toNat to).flatten).map V.ref)) := by
      rw [upd_same, refs_rep, ← List.map_append]
    have p2a : p2 ≠ a := (S10.same (Same.new n1)).fresh n2
    generalize (upd (upd H10 p1 (.lst (List.replicate k.toNat (to.map V.ref)).flatten)) p2 (.lst (tb.map V.ref ++ (List.replicate k.toNat (to.map V.ref)).flatten))) = HA at sA eA ⊢
    refine ⟨by show 1 ≤ sizeLine; decide, fun q1 m1 => ⟨q1, 64, _, rfl, rfl, upd_same, by decide, by decide, by decide, fun q2 m2 => ⟨by show 1 ≤ sizeLine; decide, fun q3 m3 => ?_⟩⟩⟩
    have sB : Same HA (upd (upd (upd HA q1 (.lst [V.int 0])) q2 (.lst (List.replicate (64 : Int).toNat [V.int 0]).flatten)) q3 (.lst [V.ref q2])) := (Same.new m1).trans ((Same.new m2).trans (Same.new m3))
    have eB : LI (upd (upd (upd HA q1 (.lst [V.int 0])) q2 (.lst (List.replicate (64 : Int).toNat [V.int 0]).flatten)) q3 (.lst [V.ref q2])) q2 (List.replicate 64 0) := (hr0 (n := 64) (a := q2) upd_same).same (Same.new m3)
    have eC : (upd (upd (upd HA q1 (.lst [V.int 0])) q2 (.lst (List.replicate (64 : Int).toNat [V.int 0]).flatten)) q3 (.lst [V.ref q2])) q3 = some (.lst [V.ref q2]) := upd_same
    have q3a : q3 ≠ a := (S10.same (sA.trans ((Same.new m1).trans (Same.new m2)))).fresh m3
    generalize (upd (upd (upd HA q1 (.lst [V.int 0])) q2 (.lst (List.replicate (64 : Int).toNat [V.int 0]).flatten)) q3 (.lst [V.ref q2])) = HB at sB eB eC ⊢
    have S11 := S10.same (sA.trans sB)
    have q2a : q2 ≠ a := S11.far eB (by rw [List.length_map, List.length_replicate])
    refine ⟨_, rfl, a, 3, rfl, S11, by decide, by decide, fun H12 j S12 g12 j0 j1 => ?_⟩
    have Lb := (Lb.same (sA.trans sB)).gw g12
    have Lo := (Lo.same (sA.trans sB)).gw g12
    have ed : LI H12 ld data := g12 _ _ da (ed.same (sA.trans sB))
    have eA : H12 p2 = _ := g12 _ _ p2a (sB _ _ eA)
    have eB : LI H12 q2 _ := g12 _ _ q2a eB
    have eC : H12 q3 = _ := g12 _ _ q3a eC
    have rb : Rows H12 tb _ := ⟨rb.1, fun i r xs e1 e2 => g12 _ _ (nb' r (List.mem_of_getElem? e1)) (rows_same (sA.trans sB) rb |>.2 i r xs e1 e2)⟩
    have ro : Rows H12 to _ := ⟨ro.1, fun i r xs e1 e2 => g12 _ _ (no' r (List.mem_of_getElem? e1)) (rows_same (sA.trans sB) ro |>.2 i r xs e1 e2)⟩
    have g12 := g10.trans ((Gw.same (sA.trans sB)).trans g12)
    clear sA sB g10
    have rz : Rows H12 [q2] [List.replicate 64 0] := ⟨rfl, fun i r xs e1 e2 => by
      match i, e1, e2 with
      | 0, e1, e2 =>
        cases e1
        cases e2
        exact eB⟩
    refine ⟨q3, j, _, rfl, rfl, eC, by omega, by omega, ?_, fun q4 m4 => ⟨p2, q4, _, _, rfl, rfl, Same.new m4 _ _ eA, upd_same, ?_, fun q5 m5 => ?_⟩⟩
    · show 1 * j.toNat ≤ sizeLine
      exact Nat.le_of_lt (small (m := 100) (show 1 * j.toNat ≤ 100 by omega) (by decide))
    · rw [rep_len, List.length_map, List.length_append, rep_len, ltb]
      have : k.toNat * to.length ≤ 1 * 8 := Nat.mul_le_mul (by omega) lto
      show manyF data + k.toNat * to.length + j.toNat * 1 ≤ sizeLine
      exact Nat.le_of_lt (small (m := 100) (show manyF data + k.toNat * to.length + j.toNat * 1 ≤ 100 by omega) (by decide))
    have sD := (Same.new (o := .lst (List.replicate j.toNat [V.ref q2]).flatten) m4).trans (Same.new (o := .lst ((tb ++ (List.replicate k.toNat to).flatten).map V.ref ++ (List.replicate j.toNat [V.ref q2]).flatten)) m5)
    have LX : LL No (upd (upd H12 q4 (.lst (List.replicate j.toNat [V.ref q2]).flatten)) q5 (.lst ((tb ++ (List.replicate k.toNat to).flatten).map V.ref ++ (List.replicate j.toNat [V.ref q2]).flatten))) q5 (blockF t data ++ ((List.replicate k.toNat ow).flatten ++ (List.replicate j.toNat [List.replicate 64 0]).flatten)) := by
      refine LL.of (ts := tb ++ ((List.replicate k.toNat to).flatten ++ (List.replicate j.toNat [q2]).flatten)) ?_ (rows_app (rows_same sD rb) (rows_app (rows_rep (rows_same sD ro) _) (rows_rep (rows_same sD rz) _)))
      rw [upd_same, show [V.ref q2] = [q2].map V.ref from rfl, refs_rep, ← List.map_append, List.append_assoc]
    generalize (upd (upd H12 q4 (.lst (List.replicate j.toNat [V.ref q2]).flatten)) q5 (.lst ((tb ++ (List.replicate k.toNat to).flatten).map V.ref ++ (List.replicate j.toNat [V.ref q2]).flatten))) = H13 at sD LX ⊢
    have Lb := Lb.same sD
    have Lo := Lo.same sD
    have ed := ed.same sD
    have S13 := S12.same sD
    have g13 := g12.trans (Gw.same sD)
    have lX : (blockF t data ++ ((List.replicate k.toNat ow).flatten ++ (List.replicate j.toNat [List.replicate 64 (0 : Int)]).flatten)).length ≤ 100 := by
      rw [List.length_append, List.length_append, rep_len, rep_len, lB]
      have : k.toNat * ow.length ≤ 1 * 8 := Nat.mul_le_mul (by omega) lO
      show manyF data + (k.toNat * ow.length + j.toNat * 1) ≤ 100
      omega
    have bX : ∀ xs ∈ blockF t data ++ ((List.replicate k.toNat ow).flatten ++ (List.replicate j.toNat [List.replicate 64 (0 : Int)]).flatten), By xs ∧ xs.length = 64 := fun xs m => by
      rcases List.mem_append.mp m with m | m
      · exact block_rows bd xs m
      rcases List.mem_append.mp m with m | m
      · obtain ⟨l, ml, mx⟩ := List.mem_flatten.mp m
        rw [(List.mem_replicate.mp ml).2] at mx
        exact Lo.by_ xs mx
      · rw [rep1] at m
        exact rows_zero _ xs m
    have R1 := read_block t data ((List.replicate k.toNat ow).flatten ++ (List.replicate j.toNat [List.replicate 64 (0 : Int)]).flatten) t0 t6 (by omega)
    have R2 := read_next t data ((List.replicate k.toNat ow).flatten ++ (List.replicate j.toNat [List.replicate 64 (0 : Int)]).flatten) t0 t6 d1000
    generalize blockF t data ++ ((List.replicate k.toNat ow).flatten ++ (List.replicate j.toNat [List.replicate 64 (0 : Int)]).flatten) = X at LX lX bX R1 R2
    clear eA eB eC rb ro rz eb eo sD nb' no' g12 S12 S11 S10
    -- read back
    refine ⟨_, rfl, _, rfl, q5, X, t, rfl, LX, lX, bX, (fun e => by rw [R1] at e; cases e), fun ds m e H14 p l s14 ep elp => ?_⟩
    rw [R1] at e
    cases e
    obtain ⟨tb2, eb2, rb2, _⟩ := (Lb.same s14).ex
    have ltb2 : tb2.length = manyF data := rb2.1.trans lB
    refine ⟨_, rfl, _, rfl, lb, _, rfl, .inl (SqL.of eb2), by show 2 ≤ sizeLine; decide, fun p2 n2 => ⟨.ref p, .ref p2, .tuple [.list (data.map PyData.int), .int (manyF data : Nat)], rfl, .tup (SqT.of (Same.new n2 _ _ ep)) (.cons (dpI (elp.same (Same.new n2))) (.cons (.int _) .nil)), .tup (SqT.of upd_same) (.cons (dpI ((ed.same s14).same (Same.new n2))) (.cons ?_ .nil)), ?_, fun H15 s15 => ⟨_, rfl, iteF ?_⟩⟩⟩
    · rw [List.length_map, ltb2]
      exact .int _
    · have := ok1I (xs := data) (by omega) 0
      show (decide (2 ≤ 10000) && (okD 1 (.list (data.map PyData.int)) && (okD 1 (.int _) && true))) = true
      rw [this]
      rfl
    have s15 := s14.trans ((Same.new n2).trans s15)
    clear eb2 rb2 ltb2
    -- another turn, nothing
    refine ⟨_, rfl, _, rfl, _, _, rfl, rfl, q5, X, t + 1, rfl, LX.same s15, lX, bX, fun _ H16 s16 => ⟨rfl, _, rfl, iteF ?_⟩, fun ds m e => by rw [R2] at e; cases e⟩
    refine ⟨by show 0 ≤ sizeLine; decide, fun p3 n3 => ⟨_, rfl, p3, [], t, rfl, LL.of (ts := []) upd_same ⟨rfl, fun i r xs e => by simp at e⟩, by decide, fun xs m => (nomatch m), fun _ H17 s17 => ⟨rfl, _, rfl, iteF ?_⟩, fun ds m e => by cases e⟩⟩
    have s17 := s15.trans (s16.trans ((Same.new n3).trans s17))
    clear R1 R2 bX lX
    clear LX
    have Lb := Lb.same s17
    have Lo := Lo.same s17
    have S17 := S13.same s17
    have g17 := g13.trans (Gw.same s17)
    clear s17
    -- one sector less
    obtain ⟨tb, eb, rb, nb'⟩ := Lb.ex
    have ltb : tb.length = manyF data := rb.1.trans lB
    refine ⟨_, rfl, _, rfl, lb, _, rfl, .inl (SqL.of eb), _, _, rfl, rfl, _, rfl, lb, _, rfl, SqL.of eb, fun p4 n4 => ?_⟩
    rw [List.length_map, ltb, show ((((manyF data : Nat) : Int)) - 1) = ((manyF data - 1 : Nat) : Int) by omega, cut_to, ← List.map_take]
    refine ⟨_, rfl, p4, (blockF t data).take (manyF data - 1), t, rfl, LL.of (ts := tb.take (manyF data - 1)) upd_same ⟨by rw [List.length_take, List.length_take, ltb, lB], fun i r xs e1 e2 => ?_⟩, by rw [List.length_take, lB]; omega, fun xs m => block_rows bd xs (List.mem_of_mem_take m), fun _ H18 s18 => ⟨rfl, _, rfl, iteF ?_⟩, fun ds m e => by rw [read_short t data d1000] at e; cases e⟩
    · have hi := (List.getElem?_eq_some_iff.mp e1).1
      rw [List.length_take] at hi
      rw [List.getElem?_take_of_lt (by omega)] at e1 e2
      exact (rb.2 i r xs e1 e2).same (Same.new n4)
    have s18 := (Same.new n4).trans s18
    have S18 := S17.same s18
    have Lb := Lb.same s18
    have Lo := Lo.same s18
    have g18 := g17.trans (Gw.same s18)
    clear eb rb nb' ltb
    -- a turn spoilt
    obtain ⟨tb, eb, rb, nb'⟩ := Lb.ex
    have ltb : tb.length = manyF data := rb.1.trans lB
    refine ⟨_, rfl, _, rfl, lb, _, rfl, .inl (SqL.of eb), a, (manyF data : Nat), by rw [List.length_map, ltb]; rfl, S18, by omega, by omega, fun H19 pc S19 g19 pc0 pc1 => ?_⟩
    have Lb := Lb.gw g19
    have Lo := Lo.gw g19
    have g19 := g18.trans g19
    clear eb rb nb' ltb
    obtain ⟨pn, rfl, hpn⟩ : ∃ pn : Nat, pc = (pn : Int) ∧ pn < manyF data := ⟨pc.toNat, by omega, by omega⟩
    obtain ⟨tb, eb, rb, nb'⟩ := Lb.ex
    have ltb : tb.length = manyF data := rb.1.trans lB
    refine ⟨_, rfl, lb, rfl, ⟨_, SqL.of eb⟩, fun D nD => ?_⟩
    refine lc_newD (walk_list (K := K) (a := lb) (xs := tb.map V.ref)) (fun i => (secF t data i).map V.int) (by rw [List.length_map, ltb]; exact small (show manyF data ≤ 8 from m8) (by decide)) nD (fun H s => SqL.of (s _ _ eb)) (fun i x H20 H20' N hi s20 yy fin => ?_) fun H20 ts s20 eD lD gD dD => ?_
    · obtain ⟨rfl, ex⟩ := yy
      rw [List.getElem?_map] at ex
      obtain ⟨r, er, rfl⟩ := Option.map_eq_some_iff.mp ex
      have hr' := (rb.2 i r _ er (gR_sec t data (by rw [← ltb]; exact (List.getElem?_eq_some_iff.mp er).1))).same s20
      exact ⟨rfl, _, rfl, r, _, rfl, .inl hr'.seq, fun p np => fin _ p (Same.new np) np upd_same⟩
    rw [List.length_map, ltb] at lD
    have C : Cp t data H20 D ts := ⟨eD, lD, fun i r e => ⟨(gD i r e).2.1, (gD i r e).2.2⟩, dD⟩
    obtain ⟨tq, et, _, _, _⟩ := C.at hpn
    have tqn : H19 tq = none := (gD pn tq et).1
    clear eD gD dD
    have S20 := S19.same s20
    have Da : D ≠ a := S19.fresh nD
    have g20 := g19.trans (Gw.same s20)
    have keep : Same H19 H20 := s20
    refine ⟨_, rfl, a, 6, rfl, S20, by decide, by decide, fun H21 ac S21 g21 ac0 ac1 => ?_⟩
    obtain ⟨an, rfl, han⟩ : ∃ an : Nat, ac = (an : Int) ∧ an < 6 := ⟨ac.toNat, by omega, by omega⟩
    have C21 := C.gw S20 Da g21
    obtain ⟨tq', et', etm, _, hq⟩ := C21.at hpn
    rw [et] at et'
    cases et'
    refine ⟨_, rfl, _, rfl, D, _, _, _, rfl, rfl, SqL.of C21.e, atI_nat etm, _, rfl, tq, _, _, _, rfl, rfl, hq.seq, atI_nat (li_at (by rw [sec_len]; omega)), _, _, rfl, rfl, _, rfl, a, 255, rfl, S21, by decide, by decide, fun H22 v S22 g22 v0 v1 => ⟨_, _, rfl, rfl, _, _, rfl, rfl, by show (0 : Int) < 256; decide, ?_⟩⟩
    have C22 := C21.gw S21 Da g22
    obtain ⟨tq', et', etm, _, hq⟩ := C22.at hpn
    rw [et] at et'
    cases et'
    refine ⟨_, rfl, _, rfl, D, _, _, _, rfl, rfl, SqL.of C22.e, atI_nat etm, _, rfl, tq, _, (an : Nat), an, rfl, rfl, hq, ixN_nat (by rw [List.length_map, sec_len]; omega), ?_⟩
    rw [set_map]
    have bs : 0 ≤ gI (secF t data pn) an ∧ gI (secF t data pn) an ≤ 255 := sec_by bd pn _ (List.mem_of_getElem? (at_gI (by rw [sec_len]; omega)))
    have lq : ((secF t data pn).map V.int).length = 64 := by rw [List.length_map, sec_len]
    obtain ⟨eD3, rD3⟩ := C22.set et ((secF t data pn).set an ((gI (secF t data pn) an + 1 + v) % 256))
    have S23 := S22.put (o := .lst (((secF t data pn).set an ((gI (secF t data pn) an + 1 + v) % 256)).map V.int)) hq lq
    have g1923 : Gw a H19 (upd H22 tq (.lst (((secF t data pn).set an ((gI (secF t data pn) an + 1 + v) % 256)).map V.int))) := ((Gw.same s20).trans (g21.trans g22)).over tqn
    generalize (upd H22 tq (.lst (((secF t data pn).set an ((gI (secF t data pn) an + 1 + v) % 256)).map V.int))) = H23 at eD3 rD3 S23 g1923 ⊢
    have Lb := Lb.gw g1923
    have Lo := Lo.gw g1923
    have g23 := g19.trans g1923
    have R3 := read_spoilt t data ow (p := pn) (i := an) (b := (gI (secF t data pn) an + 1 + v) % 256) t0 t6 d1000 hpn han (by omega)
    have b3 : ∀ xs ∈ (blockF t data).set pn ((secF t data pn).set an ((gI (secF t data pn) an + 1 + v) % 256)), By xs ∧ xs.length = 64 := fun xs m => by
      rcases List.mem_or_eq_of_mem_set m with m | rfl
      · exact block_rows bd xs m
      · exact ⟨by_set (sec_by bd pn) (by omega) (by omega), by rw [List.length_set, sec_len]⟩
    clear C C21 C22 et tqn keep g1923 etm hq S20 S21 S22 g20 g21 g22
    obtain ⟨to, eo, ro, no'⟩ := Lo.ex
    have lto : to.length ≤ 8 := by rw [ro.1]; exact lO
    refine ⟨_, rfl, _, rfl, D, lo, _, _, rfl, rfl, eD3, eo, ?_, fun p5 n5 => ?_⟩
    · rw [List.length_map, List.length_map, lD]
      exact Nat.le_of_lt (small (m := 100) (show manyF data + to.length ≤ 100 by omega) (by decide))
    refine ⟨_, rfl, p5, (blockF t data).set pn ((secF t data pn).set an ((gI (secF t data pn) an + 1 + v) % 256)) ++ ow, t, rfl, LL.of (ts := ts ++ to) (by rw [upd_same, ← List.map_append]) (rows_same (Same.new n5) (rows_app rD3 ro)), by rw [List.length_append, List.length_set, lB]; omega, fun xs m => (List.mem_append.mp m).elim (b3 xs) (Lo.by_ xs), fun _ H24 s24 => ⟨rfl, _, rfl, iteF ?_⟩, fun ds m e => by rw [R3] at e; cases e⟩
    have s24 := (Same.new n5).trans s24
    have S24 := S23.same s24
    have Lb := Lb.same s24
    have Lo := Lo.same s24
    have g24 := g23.trans (Gw.same s24)
    clear eb rb nb' ltb b3 R3 eo ro no' lto eD3 rD3 lD
    -- a length too great
    obtain ⟨tb, eb, rb, nb'⟩ := Lb.ex
    have ltb : tb.length = manyF data := rb.1.trans lB
    refine ⟨_, rfl, lb, rfl, ⟨_, SqL.of eb⟩, fun D nD => ?_⟩
    refine lc_newD (walk_list (K := K) (a := lb) (xs := tb.map V.ref)) (fun i => (secF t data i).map V.int) (by rw [List.length_map, ltb]; exact small (show manyF data ≤ 8 from m8) (by decide)) nD (fun H s => SqL.of (s _ _ eb)) (fun i x H25 H25' N hi s25 yy fin => ?_) fun H25 ts s25 eD lD gD dD => ?_
    · obtain ⟨rfl, ex⟩ := yy
      rw [List.getElem?_map] at ex
      obtain ⟨r, er, rfl⟩ := Option.map_eq_some_iff.mp ex
      have hr' := (rb.2 i r _ er (gR_sec t data (by rw [← ltb]; exact (List.getElem?_eq_some_iff.mp er).1))).same s25
      exact ⟨rfl, _, rfl, r, _, rfl, .inl hr'.seq, fun p np => fin _ p (Same.new np) np upd_same⟩
    rw [List.length_map, ltb] at lD
    have C : Cp t data H25 D ts := ⟨eD, lD, fun i r e => ⟨(gD i r e).2.1, (gD i r e).2.2⟩, dD⟩
    obtain ⟨tq, et, _, _, _⟩ := C.at mp
    have tqn : H24 tq = none := (gD 0 tq et).1
    clear eD gD dD
    have S25 := S24.same s25
    have Da : D ≠ a := S24.fresh nD
    refine ⟨_, rfl, lb, _, rfl, .inl (SqL.of (s25 _ _ eb)), _, _, rfl, rfl, .inl ⟨by decide, by decide⟩, _, _, rfl, rfl, _, rfl, a, 1000, rfl, S25, by decide, by decide, fun H26 v S26 g26 v0 v1 => ⟨_, _, rfl, rfl, 54 * ((manyF data : Nat) : Int) - 3 + v, 4, by rw [List.length_map, ltb]; rfl, by decide, fun H27 lf s27 nf ef => ?_⟩⟩
    have C27 := (C.gw S25 Da g26).same s27
    have S27 := S26.same s27
    obtain ⟨tq', et', etm, _, hq⟩ := C27.at mp
    rw [et] at et'
    cases et'
    have lq : ((secF t data 0).map V.int).length = 64 := by rw [List.length_map, sec_len]
    have tf : tq ≠ lf := fun z => by
      have h26 := ((C.gw S25 Da g26).g 0 tq et).2
      rw [z, LI, nf] at h26
      cases h26
    have tqa : tq ≠ a := S27.far hq lq
    refine ⟨_, rfl, D, _, _, _, rfl, rfl, SqL.of C27.e, atI_nat (j := 0) etm, _, rfl, _, rfl, tq, lf, _, _, 10, 14, rfl, rfl, hq, ef, tf, rfl, rfl, by decide, by decide, ?_, ?_, ?_⟩
    · rw [lq]
      decide
    · rw [lq, List.length_map, fix_len]
      show 64 + 4 ≤ sizeLine
      decide
    rw [show (10 : Int).toNat = 10 from rfl, show (14 : Int).toNat = 14 from rfl, map_take, map_drop, ← List.map_append, ← List.map_append]
    obtain ⟨eD3, rD3⟩ := C27.set et ((secF t data 0).take 10 ++ fixF (54 * ((manyF data : Nat) : Int) - 3 + v) 4 ++ (secF t data 0).drop 14)
    have S28 := S27.put (o := .lst (((secF t data 0).take 10 ++ fixF (54 * ((manyF data : Nat) : Int) - 3 + v) 4 ++ (secF t data 0).drop 14).map V.int)) hq lq
    have g2428 : Gw a H24 (upd H27 tq (.lst (((secF t data 0).take 10 ++ fixF (54 * ((manyF data : Nat) : Int) - 3 + v) 4 ++ (secF t data 0).drop 14).map V.int))) := ((Gw.same s25).trans (g26.trans (Gw.same s27))).over tqn
    generalize (upd H27 tq (.lst (((secF t data 0).take 10 ++ fixF (54 * ((manyF data : Nat) : Int) - 3 + v) 4 ++ (secF t data 0).drop 14).map V.int))) = H28 at eD3 rD3 S28 g2428 ⊢
    have Lb := Lb.gw g2428
    have Lo := Lo.gw g2428
    have g28 := g24.trans g2428
    have R4 := read_long t data ow (N := 54 * ((manyF data : Nat) : Int) - 3 + v) d1000 bd Lo.by_ (by omega) (Int.lt_of_lt_of_le (show 54 * ((manyF data : Nat) : Int) - 3 + v < 100000 by omega) (by decide)) (by omega)
    have b4 : ∀ xs ∈ (blockF t data).set 0 ((secF t data 0).take 10 ++ fixF (54 * ((manyF data : Nat) : Int) - 3 + v) 4 ++ (secF t data 0).drop 14), By xs ∧ xs.length = 64 := fun xs m => by
      rcases List.mem_or_eq_of_mem_set m with m | rfl
      · exact block_rows bd xs m
      · refine ⟨fun b mb => ?_, (sec10 t data 0 _ (fix_len _ _)).2.1⟩
        simp only [List.mem_append] at mb
        rcases mb with (mb | mb) | mb
        · exact sec_by bd 0 b (List.mem_of_mem_take mb)
        · exact fix_b _ _ b mb
        · exact sec_by bd 0 b (List.mem_of_mem_drop mb)
    clear C C27 et tqn g2428 etm hq S25 S26 S27 g26 ef tf tqa
    obtain ⟨to, eo, ro, no'⟩ := Lo.ex
    have lto : to.length ≤ 8 := by rw [ro.1]; exact lO
    refine ⟨_, rfl, _, rfl, D, lo, _, _, rfl, rfl, eD3, eo, ?_, fun p5 n5 => ?_⟩
    · rw [List.length_map, List.length_map, lD]
      exact Nat.le_of_lt (small (m := 100) (show manyF data + to.length ≤ 100 by omega) (by decide))
    refine ⟨_, rfl, p5, (blockF t data).set 0 ((secF t data 0).take 10 ++ fixF (54 * ((manyF data : Nat) : Int) - 3 + v) 4 ++ (secF t data 0).drop 14) ++ ow, t, rfl, LL.of (ts := ts ++ to) (by rw [upd_same, ← List.map_append]) (rows_same (Same.new n5) (rows_app rD3 ro)), by rw [List.length_append, List.length_set, lB]; omega, fun xs m => (List.mem_append.mp m).elim (b4 xs) (Lo.by_ xs), fun _ H29 s29 => ⟨rfl, _, rfl, iteF ?_⟩, fun ds m e => by rw [R4] at e; cases e⟩
    have s29 := (Same.new n5).trans s29
    have S29 := S28.same s29
    have Lb := Lb.same s29
    have g29 := g28.trans (Gw.same s29)
    clear eb rb nb' ltb b4 R4 eo ro no' lto eD3 rD3 lD
    -- no sector counted
    obtain ⟨tb, eb, rb, nb'⟩ := Lb.ex
    have ltb : tb.length = manyF data := rb.1.trans lB
    refine ⟨_, rfl, lb, rfl, ⟨_, SqL.of eb⟩, fun D nD => ?_⟩
    refine lc_newD (walk_list (K := K) (a := lb) (xs := tb.map V.ref)) (fun i => (secF t data i).map V.int) (by rw [List.length_map, ltb]; exact small (show manyF data ≤ 8 from m8) (by decide)) nD (fun H s => SqL.of (s _ _ eb)) (fun i x H30 H30' N hi s30 yy fin => ?_) fun H30 ts s30 eD lD gD dD => ?_
    · obtain ⟨rfl, ex⟩ := yy
      rw [List.getElem?_map] at ex
      obtain ⟨r, er, rfl⟩ := Option.map_eq_some_iff.mp ex
      have hr' := (rb.2 i r _ er (gR_sec t data (by rw [← ltb]; exact (List.getElem?_eq_some_iff.mp er).1))).same s30
      exact ⟨rfl, _, rfl, r, _, rfl, .inl hr'.seq, fun p np => fin _ p (Same.new np) np upd_same⟩
    rw [List.length_map, ltb] at lD
    have C : Cp t data H30 D ts := ⟨eD, lD, fun i r e => ⟨(gD i r e).2.1, (gD i r e).2.2⟩, dD⟩
    obtain ⟨tq, et, _, _, _⟩ := C.at mp
    have tqn : H29 tq = none := (gD 0 tq et).1
    clear eD gD dD
    have S30 := S29.same s30
    refine ⟨by show 4 ≤ sizeLine; decide, fun lf nf => ?_⟩
    have C31 := C.same (Same.new (o := .lst [V.int 0, .int 0, .int 0, .int 0]) nf)
    have S31 := S30.same (Same.new (o := .lst [V.int 0, .int 0, .int 0, .int 0]) nf)
    obtain ⟨tq', et', etm, _, hq⟩ := C31.at mp
    rw [et] at et'
    cases et'
    have lq : ((secF t data 0).map V.int).length = 64 := by rw [List.length_map, sec_len]
    have tf : tq ≠ lf := fun z => by
      have h := (C.g 0 tq et).2
      rw [z, LI, nf] at h
      cases h
    refine ⟨_, rfl, D, _, _, _, rfl, rfl, SqL.of C31.e, atI_nat (j := 0) etm, _, rfl, _, rfl, tq, lf, _, _, 6, 10, rfl, rfl, hq, upd_same, tf, rfl, rfl, by decide, by decide, ?_, ?_, ?_⟩
    · rw [lq]
      decide
    · rw [lq]
      show 64 + 4 ≤ sizeLine
      decide
    rw [show (6 : Int).toNat = 6 from rfl, show (10 : Int).toNat = 10 from rfl, map_take, map_drop, show [V.int 0, .int 0, .int 0, .int 0] = ([0, 0, 0, 0] : List Int).map V.int from rfl, ← List.map_append, ← List.map_append]
    obtain ⟨eD3, rD3⟩ := C31.set et ((secF t data 0).take 6 ++ [0, 0, 0, 0] ++ (secF t data 0).drop 10)
    have S32 := S31.put (o := .lst (((secF t data 0).take 6 ++ [0, 0, 0, 0] ++ (secF t data 0).drop 10).map V.int)) hq lq
    have s2932 : Same H29 (upd (upd H30 lf (.lst [V.int 0, .int 0, .int 0, .int 0])) tq (.lst (((secF t data 0).take 6 ++ [0, 0, 0, 0] ++ (secF t data 0).drop 10).map V.int))) := Same.over (s30.trans (Same.new nf)) tqn
    have z6 := sec6 t data 0
    obtain ⟨rr, er⟩ := block_cons t data
    have R5 : readF ((blockF t data).set 0 ((secF t data 0).take 6 ++ [0, 0, 0, 0] ++ (secF t data 0).drop 10)) t = none := by
      rw [er]
      exact read_nil z6.1
    refine ⟨_, rfl, _, rfl, D, (blockF t data).set 0 ((secF t data 0).take 6 ++ [0, 0, 0, 0] ++ (secF t data 0).drop 10), t, rfl, LL.of eD3 rD3, by rw [List.length_set, lB]; omega, fun xs m => ?_, fun _ H33 s33 => ⟨rfl, ?_⟩, fun ds m e => by rw [R5] at e; cases e⟩
    · rcases List.mem_or_eq_of_mem_set m with m | rfl
      · exact block_rows bd xs m
      · refine ⟨fun b mb => ?_, z6.2⟩
        simp only [List.mem_append] at mb
        rcases mb with (mb | mb) | mb
        · exact sec_by bd 0 b (List.mem_of_mem_take mb)
        · simp only [List.mem_cons, List.not_mem_nil, or_false, or_self] at mb
          omega
        · exact sec_by bd 0 b (List.mem_of_mem_drop mb)
    · exact q _ (S32.same s33) (g29.trans (Gw.same (s2932.trans s33)))
end
end K1
namespace K1
open PySem PySem.Spec PyProof.Rows L2 Ow Po Dd Bk
abbrev slaw : Stmt := topS 29
abbrev Nlaw : List Str := ["script", "state", "k"]
theorem sclaw : FnScope Nlaw ["script"] (defScope slaw) := ⟨rfl, rfl, rfl, by decide +kernel, rfl, by decide +kernel, by decide +kernel⟩
def spLaw (K : PySem.W.Frag) : Sp := fun vs H Q _ => ∃ (a : Addr) (ns : List Int), vs = [.ref a] ∧ SqL K H a (ns.map V.int) ∧ ns.length ≤ 63 ∧ ∀ H', Q (.bl true) H'
section
variable {P : Program} {w : World} {K : PySem.W.Frag} {mg : Str → Option Value} {base : Heap}
theorem ok_law {f : Addr} {fd : FuncData} (F : Fun K "law" "law" slaw f fd) (T0 : Bl mg) (D_law_next : Kn P w K mg base 1 "_law_next" ["state", "limit"] spNext) (D_law_asks_block : Kn P w K mg base 4 "_law_asks_block" ["state"] spAsk) (D_law_asks_head : Kn P w K mg base 4 "_law_asks_head" ["state"] spAsk) (D_law_asks_places : Kn P w K mg base 4 "_law_asks_places" ["size"] spPlaces) :
    FnOk P w K mg base CX0 5 f fd ["script"] (spLaw K) := by
  refine F.ok sclaw (fun vs H Q E h => ?_) (fun cdv A outer s H vs Q E hr h => ?_)
  · obtain ⟨a, ns, rfl, _⟩ := h
    rfl
  · obtain ⟨a, ns, rfl, hs, hl, q⟩ := h
    refine ⟨_, (pss_cons (ps_set (i := 1) sclaw.nd rfl (.inl rfl) (pe_lst (pa_cons (pe_callTy call_list_of (by rfl) T0.list (by decide +kernel) (pa_cons (pv 0) pa_nil)) (pa_cons pe_int (pa_cons pe_int (pa_cons pe_int pa_nil))))))
      (pss_cons (ps_for PassesOwn.never rfl (pi_range1 (by rfl) T0.range (pa_cons pe_int pa_nil)) (pg_name (i := 2) sclaw.nd rfl (.inl rfl)) (pss_one (ps_if (PW.pt (pw_or (pt_not (pt_val (pe_kn D_law_asks_block hr (pa_cons (pv 1) pa_nil)))) (pw_or (pt_not (pt_val (pe_kn D_law_asks_head hr (pa_cons (pv 1) pa_nil)))) (pw_or1 (pt_not (pt_val (pe_kn D_law_asks_places hr (pa_cons (pe_op op_add pe_int (pe_kn D_law_next hr (pa_cons (pv 1) (pa_cons pe_int pa_nil)))) pa_nil)))))))) (pss_one (ps_ret pe_bl)) pss_nil)))
      (pss_one (ps_ret pe_bl)))), ?_⟩
    refine ⟨_, rfl, a, _, rfl, .inl hs, fun sc n1 => ⟨by show 4 ≤ sizeLine; decide, fun st n2 => ?_⟩⟩
    have S0 : St (upd (upd H sc (.lst (ns.map V.int))) st (.lst [.ref sc, .int 0, .int 0, .int 1])) st := ⟨sc, ns, 0, 0, 1, upd_same, Same.new n2 _ _ upd_same, ne_of_none upd_same n2, hl, by decide, by decide, by decide⟩
    generalize (upd (upd H sc (.lst (ns.map V.int))) st (.lst [.ref sc, .int 0, .int 0, .int 1])) = H0 at S0 ⊢
    refine ⟨_, rfl, by decide, by decide, ?_⟩
    refine for_range (lo := 0) (n := 3) (fun k σ H' => ∃ v2, σ = [some (.ref a), some (.ref st), v2] ∧ St H' st) ⟨none, rfl, S0⟩ ?_ ?_
    · rintro k σ H1 hk ⟨v2, rfl, S1⟩
      refine ⟨_, rfl, st, rfl, S1, fun H2 S2 g2 => ⟨_, rfl, iteF ?_⟩⟩
      refine ⟨_, rfl, st, rfl, S2, fun H3 S3 g3 => ⟨_, rfl, iteF ?_⟩⟩
      refine ⟨_, rfl, st, 341, rfl, S3, by decide, by decide, fun H4 r S4 g4 r0 r1 => ⟨_, _, rfl, rfl, 60 + r, rfl, by omega, by omega, fun H5 s5 => ⟨_, rfl, iteF ?_⟩⟩⟩
      exact ⟨_, rfl, S4.same s5⟩
    · rintro σ H1 ⟨v2, rfl, S1⟩
      exact q _
end
end K1
namespace K1
open PySem PySem.Spec PyProof.Rows L2 Ow Po Dd Bk
theorem kn_of {P : Program} {w : World} {K : PySem.W.Frag} {mg : Str → Option Value} {base : Heap} {k : Nat} {x qual : Str} {st : Stmt} {f : Addr} {fd : FuncData} {ps : List Str} {sp : Sp}
    (F : Fun K x qual st f fd) (g : mg x = some (.ref f)) (b : Binds K fd ps []) (ok : FnOk P w K mg base CX0 k f fd ps sp) : Kn P w K mg base k x ps sp := ⟨⟨f, fd, ok, g, F.kp, b⟩⟩
theorem all_mk {l : PySem.W.OpenLaw} {w : World} {K : PySem.W.Frag} {h : Heap} {mg : Str → Option Value} {fa : Addr} (X : K.In h) (G : h.Ns mainGlobals mg) (hfa : mg "law" = some (.ref fa))
    {f1 : Addr} {od1 an1 : Option Addr} {sl1 : Array (Option Value)} {oc1 kV1 dc1 pm1 cd1 ct1 : Value}
    {f2 : Addr} {od2 an2 : Option Addr} {sl2 : Array (Option Value)} {oc2 kV2 dc2 pm2 cd2 ct2 : Value}
    {f3 : Addr} {od3 an3 : Option Addr} {sl3 : Array (Option Value)} {oc3 kV3 dc3 pm3 cd3 ct3 : Value}
    {f4 : Addr} {od4 an4 : Option Addr} {sl4 : Array (Option Value)} {oc4 kV4 dc4 pm4 cd4 ct4 : Value}
    {f5 : Addr} {od5 an5 : Option Addr} {sl5 : Array (Option Value)} {oc5 kV5 dc5 pm5 cd5 ct5 : Value}
    {f6 : Addr} {od6 an6 : Option Addr} {sl6 : Array (Option Value)} {oc6 kV6 dc6 pm6 cd6 ct6 : Value}
    {f7 : Addr} {od7 an7 : Option Addr} {sl7 : Array (Option Value)} {oc7 kV7 dc7 pm7 cd7 ct7 : Value}
    {f8 : Addr} {od8 an8 : Option Addr} {sl8 : Array (Option Value)} {oc8 kV8 dc8 pm8 cd8 ct8 : Value}
    {f9 : Addr} {od9 an9 : Option Addr} {sl9 : Array (Option Value)} {oc9 kV9 dc9 pm9 cd9 ct9 : Value}
    {f10 : Addr} {od10 an10 : Option Addr} {sl10 : Array (Option Value)} {oc10 kV10 dc10 pm10 cd10 ct10 : Value}
    {f11 : Addr} {od11 an11 : Option Addr} {sl11 : Array (Option Value)} {oc11 kV11 dc11 pm11 cd11 ct11 : Value}
    {f12 : Addr} {od12 an12 : Option Addr} {sl12 : Array (Option Value)} {oc12 kV12 dc12 pm12 cd12 ct12 : Value}
    {f13 : Addr} {od13 an13 : Option Addr} {sl13 : Array (Option Value)} {oc13 kV13 dc13 pm13 cd13 ct13 : Value}
    {f14 : Addr} {od14 an14 : Option Addr} {sl14 : Array (Option Value)} {oc14 kV14 dc14 pm14 cd14 ct14 : Value}
    {f15 : Addr} {od15 an15 : Option Addr} {sl15 : Array (Option Value)} {oc15 kV15 dc15 pm15 cd15 ct15 : Value}
    {f16 : Addr} {od16 an16 : Option Addr} {sl16 : Array (Option Value)} {oc16 kV16 dc16 pm16 cd16 ct16 : Value}
    {f17 : Addr} {od17 an17 : Option Addr} {sl17 : Array (Option Value)} {oc17 kV17 dc17 pm17 cd17 ct17 : Value}
    {f18 : Addr} {od18 an18 : Option Addr} {sl18 : Array (Option Value)} {oc18 kV18 dc18 pm18 cd18 ct18 : Value}
    {f19 : Addr} {od19 an19 : Option Addr} {sl19 : Array (Option Value)} {oc19 kV19 dc19 pm19 cd19 ct19 : Value}
    {f20 : Addr} {od20 an20 : Option Addr} {sl20 : Array (Option Value)} {oc20 kV20 dc20 pm20 cd20 ct20 : Value}
    (a1 : PySem.W.nsIn K mainGlobals "number_bytes" = some (some (.ref f1)))
    (l1 : K.lookup f1 = some ⟨oc1, od1, .func (PySem.W.fnOf "number_bytes" "number_bytes" (defArgs snumber_bytes) (defBody snumber_bytes) (defScope snumber_bytes) .none kV1 dc1 pm1 an1 cd1 ct1), sl1⟩) (c1 : PySem.W.codeIn K cd1 "number_bytes" = true) (k1 : PySem.W.keepIn K (.ref f1) = true)
    (a2 : PySem.W.nsIn K mainGlobals "number_of" = some (some (.ref f2)))
    (l2 : K.lookup f2 = some ⟨oc2, od2, .func (PySem.W.fnOf "number_of" "number_of" (defArgs snumber_of) (defBody snumber_of) (defScope snumber_of) .none kV2 dc2 pm2 an2 cd2 ct2), sl2⟩) (c2 : PySem.W.codeIn K cd2 "number_of" = true) (k2 : PySem.W.keepIn K (.ref f2) = true)
    (a3 : PySem.W.nsIn K mainGlobals "turn_of" = some (some (.ref f3)))
    (l3 : K.lookup f3 = some ⟨oc3, od3, .func (PySem.W.fnOf "turn_of" "turn_of" (defArgs sturn_of) (defBody sturn_of) (defScope sturn_of) .none kV3 dc3 pm3 an3 cd3 ct3), sl3⟩) (c3 : PySem.W.codeIn K cd3 "turn_of" = true) (k3 : PySem.W.keepIn K (.ref f3) = true)
    (a4 : PySem.W.nsIn K mainGlobals "write_block" = some (some (.ref f4)))
    (l4 : K.lookup f4 = some ⟨oc4, od4, .func (PySem.W.fnOf "write_block" "write_block" (defArgs swrite_block) (defBody swrite_block) (defScope swrite_block) .none kV4 dc4 pm4 an4 cd4 ct4), sl4⟩) (c4 : PySem.W.codeIn K cd4 "write_block" = true) (k4 : PySem.W.keepIn K (.ref f4) = true)
    (a5 : PySem.W.nsIn K mainGlobals "read_block" = some (some (.ref f5)))
    (l5 : K.lookup f5 = some ⟨oc5, od5, .func (PySem.W.fnOf "read_block" "read_block" (defArgs sread_block) (defBody sread_block) (defScope sread_block) .none kV5 dc5 pm5 an5 cd5 ct5), sl5⟩) (c5 : PySem.W.codeIn K cd5 "read_block" = true) (k5 : PySem.W.keepIn K (.ref f5) = true)
    (a6 : PySem.W.nsIn K mainGlobals "head" = some (some (.ref f6)))
    (l6 : K.lookup f6 = some ⟨oc6, od6, .func (PySem.W.fnOf "head" "head" (defArgs shead) (defBody shead) (defScope shead) .none kV6 dc6 pm6 an6 cd6 ct6), sl6⟩) (c6 : PySem.W.codeIn K cd6 "head" = true) (k6 : PySem.W.keepIn K (.ref f6) = true)
    (a7 : PySem.W.nsIn K mainGlobals "read_head" = some (some (.ref f7)))
    (l7 : K.lookup f7 = some ⟨oc7, od7, .func (PySem.W.fnOf "read_head" "read_head" (defArgs sread_head) (defBody sread_head) (defScope sread_head) .none kV7 dc7 pm7 an7 cd7 ct7), sl7⟩) (c7 : PySem.W.codeIn K cd7 "read_head" = true) (k7 : PySem.W.keepIn K (.ref f7) = true)
    (a8 : PySem.W.nsIn K mainGlobals "region_start" = some (some (.ref f8)))
    (l8 : K.lookup f8 = some ⟨oc8, od8, .func (PySem.W.fnOf "region_start" "region_start" (defArgs sregion_start) (defBody sregion_start) (defScope sregion_start) .none kV8 dc8 pm8 an8 cd8 ct8), sl8⟩) (c8 : PySem.W.codeIn K cd8 "region_start" = true) (k8 : PySem.W.keepIn K (.ref f8) = true)
    (a9 : PySem.W.nsIn K mainGlobals "area_size" = some (some (.ref f9)))
    (l9 : K.lookup f9 = some ⟨oc9, od9, .func (PySem.W.fnOf "area_size" "area_size" (defArgs sarea_size) (defBody sarea_size) (defScope sarea_size) .none kV9 dc9 pm9 an9 cd9 ct9), sl9⟩) (c9 : PySem.W.codeIn K cd9 "area_size" = true) (k9 : PySem.W.keepIn K (.ref f9) = true)
    (a10 : PySem.W.nsIn K mainGlobals "area_start" = some (some (.ref f10)))
    (l10 : K.lookup f10 = some ⟨oc10, od10, .func (PySem.W.fnOf "area_start" "area_start" (defArgs sarea_start) (defBody sarea_start) (defScope sarea_start) .none kV10 dc10 pm10 an10 cd10 ct10), sl10⟩) (c10 : PySem.W.codeIn K cd10 "area_start" = true) (k10 : PySem.W.keepIn K (.ref f10) = true)
    (a11 : PySem.W.nsIn K mainGlobals "_law_next" = some (some (.ref f11)))
    (l11 : K.lookup f11 = some ⟨oc11, od11, .func (PySem.W.fnOf "_law_next" "_law_next" (defArgs s_law_next) (defBody s_law_next) (defScope s_law_next) .none kV11 dc11 pm11 an11 cd11 ct11), sl11⟩) (c11 : PySem.W.codeIn K cd11 "_law_next" = true) (k11 : PySem.W.keepIn K (.ref f11) = true)
    (a12 : PySem.W.nsIn K mainGlobals "_law_same" = some (some (.ref f12)))
    (l12 : K.lookup f12 = some ⟨oc12, od12, .func (PySem.W.fnOf "_law_same" "_law_same" (defArgs s_law_same) (defBody s_law_same) (defScope s_law_same) .none kV12 dc12 pm12 an12 cd12 ct12), sl12⟩) (c12 : PySem.W.codeIn K cd12 "_law_same" = true) (k12 : PySem.W.keepIn K (.ref f12) = true)
    (a13 : PySem.W.nsIn K mainGlobals "_law_fixed" = some (some (.ref f13)))
    (l13 : K.lookup f13 = some ⟨oc13, od13, .func (PySem.W.fnOf "_law_fixed" "_law_fixed" (defArgs s_law_fixed) (defBody s_law_fixed) (defScope s_law_fixed) .none kV13 dc13 pm13 an13 cd13 ct13), sl13⟩) (c13 : PySem.W.codeIn K cd13 "_law_fixed" = true) (k13 : PySem.W.keepIn K (.ref f13) = true)
    (a14 : PySem.W.nsIn K mainGlobals "_law_block" = some (some (.ref f14)))
    (l14 : K.lookup f14 = some ⟨oc14, od14, .func (PySem.W.fnOf "_law_block" "_law_block" (defArgs s_law_block) (defBody s_law_block) (defScope s_law_block) .none kV14 dc14 pm14 an14 cd14 ct14), sl14⟩) (c14 : PySem.W.codeIn K cd14 "_law_block" = true) (k14 : PySem.W.keepIn K (.ref f14) = true)
    (a15 : PySem.W.nsIn K mainGlobals "_law_turn" = some (some (.ref f15)))
    (l15 : K.lookup f15 = some ⟨oc15, od15, .func (PySem.W.fnOf "_law_turn" "_law_turn" (defArgs s_law_turn) (defBody s_law_turn) (defScope s_law_turn) .none kV15 dc15 pm15 an15 cd15 ct15), sl15⟩) (c15 : PySem.W.codeIn K cd15 "_law_turn" = true) (k15 : PySem.W.keepIn K (.ref f15) = true)
    (a16 : PySem.W.nsIn K mainGlobals "_law_bytes" = some (some (.ref f16)))
    (l16 : K.lookup f16 = some ⟨oc16, od16, .func (PySem.W.fnOf "_law_bytes" "_law_bytes" (defArgs s_law_bytes) (defBody s_law_bytes) (defScope s_law_bytes) .none kV16 dc16 pm16 an16 cd16 ct16), sl16⟩) (c16 : PySem.W.codeIn K cd16 "_law_bytes" = true) (k16 : PySem.W.keepIn K (.ref f16) = true)
    (a17 : PySem.W.nsIn K mainGlobals "_law_asks_block" = some (some (.ref f17)))
    (l17 : K.lookup f17 = some ⟨oc17, od17, .func (PySem.W.fnOf "_law_asks_block" "_law_asks_block" (defArgs s_law_asks_block) (defBody s_law_asks_block) (defScope s_law_asks_block) .none kV17 dc17 pm17 an17 cd17 ct17), sl17⟩) (c17 : PySem.W.codeIn K cd17 "_law_asks_block" = true) (k17 : PySem.W.keepIn K (.ref f17) = true)
    (a18 : PySem.W.nsIn K mainGlobals "_law_asks_head" = some (some (.ref f18)))
    (l18 : K.lookup f18 = some ⟨oc18, od18, .func (PySem.W.fnOf "_law_asks_head" "_law_asks_head" (defArgs s_law_asks_head) (defBody s_law_asks_head) (defScope s_law_asks_head) .none kV18 dc18 pm18 an18 cd18 ct18), sl18⟩) (c18 : PySem.W.codeIn K cd18 "_law_asks_head" = true) (k18 : PySem.W.keepIn K (.ref f18) = true)
    (a19 : PySem.W.nsIn K mainGlobals "_law_asks_places" = some (some (.ref f19)))
    (l19 : K.lookup f19 = some ⟨oc19, od19, .func (PySem.W.fnOf "_law_asks_places" "_law_asks_places" (defArgs s_law_asks_places) (defBody s_law_asks_places) (defScope s_law_asks_places) .none kV19 dc19 pm19 an19 cd19 ct19), sl19⟩) (c19 : PySem.W.codeIn K cd19 "_law_asks_places" = true) (k19 : PySem.W.keepIn K (.ref f19) = true)
    (a20 : PySem.W.nsIn K mainGlobals "law" = some (some (.ref f20)))
    (l20 : K.lookup f20 = some ⟨oc20, od20, .func (PySem.W.fnOf "law" "law" (defArgs slaw) (defBody slaw) (defScope slaw) .none kV20 dc20 pm20 an20 cd20 ct20), sl20⟩) (c20 : PySem.W.codeIn K cd20 "law" = true) (k20 : PySem.W.keepIn K (.ref f20) = true)
    {u1 u2 u3 u4 u5 u6 u7 : Tok} (y1 : PySem.W.nsIn K mainGlobals "SECTOR_BYTES" = some (some (.int 64 u1))) (y2 : PySem.W.nsIn K mainGlobals "TURN_BYTES" = some (some (.int 6 u2))) (y3 : PySem.W.nsIn K mainGlobals "COUNT_BYTES" = some (some (.int 4 u3))) (y4 : PySem.W.nsIn K mainGlobals "FRONT_BYTES" = some (some (.int 10 u4))) (y5 : PySem.W.nsIn K mainGlobals "PIECE_BYTES" = some (some (.int 54 u5))) (y6 : PySem.W.nsIn K mainGlobals "LENGTH_BYTES" = some (some (.int 4 u6))) (y7 : PySem.W.nsIn K mainGlobals "HEADS" = some (some (.int 2 u7)))
    {sA : Addr} {v0 v1 v2 v3 : Tok} {sn : Nat} {ss : Array (Option Value)} {sD : Option Addr} (aM : PySem.W.nsIn K mainGlobals "HEAD_MARK" = some (some (.ref sA))) (lM : K.lookup sA = some ⟨.type "tuple", sD, .seq #[.int 82 v0, .int 85 v1, .int 76 v2, .int 69 v3] sn, ss⟩)
    (z1 : PySem.W.nsIn K mainGlobals "range" = some none) (z2 : PySem.W.nsIn K mainGlobals "len" = some none) (z3 : PySem.W.nsIn K mainGlobals "int" = some none) (z4 : PySem.W.nsIn K mainGlobals "list" = some none) (z5 : PySem.W.nsIn K mainGlobals "isinstance" = some none) (z6 : PySem.W.nsIn K mainGlobals "tuple" = some none) (z7 : PySem.W.nsIn K mainGlobals "bool" = some none) (z8 : PySem.W.nsIn K mainGlobals "str" = some none) (z9 : PySem.W.nsIn K mainGlobals "any" = some none) (z10 : PySem.W.nsIn K mainGlobals "reversed" = some none) :
    ∃ fd : FuncData, (∀ (s : Shared) (v : Value), BindsTo s fd ⟨[v], []⟩ [("script", v)]) ∧ ∀ base : Heap, K.In base → base.Ns mainGlobals mg → FnOk l.prog w K mg base CX0 5 fa fd ["script"] (spLaw K) := by
  have e := hfa.symm.trans (PySem.W.mg_of X G a20)
  cases e
  have F1 := fun_mk (st := snumber_bytes) l1 c1 k1
  have b1 := F1.binds (ps := ["number", "many"]) fun _ _ _ _ _ _ us hl => match us, hl with | [_, _], _ => rfl
  have g1 := PySem.W.mg_of X G a1
  have F2 := fun_mk (st := snumber_of) l2 c2 k2
  have b2 := F2.binds (ps := ["data"]) fun _ _ _ _ _ _ us hl => match us, hl with | [_], _ => rfl
  have g2 := PySem.W.mg_of X G a2
  have F3 := fun_mk (st := sturn_of) l3 c3 k3
  have b3 := F3.binds (ps := ["sector"]) fun _ _ _ _ _ _ us hl => match us, hl with | [_], _ => rfl
  have g3 := PySem.W.mg_of X G a3
  have F4 := fun_mk (st := swrite_block) l4 c4 k4
  have b4 := F4.binds (ps := ["turn", "data"]) fun _ _ _ _ _ _ us hl => match us, hl with | [_, _], _ => rfl
  have g4 := PySem.W.mg_of X G a4
  have F5 := fun_mk (st := sread_block) l5 c5 k5
  have b5 := F5.binds (ps := ["sectors", "turn"]) fun _ _ _ _ _ _ us hl => match us, hl with | [_, _], _ => rfl
  have g5 := PySem.W.mg_of X G a5
  have F6 := fun_mk (st := shead) l6 c6 k6
  have b6 := F6.binds (ps := ["turn", "area"]) fun _ _ _ _ _ _ us hl => match us, hl with | [_, _], _ => rfl
  have g6 := PySem.W.mg_of X G a6
  have F7 := fun_mk (st := sread_head) l7 c7 k7
  have b7 := F7.binds (ps := ["sector"]) fun _ _ _ _ _ _ us hl => match us, hl with | [_], _ => rfl
  have g7 := PySem.W.mg_of X G a7
  have F8 := fun_mk (st := sregion_start) l8 c8 k8
  have b8 := F8.binds (ps := ["size"]) fun _ _ _ _ _ _ us hl => match us, hl with | [_], _ => rfl
  have g8 := PySem.W.mg_of X G a8
  have F9 := fun_mk (st := sarea_size) l9 c9 k9
  have b9 := F9.binds (ps := ["size"]) fun _ _ _ _ _ _ us hl => match us, hl with | [_], _ => rfl
  have g9 := PySem.W.mg_of X G a9
  have F10 := fun_mk (st := sarea_start) l10 c10 k10
  have b10 := F10.binds (ps := ["size", "area"]) fun _ _ _ _ _ _ us hl => match us, hl with | [_, _], _ => rfl
  have g10 := PySem.W.mg_of X G a10
  have F11 := fun_mk (st := s_law_next) l11 c11 k11
  have b11 := F11.binds (ps := ["state", "limit"]) fun _ _ _ _ _ _ us hl => match us, hl with | [_, _], _ => rfl
  have g11 := PySem.W.mg_of X G a11
  have F12 := fun_mk (st := s_law_same) l12 c12 k12
  have b12 := F12.binds (ps := ["actual", "expected"]) fun _ _ _ _ _ _ us hl => match us, hl with | [_, _], _ => rfl
  have g12 := PySem.W.mg_of X G a12
  have F13 := fun_mk (st := s_law_fixed) l13 c13 k13
  have b13 := F13.binds (ps := ["number", "count"]) fun _ _ _ _ _ _ us hl => match us, hl with | [_, _], _ => rfl
  have g13 := PySem.W.mg_of X G a13
  have F14 := fun_mk (st := s_law_block) l14 c14 k14
  have b14 := F14.binds (ps := ["turn", "data"]) fun _ _ _ _ _ _ us hl => match us, hl with | [_, _], _ => rfl
  have g14 := PySem.W.mg_of X G a14
  have F15 := fun_mk (st := s_law_turn) l15 c15 k15
  have b15 := F15.binds (ps := ["state"]) fun _ _ _ _ _ _ us hl => match us, hl with | [_], _ => rfl
  have g15 := PySem.W.mg_of X G a15
  have F16 := fun_mk (st := s_law_bytes) l16 c16 k16
  have b16 := F16.binds (ps := ["state"]) fun _ _ _ _ _ _ us hl => match us, hl with | [_], _ => rfl
  have g16 := PySem.W.mg_of X G a16
  have F17 := fun_mk (st := s_law_asks_block) l17 c17 k17
  have b17 := F17.binds (ps := ["state"]) fun _ _ _ _ _ _ us hl => match us, hl with | [_], _ => rfl
  have g17 := PySem.W.mg_of X G a17
  have F18 := fun_mk (st := s_law_asks_head) l18 c18 k18
  have b18 := F18.binds (ps := ["state"]) fun _ _ _ _ _ _ us hl => match us, hl with | [_], _ => rfl
  have g18 := PySem.W.mg_of X G a18
  have F19 := fun_mk (st := s_law_asks_places) l19 c19 k19
  have b19 := F19.binds (ps := ["size"]) fun _ _ _ _ _ _ us hl => match us, hl with | [_], _ => rfl
  have g19 := PySem.W.mg_of X G a19
  have F20 := fun_mk (st := slaw) l20 c20 k20
  have T : Bl mg := ⟨PySem.W.mg_none_of X G z1, PySem.W.mg_none_of X G z2, PySem.W.mg_none_of X G z3, PySem.W.mg_none_of X G z4, PySem.W.mg_none_of X G z5, PySem.W.mg_none_of X G z6, PySem.W.mg_none_of X G z7, PySem.W.mg_none_of X G z8, PySem.W.mg_none_of X G z9, PySem.W.mg_none_of X G z10⟩
  have G0 : Gb K mg := ⟨⟨u1, PySem.W.mg_of X G y1⟩, ⟨u2, PySem.W.mg_of X G y2⟩, ⟨u3, PySem.W.mg_of X G y3⟩, ⟨u4, PySem.W.mg_of X G y4⟩, ⟨u5, PySem.W.mg_of X G y5⟩, ⟨u6, PySem.W.mg_of X G y6⟩, ⟨u7, PySem.W.mg_of X G y7⟩, ⟨sA, _, _, _, PySem.W.mg_of X G aM, lM, rfl, rfl, sz 4, .cons ⟨_, rfl⟩ (.cons ⟨_, rfl⟩ (.cons ⟨_, rfl⟩ (.cons ⟨_, rfl⟩ .nil)))⟩⟩
  refine ⟨PySem.W.fnOf "law" "law" (defArgs slaw) (defBody slaw) (defScope slaw) .none kV20 dc20 pm20 an20 cd20 ct20, fun s v => .of_eq rfl, fun base _ _ => ?_⟩
  have Dnumber_bytes : Kn l.prog w K mg base 1 "number_bytes" ["number", "many"] (spNb) := kn_of F1 g1 b1 (ok_nb F1 T)
  have Dnumber_of : Kn l.prog w K mg base 1 "number_of" ["data"] (spNo K) := kn_of F2 g2 b2 (ok_no F2 T)
  have Dturn_of : Kn l.prog w K mg base 2 "turn_of" ["sector"] (spTo K) := kn_of F3 g3 b3 (ok_to F3 G0 Dnumber_of)
  have Dwrite_block : Kn l.prog w K mg base 2 "write_block" ["turn", "data"] (spWb) := kn_of F4 g4 b4 (ok_wb F4 T G0 Dnumber_bytes)
  have Dread_block : Kn l.prog w K mg base 3 "read_block" ["sectors", "turn"] (spRb) := kn_of F5 g5 b5 (ok_rb F5 T G0 Dnumber_of Dturn_of)
  have Dhead : Kn l.prog w K mg base 2 "head" ["turn", "area"] (spHead) := kn_of F6 g6 b6 (ok_head F6 T G0 Dnumber_bytes)
  have Dread_head : Kn l.prog w K mg base 3 "read_head" ["sector"] (spRh K) := kn_of F7 g7 b7 (ok_rh F7 T G0 Dnumber_of Dhead)
  have Dregion_start : Kn l.prog w K mg base 1 "region_start" ["size"] (spRs) := kn_of F8 g8 b8 (ok_rs F8)
  have Darea_size : Kn l.prog w K mg base 2 "area_size" ["size"] (spAz) := kn_of F9 g9 b9 (ok_az F9 G0 Dregion_start)
  have Darea_start : Kn l.prog w K mg base 3 "area_start" ["size", "area"] (spAt) := kn_of F10 g10 b10 (ok_at F10 G0 Darea_size)
  have D_law_next : Kn l.prog w K mg base 1 "_law_next" ["state", "limit"] (spNext) := kn_of F11 g11 b11 (ok_next F11 T)
  have D_law_same : Kn l.prog w K mg base 3 "_law_same" ["actual", "expected"] (spSame K 2) := kn_of F12 g12 b12 (ok_same F12 T g12 b12 2)
  have D_law_fixed : Kn l.prog w K mg base 1 "_law_fixed" ["number", "count"] (spFixed) := kn_of F13 g13 b13 (ok_fixed F13 T)
  have D_law_block : Kn l.prog w K mg base 2 "_law_block" ["turn", "data"] (spWb) := kn_of F14 g14 b14 (ok_lb F14 T D_law_fixed)
  have D_law_turn : Kn l.prog w K mg base 2 "_law_turn" ["state"] (spTurn) := kn_of F15 g15 b15 (ok_turn F15 D_law_next)
  have D_law_bytes : Kn l.prog w K mg base 2 "_law_bytes" ["state"] (spBytes) := kn_of F16 g16 b16 (ok_bytes F16 T D_law_next)
  have D_law_asks_block : Kn l.prog w K mg base 4 "_law_asks_block" ["state"] (spAsk) := kn_of F17 g17 b17 (ok_askblock F17 T D_law_next D_law_turn D_law_bytes D_law_fixed D_law_block Dwrite_block Dread_block D_law_same)
  have D_law_asks_head : Kn l.prog w K mg base 4 "_law_asks_head" ["state"] (spAsk) := kn_of F18 g18 b18 (ok_askhead F18 T D_law_next D_law_turn D_law_fixed Dhead Dread_head D_law_same)
  have D_law_asks_places : Kn l.prog w K mg base 4 "_law_asks_places" ["size"] (spPlaces) := kn_of F19 g19 b19 (ok_places F19 Dregion_start Darea_size Darea_start D_law_same)
  exact ok_law F20 T D_law_next D_law_asks_block D_law_asks_head D_law_asks_places
end K1
open PySem PySem.W PyProof.Rows
set_option maxHeartbeats 0 in
theorem PySem.Challenge.cw_turnshelves_k31_blocks_holds : PySem.Challenge.rw_turnshelves_k31_blocks.Holds := by
  w_on; o_law; k_head; (case hw => w_witness2)
  k_fill
  refine L2.walk_of (l := PySem.Challenge.rw_turnshelves_k31_blocks) (n := 63) (k := 5) (x := "script") (CX := fun _ => L2.CX0) (sp := fun w => K1.spLaw _) rfl (by decide) rfl ⟨rfl, by decide, by decide⟩ (fun w h Y => PySem.W.kIn_of Y) ?F (fun _ _ a ns hl _ hS => ⟨a, ns, rfl, hS, hl, fun _ => rfl⟩) (fun _ _ _ _ _ h => h)
  case F =>
    intro w mg fa h KX G hmg
    refine' K1.all_mk KX G hmg ?a1 ?l1 ?c1 ?k1 ?a2 ?l2 ?c2 ?k2 ?a3 ?l3 ?c3 ?k3 ?a4 ?l4 ?c4 ?k4 ?a5 ?l5 ?c5 ?k5 ?a6 ?l6 ?c6 ?k6 ?a7 ?l7 ?c7 ?k7 ?a8 ?l8 ?c8 ?k8 ?a9 ?l9 ?c9 ?k9 ?a10 ?l10 ?c10 ?k10 ?a11 ?l11 ?c11 ?k11 ?a12 ?l12 ?c12 ?k12 ?a13 ?l13 ?c13 ?k13 ?a14 ?l14 ?c14 ?k14 ?a15 ?l15 ?c15 ?k15 ?a16 ?l16 ?c16 ?k16 ?a17 ?l17 ?c17 ?k17 ?a18 ?l18 ?c18 ?k18 ?a19 ?l19 ?c19 ?k19 ?a20 ?l20 ?c20 ?k20 ?y1 ?y2 ?y3 ?y4 ?y5 ?y6 ?y7 ?aM ?lM ?z1 ?z2 ?z3 ?z4 ?z5 ?z6 ?z7 ?z8 ?z9 ?z10
    (case a1 => k_is); (case l1 => k_is); (case c1 => k_is); (case k1 => k_is); (case a2 => k_is); (case l2 => k_is); (case c2 => k_is); (case k2 => k_is); (case a3 => k_is); (case l3 => k_is); (case c3 => k_is); (case k3 => k_is); (case a4 => k_is); (case l4 => k_is); (case c4 => k_is); (case k4 => k_is); (case a5 => k_is); (case l5 => k_is); (case c5 => k_is); (case k5 => k_is); (case a6 => k_is); (case l6 => k_is); (case c6 => k_is); (case k6 => k_is); (case a7 => k_is); (case l7 => k_is); (case c7 => k_is); (case k7 => k_is); (case a8 => k_is); (case l8 => k_is); (case c8 => k_is); (case k8 => k_is); (case a9 => k_is); (case l9 => k_is); (case c9 => k_is); (case k9 => k_is); (case a10 => k_is); (case l10 => k_is); (case c10 => k_is); (case k10 => k_is); (case a11 => k_is); (case l11 => k_is); (case c11 => k_is); (case k11 => k_is); (case a12 => k_is); (case l12 => k_is); (case c12 => k_is); (case k12 => k_is); (case a13 => k_is); (case l13 => k_is); (case c13 => k_is); (case k13 => k_is); (case a14 => k_is); (case l14 => k_is); (case c14 => k_is); (case k14 => k_is); (case a15 => k_is); (case l15 => k_is); (case c15 => k_is); (case k15 => k_is); (case a16 => k_is); (case l16 => k_is); (case c16 => k_is); (case k16 => k_is); (case a17 => k_is); (case l17 => k_is); (case c17 => k_is); (case k17 => k_is); (case a18 => k_is); (case l18 => k_is); (case c18 => k_is); (case k18 => k_is); (case a19 => k_is); (case l19 => k_is); (case c19 => k_is); (case k19 => k_is); (case a20 => k_is); (case l20 => k_is); (case c20 => k_is); (case k20 => k_is); (case y1 => k_is); (case y2 => k_is); (case y3 => k_is); (case y4 => k_is); (case y5 => k_is); (case y6 => k_is); (case y7 => k_is); (case aM => k_is); (case lM => k_is); (case z1 => k_is); (case z2 => k_is); (case z3 => k_is); (case z4 => k_is); (case z5 => k_is); (case z6 => k_is); (case z7 => k_is); (case z8 => k_is); (case z9 => k_is); (case z10 => k_is)
