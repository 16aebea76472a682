import PyProof.Rows.All
import Wide.All
import OpenK.AllK
import Wide.FinOn
import PyProof.EqAt
import PyProof.EqKinds
import PyProof.TupleCall
import HandS.ForMost
import HandS.IsInst
import HandS.TupAny
import HandS.Strs
import HandS.SetKeys
import HandS.Style
import HandS.Deep
import HandS.TupLen
import HandS.More
import HandS.Walk
import HandS.Defaults
import HandS.Star
import HandS.DictComp
import HandS.RevRange
import PyProof.ZipIter
import KE.KItemsList
import HandS.Zip
import HandS.Wide
import HandS.WideBits
import HandS.ForExc
import HandS.ForDict
import HandS.Small
import HandS.ExcIs
import PySem.Challenge.RW_turnshelves_k30_disk_keeps_what_was_sync
set_option Elab.async false
set_option linter.all false
set_option maxRecDepth 100000
set_option maxHeartbeats 4000000
namespace Ow
open PySem PySem.Spec PyProof.Rows L2

/-- the def that the module's name x holds keeps sp, by k levels -/
structure Kn (P : Program) (w : World) (K : PySem.W.Frag) (mg : Str → Option Value) (base : Heap)
    (k : Nat) (x : Str) (ps : List Str) (sp : Sp) : Prop where
  ex : ∃ f fd, FnOk P w K mg base CX0 k f fd ps sp ∧ mg x = some (.ref f) ∧
    PySem.W.keepIn K (.ref f) = true ∧ Binds K fd ps []

theorem pe_kn {X : Cx} {k j : Nat} {x : Str} {ps : List Str} {sp : Sp} {p pos : Pos} {e : Expr}
    {es : List Expr} {t : TA} (c : Kn X.prog X.w X.K X.mg X.base k x ps sp) (hr : Room j X.A)
    (ha : PA X (e :: es) t) (hk : k ≤ j := by decide) (hg : Gl X x := by rfl)
    (hdb : (x == ("__debug__" : Str)) = false := by decide)
    (he : starEach (e :: es) X.env = (false, eval e X.env) :: starEach es X.env := by rfl)
    (hpl : (backTo pos (starEach es X.env)).any (·.1) = false := by rfl) :
    PE X (.Call (.Name x p) (e :: es) [] pos) (tCall sp [] E0 t) := by
  obtain ⟨f, fd, F, gm, kp, b⟩ := c.ex
  exact pe_call F (hr.mono hk) hg gm kp b .nil pass0 ha hdb he hpl

theorem hu64 {k : Nat} {A : Around} (hr : Room k A) : A.units + 64 < cLine := hr.units

/-- the heap but for what stands at p -/
def Gw (p : Addr) (H H' : Hp) : Prop := ∀ b o, b ≠ p → H b = some o → H' b = some o
theorem Gw.refl (p : Addr) (H : Hp) : Gw p H H := fun _ _ _ e => e
theorem Gw.trans {p : Addr} {H H1 H2 : Hp} (a : Gw p H H1) (b : Gw p H1 H2) : Gw p H H2 :=
  fun c o n e => b c o n (a c o n e)
theorem Gw.new {p q : Addr} {H : Hp} {o : HO} (n : H q = none) : Gw p H (upd H q o) :=
  fun b u _ e => by rw [upd_ne (ne_of_none e n)]; exact e
theorem Gw.put {p : Addr} {H : Hp} {o : HO} : Gw p H (upd H p o) :=
  fun b u nb e => by rw [upd_ne nb]; exact e
theorem Gw.same {p : Addr} {H H' : Hp} (s : Same H H') : Gw p H H' := fun b o _ e => s b o e
theorem Same.new {q : Addr} {H : Hp} {o : HO} (n : H q = none) : Same H (upd H q o) :=
  fun b u e => by rw [upd_ne (ne_of_none e n)]; exact e

theorem Gw.over {p o : Addr} {H H' : Hp} {u : HO} (g : Gw p H H') (n : H o = none) : Gw p H (upd H' o u) :=
  fun b x nb e => by rw [upd_ne (ne_of_none e n)]; exact g b x nb e
theorem Same.over {o : Addr} {H H' : Hp} {u : HO} (g : Same H H') (n : H o = none) : Same H (upd H' o u) :=
  fun b x e => by rw [upd_ne (ne_of_none e n)]; exact g b x e
theorem Gw.keep {p q : Addr} {H H' : Hp} {o : HO} (g : Gw p H H') (h : H q = some o) (n : q ≠ p) : H' q = some o := g q o n h
/-- what is free behind was free before -/
theorem Gw.free {p q : Addr} {H H' : Hp} (g : Gw p H H') (n : H' q = none) (ne : q ≠ p) : H q = none := by
  cases z : H q with
  | none => rfl
  | some o =>
    rw [g q o ne z] at n
    cases n
theorem small {n m : Nat} (h : n ≤ m) (hm : m ≤ 10000) : n < sizeLine :=
  Nat.lt_of_le_of_lt (Nat.le_trans h hm) (by decide)
end Ow
namespace Ow
open PySem PySem.Spec PyProof.Rows L2
theorem pget_list {X : Cx} : PGet X (rIxL X.K) := by
  intro pins s σ H o i ov iv Q I ro ri h
  obtain ⟨p, xs, n, v, rfl, rfl, hs, ha, q⟩ := h
  cases ro
  obtain ⟨t, rfl⟩ := ri
  obtain ⟨its, r, pl, hz⟩ := I.list hs
  obtain ⟨j, h1, h2, h3, h4, h5⟩ := atI_get ha
  obtain ⟨u, eu, ru⟩ := r.get h2
  have ln := line63
  have hl := r.length
  by_cases h0 : 0 ≤ n
  · have ej : n.toNat = j := by
      rw [seqIndex_of h0 h5] at h1
      exact Option.some.inj h1
    exact wpAny_getItem_list pl.isList h0 (by omega) (by rw [ej]; simpa using eu) ⟨v, H, I, ru, q⟩
  · have ej : (n + (its.toArray.size : Int)).toNat = j := by
      rw [seqIndex_neg (by omega) h4] at h1
      rw [List.size_toArray, ← hl]
      exact Option.some.inj h1
    exact wpAny_getItem_list_neg pl.isList (by omega) (by rw [List.size_toArray]; omega) (by omega)
      (by rw [ej]; simpa using eu) ⟨v, H, I, ru, q⟩
theorem at_in {α : Type} {xs : List α} {v : Int} (h0 : 0 ≤ v) (h1 : v < xs.length) : ∃ y, atI xs v = some y ∧ y ∈ xs := by
  have h : v.toNat < xs.length := by omega
  have e : v = ((v.toNat : Nat) : Int) := by omega
  refine ⟨xs[v.toNat], ?_, List.getElem_mem h⟩
  have z := atI_nat (xs := xs) (j := v.toNat) (List.getElem?_eq_getElem h)
  rw [← e] at z
  exact z
end Ow
namespace Ow
open PySem PySem.Spec PyProof.Rows L2
/-- a built-in class by its name -/
theorem pe_ty {X : Cx} (n : String) {x : Str} {pos : Pos} (hg : Gl X x) (hm : X.mg x = none) (hv : bootBuiltins x = some (.type n))
    (hn : x ≠ "__name__" := by decide) (hd : (x == ("__debug__" : Str)) = false := by decide) : PE X (.Name x pos) (tC (.ty n)) :=
  pe_bltn hg hm hv rfl hn hd
theorem sz (n : Nat) (h : n ≤ 1000 := by decide) : n ≤ sizeLine := Nat.le_trans h (by decide)
/-- a statement and the rest, with a word between -/
theorem pss_mid {X : Cx} {st : Stmt} {rest : List Stmt} {t u : TS} (a : PS X st t) (b : PSs X rest u) :
    PSs X (st :: rest) fun D σ H => ∃ Mid : L2.St → Hp → Prop, t { D with nx := Mid } σ H ∧ ∀ σ' H', Mid σ' H' → u D σ' H' := by
  refine ⟨fun pins s σ H D I ⟨Mid, hm, hu⟩ => ?_⟩
  refine wpAny_execs_cons (thn (a.run pins s σ H { D with nx := Mid } I hm) fun f s1 q => ?_)
  cases f with
  | next =>
    obtain ⟨σ', H', I', q⟩ := q
    exact b.run pins s1 σ' H' D I' (hu σ' H' q)
  | ret v => exact q
  | brk => exact q
  | cont => exact q
end Ow
namespace Ow
open PySem PySem.Spec PyProof.Rows L2
theorem ix_tup_K {X : Cx} {K : PySem.W.Frag} (e : X.K = K) : IxR X (rIxT K) := by
  subst e
  exact ix_tup
theorem pe_fld_K {X : Cx} {K : PySem.W.Frag} (e : X.K = K) {o : Expr} {ta : TE} {f : Str} {pos : Pos} (ha : PE X o ta) (hb : attributeBase o f X.env (eval o X.env) = eval o X.env) : PE X (.Attribute o f pos) (tFld K ta f) := by
  subst e
  exact pe_fld ha hb
theorem ix_list_K {X : Cx} {K : PySem.W.Frag} (e : X.K = K) : IxR X (rIxL K) := by
  subst e
  exact ix_list
theorem op_catA_K {X : Cx} {K : PySem.W.Frag} (e : X.K = K) : OpR X (binaryOp .Add) (rCatA K) := by
  subst e
  exact op_catA
def rTupK (K : PySem.W.Frag) : List V → Hp → VK → Prop := fun xs H Q => ∃ p ys, xs = [V.ref p] ∧ ((SqL K H p ys ∧ ∀ l, H l = none → Q (.ref l) (upd H l (.tup ys))) ∨ (SqT K H p ys ∧ Q (.ref p) H))
theorem call_tuple_K {X : Cx} {K : PySem.W.Frag} (e : X.K = K) : CallR X (.type "tuple") (rTupK K) := by
  subst e
  exact call_tuple_of
def rListK (K : PySem.W.Frag) : List V → Hp → VK → Prop := fun xs H Q => ∃ p ys, xs = [V.ref p] ∧ (SqL K H p ys ∨ SqT K H p ys) ∧ ∀ l, H l = none → Q (.ref l) (upd H l (.lst ys))
theorem call_list_K {X : Cx} {K : PySem.W.Frag} (e : X.K = K) : CallR X (.type "list") (rListK K) := by
  subst e
  exact call_list_of
def rLenK (K : PySem.W.Frag) : List V → Hp → VK → Prop := fun xs H Q => ∃ p ys, xs = [V.ref p] ∧ (SqL K H p ys ∨ SqT K H p ys) ∧ Q (.int (ys.length : Nat)) H
theorem call_len_K {X : Cx} {K : PySem.W.Frag} (e : X.K = K) : CallR X (.builtin "len") (rLenK K) := by
  subst e
  exact call_len_seq
theorem call_min_K {X : Cx} {K : PySem.W.Frag} (e : X.K = K) (hc : X.calm = true) : CallR X (.builtin "min") (rMin K) := by
  subst e
  exact cr_min hc
theorem call_max_K {X : Cx} {K : PySem.W.Frag} (e : X.K = K) (hc : X.calm = true) : CallR X (.builtin "max") (rMax K) := by
  subst e
  exact cr_max hc
theorem call_sum_K {X : Cx} {K : PySem.W.Frag} (e : X.K = K) (hc : X.calm = true) : CallR X (.builtin "sum") (rSum K) := by
  subst e
  exact cr_sum hc
theorem mt_index_K {X : Cx} {K : PySem.W.Frag} (e : X.K = K) : MtR X "list.index" (rIndex K) := by
  subst e
  exact mt_index
theorem hu65 {k : Nat} {A : Around} (hr : Room k A) : A.units + 65 < cLine := by have := hr.un; omega
theorem putF_len (f : Str) (v : V) : ∀ fs : List (Str × V), (putF f v fs).length ≤ fs.length + 1
  | [] => Nat.le_refl _
  | (g, u) :: r => by
    rw [putF]
    split
    · exact Nat.le_succ _
    · exact Nat.succ_le_succ (putF_len f v r)
theorem Same.upd0 {H H' : Hp} {a : Addr} {o : HO} (n : H a = none) (s : Same (upd H a o) H') : Same H H' := (Same.new n).trans s
theorem Same.at {H H' : Hp} {a : Addr} {o : HO} (s : Same (upd H a o) H') : H' a = some o := s a o upd_same
/-- a comprehension whose turns leave what was: of the turns i with p i the value ys i -/
theorem lc_fl {J : L2.It} {n : Nat} {G : Hp → Prop} {Y : Nat → Hp → V → Hp → Prop} (w : Walk J n G Y) (p : Nat → Bool) (ys : Nat → V) (hn : n < sizeLine) {g : TG} {tt : TT} {te : TE} {vs : List Nat} {σ : L2.St} {H1 : Hp} {D : Addr} {Qd : Hp → Prop} (hD : H1 D = none)
    (hG : ∀ H, Same H1 H → G H)
    (hs : ∀ i x H H' (N : VK) (M : Hp → Prop), i < n → Same H1 H → Y i H x H' → (p i = true → ∀ H4, Same H H4 → N (ys i) H4) → (p i = false → ∀ H4, Same H H4 → M H4) →
      g x (wipe σ vs) H' fun σ2 H2 => wipe σ2 vs = wipe σ vs ∧ tt σ2 H2 fun b H3 => if b = true then te σ2 H3 N else M H3)
    (hd : ∀ H, Same H1 H → H D = some (.lst (((List.range n).filter p).map ys)) → Qd H) :
    ∃ W : Nat → Nat → Hp → Prop, (∃ m, W 0 m (upd H1 D (.lst []))) ∧ ∀ i m H, W i m H →
      (J.stop i H ∧ Qd H) ∨ (J.go i H ∧ ∃ Nx : Hp → Prop, (∀ H', Nx H' → ∃ m', m' < m ∧ W (i + 1) m' H') ∧ ∀ x H', J.yld i H x H' → g x (wipe σ vs) H' fun σ2 H2 => wipe σ2 vs = wipe σ vs ∧ tt σ2 H2 fun b H3 =>
        if b = true then te σ2 H3 fun y H4 => ∃ acc, H4 D = some (.lst acc) ∧ acc.length < sizeLine ∧ Nx (upd H4 D (.lst (acc ++ [y]))) else Nx H3) := by
  have pre : ∀ i, (((List.range i).filter p).map ys).length ≤ i := fun i => by
    rw [List.length_map]
    exact Nat.le_trans (List.length_filter_le _ _) (by rw [List.length_range]; exact Nat.le_refl _)
  refine lc_it w (fun i H => Same H1 H ∧ H D = some (.lst (((List.range i).filter p).map ys))) ⟨Same.new hD, upd_same⟩ (fun i H _ h => hG H h.1) (fun i x H H' hi h y => ?_) fun H h => hd H h.1 h.2
  have st : ((List.range (i + 1)).filter p).map ys = ((List.range i).filter p).map ys ++ (if p i = true then [ys i] else []) := by
    rw [List.range_succ, List.filter_append, List.map_append]
    cases e : p i <;> simp [List.filter, e]
  refine hs i x H H' _ _ hi h.1 y (fun e H4 s4 => ?_) fun e H4 s4 => ?_
  · refine ⟨_, s4 _ _ h.2, Nat.lt_of_le_of_lt (pre i) (Nat.lt_trans hi hn), Same.over (h.1.trans s4) hD, ?_⟩
    rw [upd_same, st, if_pos e]
  · refine ⟨h.1.trans s4, ?_⟩
    rw [s4 _ _ h.2, st, e, if_neg (by decide), List.append_nil]
theorem filter_all {α : Type} (xs : List α) : xs.filter (fun _ => true) = xs := by
  induction xs with
  | nil => rfl
  | cons x r ih => simp [List.filter, ih]
/-- every turn gives a value -/
theorem lc_mk {J : L2.It} {n : Nat} {G : Hp → Prop} {Y : Nat → Hp → V → Hp → Prop} (w : Walk J n G Y) (ys : Nat → V) (hn : n < sizeLine) {g : TG} {te : TE} {vs : List Nat} {σ : L2.St} {H1 : Hp} {D : Addr} {Qd : Hp → Prop} (hD : H1 D = none)
    (hG : ∀ H, Same H1 H → G H)
    (hs : ∀ i x H H' (N : VK), i < n → Same H1 H → Y i H x H' → (∀ H4, Same H H4 → N (ys i) H4) → g x (wipe σ vs) H' fun σ2 H2 => wipe σ2 vs = wipe σ vs ∧ te σ2 H2 N)
    (hd : ∀ H, Same H1 H → H D = some (.lst ((List.range n).map ys)) → Qd H) :
    ∃ W : Nat → Nat → Hp → Prop, (∃ m, W 0 m (upd H1 D (.lst []))) ∧ ∀ i m H, W i m H →
      (J.stop i H ∧ Qd H) ∨ (J.go i H ∧ ∃ Nx : Hp → Prop, (∀ H', Nx H' → ∃ m', m' < m ∧ W (i + 1) m' H') ∧ ∀ x H', J.yld i H x H' → g x (wipe σ vs) H' fun σ2 H2 => wipe σ2 vs = wipe σ vs ∧ tYes σ2 H2 fun b H3 =>
        if b = true then te σ2 H3 fun y H4 => ∃ acc, H4 D = some (.lst acc) ∧ acc.length < sizeLine ∧ Nx (upd H4 D (.lst (acc ++ [y]))) else Nx H3) :=
  lc_fl w (fun _ => true) ys hn hD hG (fun i x H H' N M hi s y h1 _ => hs i x H H' N hi s y (h1 rfl)) (by rw [filter_all]; exact hd)
/-- every turn gives a new list, of the row i -/
theorem lc_new {J : L2.It} {n : Nat} {G : Hp → Prop} {Y : Nat → Hp → V → Hp → Prop} (w : Walk J n G Y) (row : Nat → List V) (hn : n < sizeLine) {g : TG} {te : TE} {vs : List Nat} {σ : L2.St} {H1 : Hp} {D : Addr} {Qd : Hp → Prop} (hD : H1 D = none)
    (hG : ∀ H, Same H1 H → G H)
    (hs : ∀ i x H H' (N : VK), i < n → Same H1 H → Y i H x H' → (∀ H4 q, Same H H4 → H q = none → H4 q = some (.lst (row i)) → N (.ref q) H4) → g x (wipe σ vs) H' fun σ2 H2 => wipe σ2 vs = wipe σ vs ∧ te σ2 H2 N)
    (hd : ∀ (H : Hp) (ts : List Addr), Same H1 H → H D = some (.lst (ts.map V.ref)) → ts.length = n → (∀ i t, ts[i]? = some t → H1 t = none ∧ t ≠ D ∧ H t = some (.lst (row i))) → Qd H) :
    ∃ W : Nat → Nat → Hp → Prop, (∃ m, W 0 m (upd H1 D (.lst []))) ∧ ∀ i m H, W i m H →
      (J.stop i H ∧ Qd H) ∨ (J.go i H ∧ ∃ Nx : Hp → Prop, (∀ H', Nx H' → ∃ m', m' < m ∧ W (i + 1) m' H') ∧ ∀ x H', J.yld i H x H' → g x (wipe σ vs) H' fun σ2 H2 => wipe σ2 vs = wipe σ vs ∧ tYes σ2 H2 fun b H3 =>
        if b = true then te σ2 H3 fun y H4 => ∃ acc, H4 D = some (.lst acc) ∧ acc.length < sizeLine ∧ Nx (upd H4 D (.lst (acc ++ [y]))) else Nx H3) := by
  refine lc_it w (fun i H => Same H1 H ∧ ∃ ts : List Addr, H D = some (.lst (ts.map V.ref)) ∧ ts.length = i ∧ ∀ j t, ts[j]? = some t → H1 t = none ∧ t ≠ D ∧ H t = some (.lst (row j))) ⟨Same.new hD, [], upd_same, rfl, fun j t e => by simp at e⟩ (fun i H _ h => hG H h.1) (fun i x H H' hi h y => ?_) fun H h => ?_
  · obtain ⟨s, ts, eD, el, et⟩ := h
    refine hs i x H H' _ hi s y fun H4 q s4 nq eq => ?_
    have qD : q ≠ D := fun z => by rw [z, eD] at nq; cases nq
    refine ⟨_, s4 _ _ eD, by rw [List.length_map, el]; exact Nat.lt_trans hi hn, Same.over (s.trans s4) hD, ts ++ [q], ?_, by rw [List.length_append, el]; rfl, fun j t ej => ?_⟩
    · rw [upd_same, List.map_append]
      rfl
    · rcases Nat.lt_trichotomy j ts.length with h1 | h1 | h1
      · rw [List.getElem?_append_left h1] at ej
        obtain ⟨f1, f2, f3⟩ := et j t ej
        exact ⟨f1, f2, by rw [upd_ne f2]; exact s4 _ _ f3⟩
      · subst h1
        have e2 : q = t := by simpa using ej
        subst e2
        refine ⟨?_, qD, by rw [upd_ne qD, el]; exact eq⟩
        cases z : H1 q with
        | none => rfl
        | some o => rw [s q o z] at nq; cases nq
      · rw [List.getElem?_eq_none (by rw [List.length_append, List.length_singleton]; omega)] at ej
        cases ej
  · obtain ⟨s, ts, eD, el, et⟩ := h
    exact hd H ts s eD el et
/-- the method m of the class C keeps sp, by k levels -/
structure Kmt (P : Program) (w : World) (K : PySem.W.Frag) (mg : Str → Option Value) (base : Heap) (C : Addr) (k : Nat) (m : Str) (ps : List Str) (sp : Sp) : Prop where
  ex : ∃ f fd, Meth K C m f ∧ FnOk P w K mg base CX0 k f fd ps sp ∧ Binds K fd ps []
  cl : Cls K C
theorem pe_mt {X : Cx} {k j : Nat} {C : Addr} {m : Str} {ps : List Str} {sp : Sp} {o e : Expr} {es : List Expr} {ta : TE} {t : TA} {apos pos : Pos} {pl : Sem Bool} (c : Kmt X.prog X.w X.K X.mg X.base C k m ps sp) (hr : Room j X.A) (he : PE X o ta) (ha : PA X (e :: es) t) (hk : k ≤ j := by decide)
    (hst : starEach (e :: es) X.env = (false, eval e X.env) :: starEach es X.env := by rfl) (hpl : (backTo pos (starEach es X.env)).any (·.1) = false := by rfl)
    (ht : eval (.Call (.Attribute o m apos) (e :: es) [] pos) X.env = (do
      let ov ← eval o X.env; standAt apos.atName
      let (f, first) ← holding [ov] (getMethod ov m pl)
      callWith pos f first (backTo pos (starEach (e :: es) X.env)) (backToKw pos (keywordEach [] X.env))) := by rfl) :
    PE X (.Call (.Attribute o m apos) (e :: es) [] pos) (tMeth C m sp [] E0 ta t) := by
  obtain ⟨f, fd, hm, F, b⟩ := c.ex
  exact pe_meth he c.cl hm F (hr.mono hk) b .nil pass0 ha hst hpl ht
theorem pi_list_K {X : Cx} {K : PySem.W.Frag} (eK : X.K = K) {tg l : Expr} {tl : TE} (h : PE X l tl) : PI X tg l (iList K tl) := by
  subst eK
  exact pi_list h
theorem pi_zip_K {X : Cx} {K : PySem.W.Frag} (eK : X.K = K) {e e2 : Expr} {ta : TA} {p pos tpos : Pos} {elts : List Expr} {kk : Nat} (hg : Gl X "zip") (hm : X.mg "zip" = none) (ha : PA X [e, e2] ta)
    (hs : starEach [e, e2] X.env = (false, eval e X.env) :: starEach [e2] X.env := by rfl) (hpl : (backTo pos (starEach [e2] X.env)).any (·.1) = false := by rfl) :
    PI X (.Tuple elts kk tpos) (.Call (.Name "zip" p) [e, e2] [] pos) (iZip K ta) := by
  subst eK
  exact pi_zip hg hm ha hs hpl
theorem sqt_same {K : PySem.W.Frag} {H H' : Hp} {t : Addr} {xs : List V} (s : Same H H') (e : SqT K H t xs) : SqT K H' t xs := by
  rcases e with (h | ⟨o, h⟩) | h
  · exact .inl (.inl (s _ _ h))
  · exact .inl (.inr ⟨o, s _ _ h⟩)
  · exact .inr h
theorem pe_mt0 {X : Cx} {k j : Nat} {C : Addr} {m : Str} {ps : List Str} {sp : Sp} {o : Expr} {ta : TE} {apos pos : Pos} {pl : Sem Bool} (c : Kmt X.prog X.w X.K X.mg X.base C k m ps sp) (hr : Room j X.A) (he : PE X o ta) (hk : k ≤ j := by decide)
    (ht : eval (.Call (.Attribute o m apos) [] [] pos) X.env = (do
      let ov ← eval o X.env; standAt apos.atName
      let (f, first) ← holding [ov] (getMethod ov m pl)
      callWith pos f first (backTo pos (starEach [] X.env)) (backToKw pos (keywordEach [] X.env))) := by rfl) :
    PE X (.Call (.Attribute o m apos) [] [] pos) (tMeth C m sp [] E0 ta tNil) := by
  obtain ⟨f, fd, hm, F, b⟩ := c.ex
  exact pe_meth0 he c.cl hm F (hr.mono hk) b .nil pass0 ht
/-- the class C is made by an __init__ that keeps sp, by k levels -/
structure Kmk (P : Program) (w : World) (K : PySem.W.Frag) (mg : Str → Option Value) (base : Heap) (C : Addr) (k : Nat) (ps : List Str) (sp : Sp) : Prop where
  ex : ∃ f fd, Mk K C f ∧ FnOk P w K mg base CX0 k f fd ps sp ∧ Binds K fd ps []
theorem pe_mk {X : Cx} {k j : Nat} {C : Addr} {x : Str} {ps : List Str} {sp : Sp} {e : Expr} {es : List Expr} {t : TA} {p pos : Pos} (c : Kmk X.prog X.w X.K X.mg X.base C k ps sp) (hm : X.mg x = some (.ref C)) (hr : Room j X.A) (ha : PA X (e :: es) t) (hk : k + 1 ≤ j := by decide) (hg : Gl X x := by rfl)
    (hdb : (x == ("__debug__" : Str)) = false := by decide) (he : starEach (e :: es) X.env = (false, eval e X.env) :: starEach es X.env := by rfl) (hpl : (backTo pos (starEach es X.env)).any (·.1) = false := by rfl) :
    PE X (.Call (.Name x p) (e :: es) [] pos) (tMake C sp [] E0 t) := by
  obtain ⟨f, fd, M, F, b⟩ := c.ex
  exact pe_make M F (hr.mono hk) hg hm b .nil pass0 ha hdb he hpl
end Ow
/-! zip and enumerate over lists and tuples, in any mixture: a flag tells which -/
namespace Zg
open PySem PySem.Spec PyProof.Rows L2 Ow
/-- the items at l: of a tuple (true) or of a list (false) -/
def Sq1 : Bool → Heap → Addr → Array Value → Prop
  | true, h, l, xs => h.IsTuple l xs
  | false, h, l, xs => h.IsList l xs
/-- the iterator it of l, at turn k -/
def It1 : Bool → Heap → Addr → Addr → Nat → Prop
  | true, h, i, l, k => h.IsTupleIter i l k
  | false, h, i, l, k => h.IsListIter i l k
def nmIt : Bool → String
  | true => "tuple_iterator"
  | false => "list_iterator"
/-- a new iterator of l -/
def itOb (t : Bool) (l : Addr) : Obj := { cls := .type (nmIt t), data := .fields #[.ref l, .int 0 0] }
theorem It1.keep {t : Bool} {h h' : Heap} {i l : Addr} {k : Nat} (g : It1 t h i l k) (e : ∀ o, h.get? i = some o → h'.get? i = some o) : It1 t h' i l k := by
  cases t
  · exact Heap.IsListIter.at g e
  · exact Heap.IsTupleIter.at g e
theorem Sq1.keep {t : Bool} {h h' : Heap} {l : Addr} {xs : Array Value} (g : Sq1 t h l xs) (e : ∀ o, h.get? l = some o → h'.get? l = some o) : Sq1 t h' l xs := by
  cases t
  · exact Heap.IsList.at g e
  · obtain ⟨o, a, b⟩ := g
    exact ⟨o, e o a, b⟩
theorem It1.ob {t : Bool} {h : Heap} {i l : Addr} {k : Nat} (g : It1 t h i l k) : ∃ o, h.get? i = some o ∧ o.data = .fields #[.ref l, rawInt k] := by
  cases t
  · obtain ⟨o, a, _, b⟩ := g
    exact ⟨o, a, b⟩
  · obtain ⟨o, a, _, b⟩ := g
    exact ⟨o, a, b⟩
theorem It1.lt {t : Bool} {h : Heap} {i l : Addr} {k : Nat} (g : It1 t h i l k) : i < h.objs.size := by
  obtain ⟨o, a, _⟩ := g.ob
  exact Heap.lt_size a
theorem It1.new {t : Bool} {h : Heap} {i l : Addr} (e : h.get? i = some (itOb t l)) : It1 t h i l 0 := by
  cases t
  · exact ⟨_, e, rfl, rfl⟩
  · exact ⟨_, e, rfl, rfl⟩
section
variable {prog : Program} {w : World} {A : Around} {E : Value → Shared → Prop} {s : Shared}
theorem draw {t : Bool} {i l : Addr} {k : Nat} {xs : Array Value} {x : Value} {Q : Value → Shared → Prop} (g : It1 t s.heap i l k) (f : Sq1 t s.heap l xs) (e : xs[k]? = some x)
    (q : ∀ h', It1 t h' i l (k + 1) → Heap.SameBut i s.heap h' → Q x { s with heap := h' }) : wpAny (model prog w) A (Builtin.SmallTypes.nextOf (.ref i)) Q E s := by
  cases t
  · exact wpAny_nextOf_list_item g f e q
  · exact RZ.nextOf_tuple_item g f e q
theorem drawEnd {t : Bool} {i l : Addr} {k : Nat} {xs : Array Value} {Q : Value → Shared → Prop} (hh : A.handled = none) (g : It1 t s.heap i l k) (f : Sq1 t s.heap l xs) (e : xs[k]? = none)
    (q : ∀ h' u, Heap.ExtBut i s.heap h' → (∃ o, h'.get? u = some o ∧ o.cls = .type "StopIteration") → E (.ref u) { s with heap := h' }) : wpAny (model prog w) A (Builtin.SmallTypes.nextOf (.ref i)) Q E s := by
  cases t
  · exact wpAny_nextOf_list_end hh g f e q
  · exact RZ.nextOf_tuple_end hh g f e q
theorem iter1 {t : Bool} {l : Addr} {xs : Array Value} {Q : Value → Shared → Prop} (f : Sq1 t s.heap l xs) (q : Q (.ref s.heap.objs.size) { s with heap := s.heap.push (itOb t l) }) : wpAny (model prog w) A (pyIter (.ref l)) Q E s := by
  cases t
  · exact wpAny_pyIter_list f q
  · exact wpAny_pyIter_tuple f q
/-! ### zip -/
theorem zg_item {t u : Bool} {z TI TO i1 i2 l1 l2 : Addr} {k1 k2 : Nat} {xs ys : Array Value} {x y a b : Value} {Q : Value → Shared → Prop} (D : ZipApart z TI TO i1 i2 l1 l2) (hz : IsZip s.heap z TI TO .none) (hTI : IsPair s.heap TI (.ref i1) (.ref i2)) (hTO : IsPair s.heap TO a b)
    (g1 : It1 t s.heap i1 l1 k1) (g2 : It1 u s.heap i2 l2 k2) (f1 : Sq1 t s.heap l1 xs) (f2 : Sq1 u s.heap l2 ys) (hx : xs[k1]? = some x) (hy : ys[k2]? = some y)
    (hQ : ∀ h', IsZip h' z TI TO (rawInt s.heap.objs.size) → IsPair h' TO x y → It1 t h' i1 l1 (k1 + 1) → It1 u h' i2 l2 (k2 + 1) → IsPair h' s.heap.objs.size x y → h'.objs.size = s.heap.objs.size + 1 → (∀ c o, c ≠ z → c ≠ TO → c ≠ i1 → c ≠ i2 → s.heap.get? c = some o → h'.get? c = some o) → Q (.ref s.heap.objs.size) { s with heap := h' }) :
    wpAny (model prog w) A (Builtin.«zip.__next__» ⟨[.ref z], []⟩) (fun fin s' => ∃ v, fin = .done (.ret v) ∧ Q v s') E s := by
  show wpAny _ _ (field (.ref z) 2 >>= _) _ _ _
  refine wpAny_bind (wpAny_field hz rfl (x := .bool false) rfl (?_ : wpAny _ _ (field (.ref z) 3 >>= _) _ _ _))
  refine wpAny_bind (wpAny_field hz rfl (x := .ref TI) rfl (wpAny_bind (wpAny_seqItems hTI rfl (?_ : wpAny _ _ (Builtin.SmallTypes.ownedTupleIsFree (.ref z) >>= _) _ _ _))))
  refine wpAny_bind ?_
  unfold Builtin.SmallTypes.ownedTupleIsFree
  refine wpAny_bind (wpAny_field hz rfl (x := .none) rfl (wpAny_pure ?_))
  simp only [if_true]
  refine wpAny_bind (wpAny_rule (wpAny_bind (wpAny_field hz rfl (x := .ref TO) rfl (wpAny_bind (wpAny_setField_rec hz (by simp) fun ha za sa => ?_)))))
  replace za : IsZip ha z TI TO .ellipsis := za
  refine wpAny_bind ?_
  simp only [List.zipIdx_cons, List.zipIdx_nil, List.forIn_cons, List.forIn_nil]
  refine wpAny_bind (wpAny_bind (wpAny_onRaise (?_ : wpAny _ _ (Builtin.SmallTypes.nextOf (.ref i1) >>= _) _ _ _)))
  refine wpAny_bind (draw (g1.keep fun o => sa.extBut _ o D.i1z) (f1.keep fun o => sa.extBut _ o D.l1z) hx fun hb gb sb => wpAny_pure ?_)
  have pb : IsPair hb TO a b := sb.extBut _ _ D.TOi1 (sa.extBut _ _ D.TOz hTO)
  refine wpAny_bind (wpAny_seqItems pb rfl (wpAny_bind (wpAny_updateSeq_pair pb fun hc pc sc => ?_)))
  replace pc : IsPair hc TO x b := pc
  refine wpAny_bind (wpAny_letGo (wpAny_pure ?_))
  refine wpAny_bind (wpAny_bind (wpAny_onRaise (?_ : wpAny _ _ (Builtin.SmallTypes.nextOf (.ref i2) >>= _) _ _ _)))
  refine wpAny_bind (draw (g2.keep fun o e => sc.extBut _ o D.TOi2.symm (sb.extBut _ o D.i12.symm (sa.extBut _ o D.i2z e))) (f2.keep fun o e => sc.extBut _ o D.l2TO (sb.extBut _ o D.l2i1 (sa.extBut _ o D.l2z e))) hy fun hd gd sd => wpAny_pure ?_)
  have pd : IsPair hd TO x b := sd.extBut _ _ D.TOi2 pc
  refine wpAny_bind (wpAny_seqItems pd rfl (wpAny_bind (wpAny_updateSeq_pair pd fun he pe se => ?_)))
  replace pe : IsPair he TO x y := pe
  refine wpAny_bind (wpAny_letGo (wpAny_pure (wpAny_pure ?_)))
  refine wpAny_bind (wpAny_seqItems pe rfl (wpAny_bind (wpAny_newTuple ?_)))
  have n5 : he.objs.size = s.heap.objs.size := by rw [se.1, sd.1, sc.1, sb.1, sa.1]
  have ze : IsZip he z TI TO .ellipsis := se.extBut _ _ D.TOz.symm (sd.extBut _ _ D.i2z.symm (sc.extBut _ _ D.TOz.symm (sb.extBut _ _ D.i1z.symm za)))
  have ke : ∀ c o, c ≠ z → c ≠ TO → c ≠ i1 → c ≠ i2 → s.heap.get? c = some o → he.get? c = some o := fun c o c1 c2 c3 c4 e => se.extBut _ _ c2 (sd.extBut _ _ c4 (sc.extBut _ _ c2 (sb.extBut _ _ c3 (sa.extBut _ _ c1 e))))
  have g1e : It1 t he i1 l1 (k1 + 1) := gb.keep fun o e => se.extBut _ o D.TOi1.symm (sd.extBut _ o D.i12 (sc.extBut _ o D.TOi1.symm e))
  have g2e : It1 u he i2 l2 (k2 + 1) := gd.keep fun o e => se.extBut _ o D.TOi2.symm e
  have zlt : z < he.objs.size := Heap.lt_size ze
  show wpAny _ _ (Builtin.SmallTypes.ownedTupleHandOut (.ref z) (.ref he.objs.size) >>= _) _ _ _
  refine wpAny_bind ?_
  unfold Builtin.SmallTypes.ownedTupleHandOut
  have z6 : IsZip (he.push { cls := .type "tuple", data := .seq #[x, y] }) z TI TO .ellipsis := Heap.get?_push_of_some _ ze
  refine wpAny_bind (wpAny_setField_rec z6 (by simp) fun h7 z7 s7 => ?_)
  replace z7 : IsZip h7 z TI TO (rawInt he.objs.size) := z7
  refine wpAny_setField_rec z7 (by simp) fun h8 z8 s8 => ?_
  replace z8 : IsZip h8 z TI TO (rawInt he.objs.size) := z8
  have up : ∀ c o, c ≠ z → he.get? c = some o → h8.get? c = some o := fun c o c1 e => s8.extBut _ _ c1 (s7.extBut _ _ c1 (Heap.get?_push_of_some _ e))
  have t8 : IsPair h8 he.objs.size x y := s8.extBut _ _ (Nat.ne_of_gt zlt) (s7.extBut _ _ (Nat.ne_of_gt zlt) (Heap.get?_push_size _ rfl))
  have n8 : h8.objs.size = he.objs.size + 1 := by rw [s8.1, s7.1, Heap.size_push]
  rw [n5] at z8 t8 n8
  refine wpAny_pure ⟨_, rfl, (?_ : Q (.ref he.objs.size) _)⟩
  rw [n5]
  exact hQ h8 z8 (up _ _ D.TOz pe) (g1e.keep fun o e => up _ o D.i1z e) (g2e.keep fun o e => up _ o D.i2z e) t8 n8 fun c o c1 c2 c3 c4 e => up c o c1 (ke c o c1 c2 c3 c4 e)
theorem zg_end {t u : Bool} {z TI TO i1 i2 l1 l2 : Addr} {k1 k2 : Nat} {xs ys : Array Value} {a b : Value} {Q : Fin → Shared → Prop} (hh : A.handled = none) (D : ZipApart z TI TO i1 i2 l1 l2) (hz : IsZip s.heap z TI TO .none) (hTI : IsPair s.heap TI (.ref i1) (.ref i2)) (hTO : IsPair s.heap TO a b)
    (g1 : It1 t s.heap i1 l1 k1) (g2 : It1 u s.heap i2 l2 k2) (f1 : Sq1 t s.heap l1 xs) (f2 : Sq1 u s.heap l2 ys) (hend : xs[k1]? = none ∨ ys[k2]? = none)
    (hE : ∀ h' e, (∀ c o, c ≠ z → c ≠ TO → c ≠ i1 → c ≠ i2 → s.heap.get? c = some o → h'.get? c = some o) → (∃ o, h'.get? e = some o ∧ o.cls = .type "StopIteration") → E (.ref e) { s with heap := h' }) :
    wpAny (model prog w) A (Builtin.«zip.__next__» ⟨[.ref z], []⟩) Q E s := by
  show wpAny _ _ (field (.ref z) 2 >>= _) _ _ _
  refine wpAny_bind (wpAny_field hz rfl (x := .bool false) rfl (?_ : wpAny _ _ (field (.ref z) 3 >>= _) _ _ _))
  refine wpAny_bind (wpAny_field hz rfl (x := .ref TI) rfl (wpAny_bind (wpAny_seqItems hTI rfl (?_ : wpAny _ _ (Builtin.SmallTypes.ownedTupleIsFree (.ref z) >>= _) _ _ _))))
  refine wpAny_bind ?_
  unfold Builtin.SmallTypes.ownedTupleIsFree
  refine wpAny_bind (wpAny_field hz rfl (x := .none) rfl (wpAny_pure ?_))
  simp only [if_true]
  refine wpAny_bind (wpAny_rule (wpAny_bind (wpAny_field hz rfl (x := .ref TO) rfl (wpAny_bind (wpAny_setField_rec hz (by simp) fun ha za sa => ?_)))))
  replace za : IsZip ha z TI TO .ellipsis := za
  refine wpAny_bind ?_
  simp only [List.zipIdx_cons, List.zipIdx_nil, List.forIn_cons, List.forIn_nil]
  refine wpAny_bind (wpAny_bind (wpAny_onRaise (?_ : wpAny _ _ (Builtin.SmallTypes.nextOf (.ref i1) >>= _) _ _ _)))
  cases hx : xs[k1]? with
  | none =>
    refine wpAny_bind (drawEnd hh (g1.keep fun o => sa.extBut _ o D.i1z) (f1.keep fun o => sa.extBut _ o D.l1z) hx fun hb e sb he => ?_)
    obtain ⟨oe, eo, ec⟩ := he
    have zb : IsZip hb z TI TO .ellipsis := sb _ _ D.i1z.symm za
    have ez : e ≠ z := fun x => by subst x; rw [zb] at eo; cases eo; simp at ec
    exact wpAny_setField_rec zb (by simp) fun hc _ sc => hE hc e (fun c o c1 _ c3 _ x => sc.extBut _ _ c1 (sb _ _ c3 (sa.extBut _ _ c1 x))) ⟨oe, sc.extBut _ _ ez eo, ec⟩
  | some x =>
    have hy : ys[k2]? = none := by rcases hend with h | h; rw [hx] at h; cases h; exact h
    refine wpAny_bind (draw (g1.keep fun o => sa.extBut _ o D.i1z) (f1.keep fun o => sa.extBut _ o D.l1z) hx fun hb gb sb => wpAny_pure ?_)
    have pb : IsPair hb TO a b := sb.extBut _ _ D.TOi1 (sa.extBut _ _ D.TOz hTO)
    refine wpAny_bind (wpAny_seqItems pb rfl (wpAny_bind (wpAny_updateSeq_pair pb fun hc pc sc => ?_)))
    refine wpAny_bind (wpAny_letGo (wpAny_pure ?_))
    refine wpAny_bind (wpAny_bind (wpAny_onRaise (?_ : wpAny _ _ (Builtin.SmallTypes.nextOf (.ref i2) >>= _) _ _ _)))
    refine wpAny_bind (drawEnd hh (g2.keep fun o e => sc.extBut _ o D.TOi2.symm (sb.extBut _ o D.i12.symm (sa.extBut _ o D.i2z e))) (f2.keep fun o e => sc.extBut _ o D.l2TO (sb.extBut _ o D.l2i1 (sa.extBut _ o D.l2z e))) hy fun hd e sd he => ?_)
    obtain ⟨oe, eo, ec⟩ := he
    have zd : IsZip hd z TI TO .ellipsis := sd _ _ D.i2z.symm (sc.extBut _ _ D.TOz.symm (sb.extBut _ _ D.i1z.symm za))
    have ez : e ≠ z := fun x => by subst x; rw [zd] at eo; cases eo; simp at ec
    exact wpAny_setField_rec zd (by simp) fun hf _ sf => hE hf e (fun c o c1 c2 c3 c4 x => sf.extBut _ _ c1 (sd _ _ c4 (sc.extBut _ _ c2 (sb.extBut _ _ c3 (sa.extBut _ _ c1 x))))) ⟨oe, sf.extBut _ _ ez eo, ec⟩
theorem zg_next {t u : Bool} {z TI TO i1 i2 l1 l2 : Addr} {k1 k2 : Nat} {xs ys : Array Value} {x y a b : Value} {Q : Option Value → Shared → Prop} (D : ZipApart z TI TO i1 i2 l1 l2) (hz : IsZip s.heap z TI TO .none) (hTI : IsPair s.heap TI (.ref i1) (.ref i2)) (hTO : IsPair s.heap TO a b)
    (g1 : It1 t s.heap i1 l1 k1) (g2 : It1 u s.heap i2 l2 k2) (f1 : Sq1 t s.heap l1 xs) (f2 : Sq1 u s.heap l2 ys) (hx : xs[k1]? = some x) (hy : ys[k2]? = some y)
    (hQ : ∀ h', IsZip h' z TI TO (rawInt s.heap.objs.size) → IsPair h' TO x y → It1 t h' i1 l1 (k1 + 1) → It1 u h' i2 l2 (k2 + 1) → IsPair h' s.heap.objs.size x y → h'.objs.size = s.heap.objs.size + 1 → (∀ c o, c ≠ z → c ≠ TO → c ≠ i1 → c ≠ i2 → s.heap.get? c = some o → h'.get? c = some o) → Q (some (.ref s.heap.objs.size)) { s with heap := h' }) :
    wpAny (model prog w) A (pyNext (.ref z)) Q E s := by
  have T : s.TypeIs (.ref z) "zip" := ⟨_, hz, rfl⟩
  unfold pyNext
  exact wpAny_bind (wpAny_attempt (wpAny_callSpecial?_slot (name := Str.ofString "__next__") T F.slot_zip_next (wpAny_call_entry F.slot_zip_next T F.entry_zip_next
      (zg_item D hz hTI hTO g1 g2 f1 f2 hx hy fun h' a1 a2 a3 a4 a5 a6 a7 => wpAny_pure (hQ h' a1 a2 a3 a4 a5 a6 a7)) (F.args_zip_next_1 _))))
theorem zg_none {t u : Bool} {z TI TO i1 i2 l1 l2 : Addr} {k1 k2 : Nat} {xs ys : Array Value} {a b : Value} {Q : Option Value → Shared → Prop} (hh : A.handled = none) (D : ZipApart z TI TO i1 i2 l1 l2) (hz : IsZip s.heap z TI TO .none) (hTI : IsPair s.heap TI (.ref i1) (.ref i2)) (hTO : IsPair s.heap TO a b)
    (g1 : It1 t s.heap i1 l1 k1) (g2 : It1 u s.heap i2 l2 k2) (f1 : Sq1 t s.heap l1 xs) (f2 : Sq1 u s.heap l2 ys) (hend : xs[k1]? = none ∨ ys[k2]? = none)
    (hQ : ∀ h', (∀ c o, c ≠ z → c ≠ TO → c ≠ i1 → c ≠ i2 → s.heap.get? c = some o → h'.get? c = some o) → Q none { s with heap := h' }) : wpAny (model prog w) A (pyNext (.ref z)) Q E s := by
  have T : s.TypeIs (.ref z) "zip" := ⟨_, hz, rfl⟩
  unfold pyNext
  refine wpAny_bind (wpAny_attempt (wpAny_callSpecial?_slot (name := Str.ofString "__next__") T F.slot_zip_next (wpAny_call_entry F.slot_zip_next T F.entry_zip_next (zg_end hh D hz hTI hTO g1 g2 f1 f2 hend fun h' e hk he => ?_) (F.args_zip_next_1 _))))
  obtain ⟨o, eo, ec⟩ := he
  exact wpAny_bind (wpAny_isInstance (T := "StopIteration") (b := true) ⟨o, eo, ec⟩ isSubtype_stop (wpAny_pure (hQ _ hk)))
end
abbrev zgA (t : Bool) (h : Heap) (l1 : Addr) : Heap := h.push (itOb t l1)
abbrev zgB (t u : Bool) (h : Heap) (l1 l2 : Addr) : Heap := (zgA t h l1).push (itOb u l2)
abbrev zgC (t u : Bool) (h : Heap) (l1 l2 : Addr) : Heap := (zgB t u h l1 l2).push { cls := .type "tuple", data := .seq #[.ref h.objs.size, .ref (zgA t h l1).objs.size] }
abbrev zgD (t u : Bool) (h : Heap) (l1 l2 : Addr) : Heap := (zgC t u h l1 l2).push { cls := .type "tuple", data := .seq #[.none, .none] }
abbrev zgE (t u : Bool) (h : Heap) (l1 l2 : Addr) : Heap := (zgD t u h l1 l2).push { cls := .type "zip", data := .fields #[.none, .bool false, .bool false, .ref (zgB t u h l1 l2).objs.size, .ref (zgC t u h l1 l2).objs.size] }
theorem zg_new (t u : Bool) (l1 l2 : Addr) (xs ys : Array Value) : Meets (Builtin.«zip.__new__» ⟨[.type "zip", .ref l1, .ref l2], []⟩) (fun _ R s => Sq1 t s.heap l1 xs ∧ Sq1 u s.heap l2 ys ∧
      R (.ok (.ret (.ref (zgD t u s.heap l1 l2).objs.size))) { s with heap := zgE t u s.heap l1 l2 }) :=
  .of_wp fun prog w A R s h => by
    obtain ⟨hp, g, d, tk, os⟩ := s
    obtain ⟨f1, f2, h⟩ := h
    have hsub := sub_zip
    have e1 : Sq1 t (Shared.heap ⟨hp, g, d, tk, os⟩) l1 xs := f1
    have e2 : Sq1 u (Shared.heap ⟨hp.push (itOb t l1), g, d, tk, os⟩) l2 ys := f2.keep fun o e => Heap.get?_push_of_some _ e
    wp_walk using iter1 e1, iter1 e2
    exact ⟨_, rfl, h⟩
section
variable {prog : Program} {w : World} {A : Around} {E : Value → Shared → Prop} {s : Shared}
theorem zg_call {t u : Bool} {l1 l2 : Addr} {xs ys : Array Value} {Q : Value → Shared → Prop} (f1 : Sq1 t s.heap l1 xs) (f2 : Sq1 u s.heap l2 ys)
    (h : ∀ h', IsZip h' (s.heap.objs.size + 4) (s.heap.objs.size + 2) (s.heap.objs.size + 3) .none → IsPair h' (s.heap.objs.size + 2) (.ref s.heap.objs.size) (.ref (s.heap.objs.size + 1)) → IsPair h' (s.heap.objs.size + 3) .none .none → It1 t h' s.heap.objs.size l1 0 → It1 u h' (s.heap.objs.size + 1) l2 0 → h'.objs.size = s.heap.objs.size + 5 →
      (∀ c o, s.heap.get? c = some o → h'.get? c = some o) → Q (.ref (s.heap.objs.size + 4)) { s with heap := h' }) : wpAny (model prog w) A (call (.type "zip") [.ref l1, .ref l2]) Q E s := by
  refine callType_new F.called_zip (by decide) (F.typeCall_zip_2 _ _) (F.newCall_zip_2 _ _) (fun obj => F.args_object_init_3 obj _ _) F.entry_zip_new (zg_new t u l1 l2 xs ys) ⟨f1, f2, ?_⟩
  have n1 : (zgA t s.heap l1).objs.size = s.heap.objs.size + 1 := Heap.size_push ..
  have n2 : (zgB t u s.heap l1 l2).objs.size = s.heap.objs.size + 2 := by rw [Heap.size_push, n1]
  have n3 : (zgC t u s.heap l1 l2).objs.size = s.heap.objs.size + 3 := by rw [Heap.size_push, n2]
  have n4 : (zgD t u s.heap l1 l2).objs.size = s.heap.objs.size + 4 := by rw [Heap.size_push, n3]
  have n5 : (zgE t u s.heap l1 l2).objs.size = s.heap.objs.size + 5 := by rw [Heap.size_push, n4]
  have up : ∀ {h : Heap} {c : Addr} {o v : Obj}, h.get? c = some o → (h.push v).get? c = some o := fun e => Heap.get?_push_of_some _ e
  have m5 : (zgE t u s.heap l1 l2).get? (zgD t u s.heap l1 l2).objs.size = some _ := Heap.get?_push_size _ rfl
  have m4 : (zgE t u s.heap l1 l2).get? (zgC t u s.heap l1 l2).objs.size = some _ := up (Heap.get?_push_size _ rfl)
  have m3 : (zgE t u s.heap l1 l2).get? (zgB t u s.heap l1 l2).objs.size = some _ := up (up (Heap.get?_push_size _ rfl))
  have m2 : (zgE t u s.heap l1 l2).get? (zgA t s.heap l1).objs.size = some (itOb u l2) := up (up (up (Heap.get?_push_size _ rfl)))
  have m1 : (zgE t u s.heap l1 l2).get? s.heap.objs.size = some (itOb t l1) := up (up (up (up (Heap.get?_push_size _ rfl))))
  show _ ∧ _
  rw [n2, n3, n4] at m5
  rw [n1, n2] at m3
  rw [n3] at m4
  rw [n1] at m2
  rw [n4]
  exact ⟨⟨_, m5, rfl⟩, h _ m5 m3 m4 (.new m1) (.new m2) n5 fun c o x => up (up (up (up (up x))))⟩
end
/-! ### as rules of the hand layer -/
/-- the items at a by the heap's account: of a tuple (true) or a list -/
def SqB (K : PySem.W.Frag) : Bool → Hp → Addr → List V → Prop
  | true, H, a, xs => SqT K H a xs
  | false, H, a, xs => SqL K H a xs
theorem SqB.same {K : PySem.W.Frag} {t : Bool} {H H' : Hp} {a : Addr} {xs : List V} (s : Same H H') (h : SqB K t H a xs) : SqB K t H' a xs := by
  cases t
  · exact s.seq h
  · exact sqt_same s h
theorem sqb_heap {X : Cx} {pins : List (Addr × Obj)} {σ : L2.St} {H : Hp} {s : Shared} {t : Bool} {a : Addr} {xs : List V} (I : Inv X pins σ H s) (h : SqB X.K t H a xs) : ∃ its : List Value, Vals xs its ∧ Sq1 t s.heap a its.toArray ∧ a < s.heap.objs.size := by
  cases t
  · obtain ⟨its, r, p, _⟩ := I.list h
    exact ⟨its, r, p.isList, p.lt⟩
  · obtain ⟨its, r, p, _⟩ := I.tuple h
    obtain ⟨o, e, _⟩ := id p
    exact ⟨its, r, p, Heap.lt_size e⟩
theorem sqb_inj {X : Cx} {pins : List (Addr × Obj)} {σ : L2.St} {H : Hp} {s : Shared} {t : Bool} {a : Addr} {xs ys : List V} (I : Inv X pins σ H s) (h : SqB X.K t H a xs) (h' : SqB X.K t H a ys) : xs = ys := by
  cases t
  · exact I.list_inj h h'
  · exact I.tuple_inj h h'
def ItzG (K : PySem.W.Frag) (t u : Bool) (a b : Addr) : It :=
  ⟨fun i H => ∃ (xs ys : List V) (x y : V), SqB K t H a xs ∧ SqB K u H b ys ∧ xs[i]? = some x ∧ ys[i]? = some y,
    fun i H v H' => ∃ T x y, v = .ref T ∧ H T = none ∧ H' = upd H T (.tup [x, y]) ∧ (∀ xs, SqB K t H a xs → xs[i]? = some x) ∧ ∀ ys, SqB K u H b ys → ys[i]? = some y,
    fun i H => ∃ xs ys : List V, SqB K t H a xs ∧ SqB K u H b ys ∧ (xs.length ≤ i ∨ ys.length ≤ i)⟩
theorem turnG {P : Program} {w : World} {K : PySem.W.Frag} {elts : List Expr} {kk : Nat} {tpos : Pos} {t u : Bool} {a b z TI TO i1 i2 : Addr} (D : ZipApart z TI TO i1 i2 a b) :
    Turn P w K (.Tuple elts kk tpos) (ItzG K t u a b) [z, TI, TO, i1, i2] z (fun i h => IsZip h z TI TO .none ∧ IsPair h TI (.ref i1) (.ref i2) ∧ (∃ x y, IsPair h TO x y) ∧ It1 t h i1 a i ∧ It1 u h i2 b i) where
  mem := by simp
  obj := fun i h st c hc => by
    obtain ⟨hz, hTI, ⟨x, y, hTO⟩, g1, g2⟩ := st
    obtain ⟨o1, e1, d1⟩ := g1.ob
    obtain ⟨o2, e2, d2⟩ := g2.ob
    have e' : c = z ∨ c = TI ∨ c = TO ∨ c = i1 ∨ c = i2 := by simpa using hc
    rcases e' with q | q | q | q | q
    · rw [q]; exact ⟨_, hz, fun v e => nomatch e⟩
    · rw [q]; exact ⟨_, hTI, fun v e => nomatch e⟩
    · rw [q]; exact ⟨_, hTO, fun v e => nomatch e⟩
    · exact ⟨o1, by rw [q]; exact e1, fun v q => by rw [d1] at q; cases q⟩
    · exact ⟨o2, by rw [q]; exact e2, fun v q => by rw [d2] at q; cases q⟩
  keep := fun i h h' st k => by
    obtain ⟨hz, hTI, ⟨x, y, hTO⟩, g1, g2⟩ := st
    exact ⟨k z (by simp) _ hz, k TI (by simp) _ hTI, ⟨x, y, k TO (by simp) _ hTO⟩, g1.keep fun o q => k i1 (by simp) o q, g2.keep fun o q => k i2 (by simp) o q⟩
  item := by
    intro X hP hw hK hc i pins s σ H E I hf st hg
    subst hP hw hK
    obtain ⟨hz, hTI, ⟨x0, y0, hTO⟩, g1, g2⟩ := st
    obtain ⟨xs, ys, x, y, qx, qy, hx, hy⟩ := hg
    obtain ⟨it1, r1, p1, _⟩ := sqb_heap I qx
    obtain ⟨it2, r2, p2, _⟩ := sqb_heap I qy
    obtain ⟨v1, hv1, rv1⟩ := r1.get hx
    obtain ⟨v2, hv2, rv2⟩ := r2.get hy
    have zl : z < s.heap.objs.size := Heap.lt_size hz
    refine zg_next D hz hTI hTO g1 g2 p1 p2 (x := v1) (y := v2) (by simpa using hv1) (by simpa using hv2) fun h' z' TO' k1 k2 hT hsz hk => ⟨_, rfl, wpAny_letOwnedTupleGo_zip (s := { s with heap := h' }) z' fun h'' z'' sb => ?_⟩
    have hT2 : h''.get? s.heap.objs.size = some { cls := .type "tuple", data := .seq #[v1, v2] } := (sb.2 _ (Nat.ne_of_gt zl)).trans hT
    have new : ObjOk X.prog X.w (upd H s.heap.objs.size (.tup [x, y])) h'' s.heap.objs.size (.tup [x, y]) := ⟨by show 2 ≤ sizeLine; decide, [v1, v2], .cons rv1 (.cons rv2 .nil), ⟨_, hT2, rfl, _, rfl⟩⟩
    have I1 : Inv X pins σ (upd H s.heap.objs.size (.tup [x, y])) { s with heap := h'' } := I.turnedNew (t' := s.toks) (ch := [z, TI, TO, i1, i2]) (fun c o hb q => (sb.2 c (fun q' => hb (by simp [q']))).trans (hk c o (fun q' => hb (by simp [q'])) (fun q' => hb (by simp [q'])) (fun q' => hb (by simp [q'])) (fun q' => hb (by simp [q'])) q)) hf (Nat.le_refl _) new
    refine ⟨.ref s.heap.objs.size, _, I1, rfl, ⟨_, x, y, rfl, I.hok.fresh (Nat.le_refl _), rfl, fun l hl => by rw [sqb_inj I hl qx]; exact hx, fun l hl => by rw [sqb_inj I hl qy]; exact hy⟩,
      ⟨z'', (sb.2 _ D.TIz).trans (hk _ _ D.TIz D.TITO D.TIi1 D.TIi2 hTI), ⟨v1, v2, (sb.2 _ D.TOz).trans TO'⟩, k1.keep fun o q => (sb.2 _ D.i1z).trans q, k2.keep fun o q => (sb.2 _ D.i2z).trans q⟩, fun c hcm => ?_⟩
    have hlt : c < s.heap.objs.size := by
      have e' : c = z ∨ c = TI ∨ c = TO ∨ c = i1 ∨ c = i2 := by simpa using hcm
      rcases e' with q | q | q | q | q <;> rw [q]
      · exact zl
      · exact Heap.lt_size hTI
      · exact Heap.lt_size hTO
      · exact g1.lt
      · exact g2.lt
    rw [upd_ne (Nat.ne_of_lt hlt)]
    exact (hf c hcm).1
  done := by
    intro X hP hw hK hc i pins s σ H E I hf st hg
    subst hP hw hK
    obtain ⟨hz, hTI, ⟨x0, y0, hTO⟩, g1, g2⟩ := st
    obtain ⟨xs, ys, qx, qy, hend⟩ := hg
    obtain ⟨it1, r1, p1, _⟩ := sqb_heap I qx
    obtain ⟨it2, r2, p2, _⟩ := sqb_heap I qy
    have l1 := r1.length
    have l2 := r2.length
    have he : it1.toArray[i]? = none ∨ it2.toArray[i]? = none := by
      rcases hend with q | q
      · exact .inl (by simp; omega)
      · exact .inr (by simp; omega)
    exact zg_none (I.ok.hd hc) D hz hTI hTO g1 g2 p1 p2 he fun h' hk => ⟨rfl, I.turnedL (t' := s.toks) (ch := [z, TI, TO, i1, i2]) (fun c o hb q => hk c o (fun q' => hb (by simp [q'])) (fun q' => hb (by simp [q'])) (fun q' => hb (by simp [q'])) (fun q' => hb (by simp [q'])) q) hf⟩
  self := fun A i s Q E st h => wpAny_pyIter_zip st.1 h
def iZipG (K : PySem.W.Frag) (ta : TA) : TI := fun σ H R => ta σ H fun vs H1 => ∃ (t u : Bool) (a b : Addr) (xs ys : List V), vs = [.ref a, .ref b] ∧ SqB K t H1 a xs ∧ SqB K u H1 b ys ∧ R (ItzG K t u a b) H1
theorem pi_zipG {X : Cx} {K : PySem.W.Frag} (eK : X.K = K) {e e2 : Expr} {ta : TA} {p pos tpos : Pos} {elts : List Expr} {kk : Nat} (hg : Gl X "zip") (hm : X.mg "zip" = none) (ha : PA X [e, e2] ta)
    (hs : starEach [e, e2] X.env = (false, eval e X.env) :: starEach [e2] X.env := by rfl) (hpl : (backTo pos (starEach [e2] X.env)).any (·.1) = false := by rfl) : PI X (.Tuple elts kk tpos) (.Call (.Name "zip" p) [e, e2] [] pos) (iZipG K ta) := by
  subst eK
  refine ⟨fun pins s σ H R I h => ?_⟩
  refine Call_ (ld_blt I hg hm PyProof.Rows.boot_zip (PyProof.Rows.callWith_type1 (thn (ha.run pos pins s σ H _ I h) fun us s1 ⟨vs, H1, I1, r1, q1⟩ => ?_) hs hpl))
  obtain ⟨t, u, a, b, xs, ys, rfl, qx, qy, q⟩ := q1
  cases r1 with
  | cons r rr =>
    cases rr with
    | cons r' rr =>
      cases rr
      cases r
      cases r'
      obtain ⟨it1, v1, p1, lt1⟩ := sqb_heap I1 qx
      obtain ⟨it2, v2, p2, lt2⟩ := sqb_heap I1 qy
      refine zg_call p1 p2 fun h' hz hTI hTO g1 g2 hsz hk => wpAny_pyIter_zip hz ?_
      refine ⟨s1.heap.objs.size + 4, [s1.heap.objs.size + 4, s1.heap.objs.size + 2, s1.heap.objs.size + 3, s1.heap.objs.size, s1.heap.objs.size + 1], _, _, H1, rfl, I1.kept (t' := s1.toks) hk, turnG (PySem.W.ktu_apart s1.heap.objs.size a b lt1 lt2), ⟨hz, hTI, ⟨_, _, hTO⟩, g1, g2⟩, fun c hcm => ?_, q⟩
      have hle : s1.heap.objs.size ≤ c := by
        have e' : c = s1.heap.objs.size + 4 ∨ c = s1.heap.objs.size + 2 ∨ c = s1.heap.objs.size + 3 ∨ c = s1.heap.objs.size ∨ c = s1.heap.objs.size + 1 := by simpa using hcm
        rcases e' with z | z | z | z | z <;> rw [z] <;> omega
      exact I1.fpOk hle (I1.hok.fresh hle)
theorem walkG {K : PySem.W.Frag} {t u : Bool} {a b : Addr} {xs ys : List V} {n : Nat} (hn : n = min xs.length ys.length) : Walk (ItzG K t u a b) n (fun H => SqB K t H a xs ∧ SqB K u H b ys) (YPair (fun i => xs[i]?) (fun i => ys[i]?)) := by
  subst hn
  refine ⟨fun i _ hi q => ⟨xs, ys, xs[i]'(by omega), ys[i]'(by omega), q.1, q.2, List.getElem?_eq_getElem _, List.getElem?_eq_getElem _⟩, fun _ q => ⟨xs, ys, q.1, q.2, by omega⟩, fun i H v H' _ q y => ?_⟩
  obtain ⟨T, x, z, h1, h2, h3, h4, h5⟩ := y
  exact ⟨T, x, z, h1, h2, h3, h4 xs q.1, h5 ys q.2⟩
/-! ### enumerate -/
section
variable {prog : Program} {w : World} {A : Around} {E : Value → Shared → Prop} {s : Shared}
theorem en_item {t : Bool} {e it l : Addr} {i : Nat} {xs : Array Value} {x old : Value} {Q : Value → Shared → Prop} (he : IsEnum s.heap e it i old) (g : It1 t s.heap it l i) (f : Sq1 t s.heap l xs) (hx : xs[i]? = some x) (hne : e ≠ it)
    (hQ : ∀ h', IsEnumOut h' e it ((i : Int) + 1) x s.heap.objs.size → It1 t h' it l (i + 1) → h'.get? s.heap.objs.size = some { cls := .type "tuple", data := .seq #[.int i s.toks, x] } → h'.objs.size = s.heap.objs.size + 1 → (∀ b o, b ≠ e → b ≠ it → s.heap.get? b = some o → h'.get? b = some o) → Q (.ref s.heap.objs.size) { s with heap := h', toks := s.toks + 1 }) :
    wpAny (model prog w) A (Builtin.«enumerate.__next__» ⟨[.ref e], []⟩) (fun fin s' => ∃ v, fin = .done (.ret v) ∧ Q v s') E s := by
  obtain ⟨hp, gl, d, tk, os⟩ := s
  refine (?_ : wpAny _ _ (field (.ref e) 2 >>= _) _ _ _)
  refine wpAny_bind (wpAny_field he rfl (x := .ref it) rfl (wpAny_bind (draw g f hx fun ha ga sa => ?_)))
  replace sa : Heap.SameBut it hp ha := sa
  have ea : IsEnum ha e it i old := (sa.2 e hne).trans he
  refine (?_ : wpAny _ _ (field (.ref e) 3 >>= _) _ _ ⟨ha, gl, d, tk, os⟩)
  refine wpAny_bind (wpAny_field ea rfl (x := rawInt i) rfl (?_ : wpAny _ _ (field (.ref e) 4 >>= _) _ _ ⟨ha, gl, d, tk, os⟩))
  refine wpAny_bind (wpAny_field ea rfl (x := .none) rfl (?_ : wpAny _ _ (mkInt i >>= _) _ _ ⟨ha, gl, d, tk, os⟩))
  refine wpAny_bind (wpAny_mkInt (?_ : wpAny _ _ (setField (.ref e) 3 (rawInt ((i : Int) + 1)) >>= _) _ _ ⟨ha, gl, d, tk + 1, os⟩))
  refine wpAny_bind (wpAny_setField_rec ea (by simp) fun hb eb sb => ?_)
  replace sb : Heap.SameBut e ha hb := sb
  replace eb : IsEnum hb e it ((i : Int) + 1) old := eb
  refine (?_ : wpAny _ _ (setField (.ref e) 4 .none >>= _) _ _ ⟨hb, gl, d, tk + 1, os⟩)
  refine wpAny_bind (wpAny_setField_rec eb (by simp) fun hc ec sc => ?_)
  replace sc : Heap.SameBut e hb hc := sc
  replace ec : IsEnum hc e it ((i : Int) + 1) old := ec
  refine (?_ : wpAny _ _ (newTuple [.int i tk, x] >>= _) _ _ ⟨hc, gl, d, tk + 1, os⟩)
  refine wpAny_bind (wpAny_newTuple ?_)
  have e4 : IsEnum (hc.push { cls := .type "tuple", data := .seq #[.int i tk, x] }) e it ((i : Int) + 1) old := Heap.get?_push_of_some _ ec
  generalize hh4 : hc.push { cls := .type "tuple", data := .seq #[.int i tk, x] } = h4 at e4
  have nz : hc.objs.size = hp.objs.size := by rw [sc.1, sb.1, sa.1]
  have lt : e < hp.objs.size := Heap.lt_size he
  have t4 : h4.get? hp.objs.size = some { cls := .type "tuple", data := .seq #[.int i tk, x] } := by rw [← hh4, ← nz]; exact Heap.get?_push_size _ rfl
  have z4 : h4.objs.size = hp.objs.size + 1 := by rw [← hh4, Heap.size_push, nz]
  have k4 : ∀ b o, b ≠ e → b ≠ it → hp.get? b = some o → h4.get? b = some o := fun b o be bi q => by rw [← hh4]; exact Heap.get?_push_of_some _ (sc.extBut b o be (sb.extBut b o be (sa.extBut b o bi q)))
  have g4 : It1 t h4 it l (i + 1) := by rw [← hh4]; exact ga.keep fun o q => Heap.get?_push_of_some _ (sc.extBut _ o (Ne.symm hne) (sb.extBut _ o (Ne.symm hne) q))
  refine (?_ : wpAny _ _ (Builtin.SmallTypes.ownedTupleIsFree (.ref e) >>= _) _ _ ⟨h4, gl, d, tk + 1, os⟩)
  rw [nz]
  clear hh4 ec sc eb sb ea sa ga nz hc hb ha
  refine wpAny_bind ?_
  unfold Builtin.SmallTypes.ownedTupleIsFree
  refine wpAny_bind (wpAny_field e4 rfl (x := .none) rfl (wpAny_pure ?_))
  simp only [if_true]
  refine wpAny_bind (wpAny_rule (wpAny_bind (wpAny_field e4 rfl (x := old) rfl (wpAny_bind (wpAny_setField_rec e4 (by simp) fun h5 e5 s5 => ?_)))))
  replace s5 : Heap.SameBut e h4 h5 := s5
  replace e5 : IsEnum h5 e it ((i : Int) + 1) x := e5
  refine (?_ : wpAny _ _ (Builtin.SmallTypes.ownedTupleHandOut (.ref e) (.ref hp.objs.size) >>= _) _ _ ⟨h5, gl, d, tk + 1, os⟩)
  refine wpAny_bind ?_
  unfold Builtin.SmallTypes.ownedTupleHandOut
  refine wpAny_bind (wpAny_setField_rec e5 (by simp) fun h6 e6 s6 => ?_)
  replace s6 : Heap.SameBut e h5 h6 := s6
  replace e6 : IsEnumOut h6 e it ((i : Int) + 1) x hp.objs.size := e6
  refine wpAny_setField_rec e6 (by simp) fun h7 e7 s7 => ?_
  replace s7 : Heap.SameBut e h6 h7 := s7
  replace e7 : IsEnumOut h7 e it ((i : Int) + 1) x hp.objs.size := e7
  have up : ∀ b o, b ≠ e → h4.get? b = some o → h7.get? b = some o := fun b o be q => s7.extBut b o be (s6.extBut b o be (s5.extBut b o be q))
  exact wpAny_bind (wpAny_letGo (wpAny_pure ⟨_, rfl, hQ h7 e7 (g4.keep fun o q => up _ o (Ne.symm hne) q) (up _ _ (Nat.ne_of_gt lt) t4) (by rw [s7.1, s6.1, s5.1, z4]) fun b o be bi q => up b o be (k4 b o be bi q)⟩))
theorem en_next {t : Bool} {e it l : Addr} {i : Nat} {xs : Array Value} {x old : Value} {Q : Option Value → Shared → Prop} (he : IsEnum s.heap e it i old) (g : It1 t s.heap it l i) (f : Sq1 t s.heap l xs) (hx : xs[i]? = some x) (hne : e ≠ it)
    (hQ : ∀ h', IsEnumOut h' e it ((i : Int) + 1) x s.heap.objs.size → It1 t h' it l (i + 1) → h'.get? s.heap.objs.size = some { cls := .type "tuple", data := .seq #[.int i s.toks, x] } → h'.objs.size = s.heap.objs.size + 1 → (∀ b o, b ≠ e → b ≠ it → s.heap.get? b = some o → h'.get? b = some o) → Q (some (.ref s.heap.objs.size)) { s with heap := h', toks := s.toks + 1 }) :
    wpAny (model prog w) A (pyNext (.ref e)) Q E s := by
  have T : s.TypeIs (.ref e) "enumerate" := ⟨_, he, rfl⟩
  unfold pyNext
  exact wpAny_bind (wpAny_attempt (wpAny_callSpecial?_slot (name := Str.ofString "__next__") T F.slot_enumerate_next (wpAny_call_entry F.slot_enumerate_next T F.entry_enumerate_next (en_item he g f hx hne fun h' a b c d k => wpAny_pure (hQ h' a b c d k)) (F.args_enumerate_next_1 _))))
theorem en_none {t : Bool} {e it l : Addr} {i : Nat} {xs : Array Value} {old : Value} {Q : Option Value → Shared → Prop} (hh : A.handled = none) (he : IsEnum s.heap e it i old) (g : It1 t s.heap it l i) (f : Sq1 t s.heap l xs) (hx : xs[i]? = none)
    (hQ : ∀ h', Heap.ExtBut it s.heap h' → Q none { s with heap := h' }) : wpAny (model prog w) A (pyNext (.ref e)) Q E s := by
  have T : s.TypeIs (.ref e) "enumerate" := ⟨_, he, rfl⟩
  unfold pyNext
  refine wpAny_bind (wpAny_attempt (wpAny_callSpecial?_slot (name := Str.ofString "__next__") T F.slot_enumerate_next (wpAny_call_entry F.slot_enumerate_next T F.entry_enumerate_next (?_ : wpAny _ _ (field (.ref e) 2 >>= _) _ _ _) (F.args_enumerate_next_1 _))))
  refine wpAny_bind (wpAny_field he rfl (x := .ref it) rfl (wpAny_bind (drawEnd hh g f hx fun h' x he' hx' => ?_)))
  obtain ⟨o, ho, hc⟩ := hx'
  exact wpAny_bind (wpAny_isInstance (T := "StopIteration") (b := true) ⟨o, ho, hc⟩ isSubtype_stop (wpAny_pure (hQ _ he')))
end
theorem en_new (t : Bool) (l : Addr) (xs : Array Value) : Meets (Builtin.«enumerate.__new__» ⟨[.type "enumerate", .ref l], []⟩) (fun _ R s => Sq1 t s.heap l xs ∧
      R (.ok (.ret (.ref (s.heap.push (itOb t l)).objs.size))) { s with heap := (s.heap.push (itOb t l)).push { cls := .type "enumerate", data := .fields #[.none, .bool false, .ref s.heap.objs.size, rawInt 0, .none, .none] } }) :=
  .of_wp fun prog w A R s h => by
    obtain ⟨hp, g, d, tk, os⟩ := s
    obtain ⟨f, h⟩ := h
    have hsub := sub_enumerate
    have f' : Sq1 t (Shared.heap ⟨hp, g, d, tk, os⟩) l xs := f
    have ld : ∃ o : Obj, hp.get? l = some o ∧ (o.cls = .type "list" ∨ o.cls = .type "tuple") := by
      cases t
      · obtain ⟨o, a, b, _⟩ := f
        exact ⟨o, a, .inl b⟩
      · obtain ⟨o, a, b, _⟩ := f
        exact ⟨o, a, .inr b⟩
    obtain ⟨ob, lo, lc⟩ := ld
    wp_walk using AutoSeq1.wpAny_loadPart' lo
    refine wpAny_stack_any fun st => wpAny_pure ?_
    split
    · rename_i c _ _ _ _ _
      cases (c == Value.type "enumerate")
      · wp_walk using AutoSeq1.wpAny_loadPart' lo, iter1 f'
        exact ⟨_, rfl, h⟩
      · wp_walk using AutoSeq1.wpAny_loadPart' lo, iter1 f'
        exact ⟨_, rfl, h⟩
    · wp_walk using AutoSeq1.wpAny_loadPart' lo, iter1 f'
      exact ⟨_, rfl, h⟩
section
variable {prog : Program} {w : World} {A : Around} {E : Value → Shared → Prop} {s : Shared}
theorem en_call {t : Bool} {l : Addr} {xs : Array Value} {Q : Value → Shared → Prop} (f : Sq1 t s.heap l xs)
    (h : ∀ h', IsEnum h' (s.heap.objs.size + 1) s.heap.objs.size 0 .none → It1 t h' s.heap.objs.size l 0 → h'.objs.size = s.heap.objs.size + 2 → (∀ b o, s.heap.get? b = some o → h'.get? b = some o) → Q (.ref (s.heap.objs.size + 1)) { s with heap := h' }) :
    wpAny (model prog w) A (call (.type "enumerate") [.ref l]) Q E s := by
  refine callType_new F.called_enumerate (by decide) (F.typeCall_enumerate_1 _) (F.newCall_enumerate_1 _) (fun obj => F.args_object_init_2 obj _) F.entry_enumerate_new (en_new t l xs) ⟨f, ?_⟩
  have n1 : (s.heap.push (itOb t l)).objs.size = s.heap.objs.size + 1 := Heap.size_push ..
  show _ ∧ _
  rw [n1]
  have m1 : ∀ o : Obj, o.isFreed = false → ((s.heap.push (itOb t l)).push o).get? (s.heap.objs.size + 1) = some o := fun o q => by
    have := Heap.get?_push_size (s.heap.push (itOb t l)) (o := o) q
    rw [n1] at this
    exact this
  have m2 := m1 { cls := .type "enumerate", data := .fields #[.none, .bool false, .ref s.heap.objs.size, rawInt 0, .none, .none] } rfl
  exact ⟨⟨_, m2, rfl⟩, h _ m2 (.new (Heap.get?_push_of_some _ (Heap.get?_push_size _ rfl))) (by rw [Heap.size_push, n1]) fun b o x => Heap.get?_push_of_some _ (Heap.get?_push_of_some _ x)⟩
end
def IteG (K : PySem.W.Frag) (t : Bool) (a : Addr) : It :=
  ⟨fun i H => ∃ (xs : List V) (x : V), SqB K t H a xs ∧ xs[i]? = some x, fun i H v H' => ∃ T x, v = .ref T ∧ H T = none ∧ H' = upd H T (.tup [.int (i : Nat), x]) ∧ ∀ xs, SqB K t H a xs → xs[i]? = some x, fun i H => ∃ xs : List V, SqB K t H a xs ∧ xs.length ≤ i⟩
theorem turnE {P : Program} {w : World} {K : PySem.W.Frag} {elts : List Expr} {kk : Nat} {tpos : Pos} (t : Bool) (a e it : Addr) :
    Turn P w K (.Tuple elts kk tpos) (IteG K t a) [e, it] e (fun i h => (∃ old, IsEnum h e it ((i : Nat) : Int) old) ∧ It1 t h it a i ∧ e ≠ it) where
  mem := by simp
  obj := fun i h st b hb => by
    obtain ⟨⟨old, he⟩, g, _⟩ := st
    obtain ⟨o, ho, hd⟩ := g.ob
    have e' : b = e ∨ b = it := by simpa using hb
    rcases e' with z | z
    · rw [z]; exact ⟨_, he, fun v q => nomatch q⟩
    · rw [z]; exact ⟨o, ho, fun v q => by rw [hd] at q; cases q⟩
  keep := fun i h h' st k => let ⟨⟨old, he⟩, g, hne⟩ := st; ⟨⟨old, k e (by simp) _ he⟩, g.keep fun o q => k it (by simp) o q, hne⟩
  item := by
    intro X hP hw hK hc i pins s σ H E I hf st hg
    subst hP hw hK
    obtain ⟨⟨old, he⟩, g, hne⟩ := st
    obtain ⟨xs, x, hq, hx⟩ := hg
    obtain ⟨its, rv, p, _⟩ := sqb_heap I hq
    obtain ⟨u, hu, ru⟩ := rv.get hx
    have el : e < s.heap.objs.size := Heap.lt_size he
    refine en_next he g p (x := u) (by simpa using hu) hne fun h' ho g' hT hsz hk => ⟨_, rfl, wpAny_letOwnedTupleGo_enum (s := { s with heap := h', toks := s.toks + 1 }) ho fun h'' he' sb => ?_⟩
    have hT2 : h''.get? s.heap.objs.size = some { cls := .type "tuple", data := .seq #[.int i s.toks, u] } := (sb.2 _ (Nat.ne_of_gt el)).trans hT
    have new : ObjOk X.prog X.w (upd H s.heap.objs.size (.tup [.int (i : Nat), x])) h'' s.heap.objs.size (.tup [.int (i : Nat), x]) := ⟨by show 2 ≤ sizeLine; decide, [.int i s.toks, u], .cons ⟨_, rfl⟩ (.cons ru .nil), ⟨_, hT2, rfl, _, rfl⟩⟩
    have I1 : Inv X pins σ (upd H s.heap.objs.size (.tup [.int (i : Nat), x])) { s with heap := h'', toks := s.toks + 1 } := I.turnedNew (ch := [e, it]) (fun b ob hb q => (sb.2 b (fun z => hb (by simp [z]))).trans (hk b ob (fun z => hb (by simp [z])) (fun z => hb (by simp [z])) q)) hf (Nat.le_refl _) new
    have e1 : ((i + 1 : Nat) : Int) = (i : Int) + 1 := by omega
    refine ⟨.ref s.heap.objs.size, _, I1, rfl, ⟨_, x, rfl, I.hok.fresh (Nat.le_refl _), rfl, fun ys hy => by rw [sqb_inj I hy hq]; exact hx⟩, ⟨⟨u, by rw [e1]; exact he'⟩, g'.keep fun o q => (sb.2 it (Ne.symm hne)).trans q, hne⟩, fun b hb => ?_⟩
    have hb' : b < s.heap.objs.size := by
      have e' : b = e ∨ b = it := by simpa using hb
      rcases e' with z | z <;> rw [z]
      · exact el
      · exact g.lt
    rw [upd_ne (Nat.ne_of_lt hb')]
    exact (hf b hb).1
  done := by
    intro X hP hw hK hc i pins s σ H E I hf st hg
    subst hP hw hK
    obtain ⟨⟨old, he⟩, g, hne⟩ := st
    obtain ⟨xs, hq, hx⟩ := hg
    obtain ⟨its, rv, p, _⟩ := sqb_heap I hq
    obtain ⟨f0, f1, f2, f3, f4, f5⟩ := hf it (by simp)
    have hl := rv.length
    exact en_none (I.ok.hd hc) he g p (by simp; omega) fun h' eb => ⟨rfl, I.turned (t' := s.toks) (fun b o hb q => eb b o hb q) f0 f1 f3 f4 f5⟩
  self := fun A i s Q E st h => let ⟨⟨_, he⟩, _⟩ := st; wpAny_pyIter_enum he h
def iEnumG (K : PySem.W.Frag) (ta : TA) : TI := fun σ H R => ta σ H fun vs H1 => ∃ (t : Bool) (a : Addr) (xs : List V), vs = [.ref a] ∧ SqB K t H1 a xs ∧ R (IteG K t a) H1
theorem pi_enumG {X : Cx} {K : PySem.W.Frag} (eK : X.K = K) {e : Expr} {ta : TA} {p pos tpos : Pos} {elts : List Expr} {kk : Nat} (hg : Gl X "enumerate") (hm : X.mg "enumerate" = none) (ha : PA X [e] ta) (hs : starEach [e] X.env = [(false, eval e X.env)] := by rfl) :
    PI X (.Tuple elts kk tpos) (.Call (.Name "enumerate" p) [e] [] pos) (iEnumG K ta) := by
  subst eK
  refine ⟨fun pins s σ H R I h => ?_⟩
  refine Call_ (ld_blt I hg hm boot_enumerate (PyProof.Rows.callWith_type1 (thn (ha.run pos pins s σ H _ I h) fun us s1 ⟨vs, H1, I1, r1, q1⟩ => ?_) hs rfl))
  obtain ⟨t, a, xs, rfl, hq, q⟩ := q1
  cases r1 with
  | cons r rr =>
    cases rr
    cases r
    obtain ⟨its, rv, p', _⟩ := sqb_heap I1 hq
    refine en_call p' fun h' he g hsz hk => wpAny_pyIter_enum he ?_
    refine ⟨s1.heap.objs.size + 1, [s1.heap.objs.size + 1, s1.heap.objs.size], _, _, H1, rfl, I1.kept (t' := s1.toks) hk, turnE t a (s1.heap.objs.size + 1) s1.heap.objs.size, ⟨⟨.none, he⟩, g, Nat.succ_ne_self _⟩, fun b hb => ?_, q⟩
    have hle : s1.heap.objs.size ≤ b := by
      have e' : b = s1.heap.objs.size + 1 ∨ b = s1.heap.objs.size := by simpa using hb
      rcases e' with z | z <;> rw [z] <;> omega
    exact I1.fpOk hle (I1.hok.fresh hle)
theorem walkE {K : PySem.W.Frag} {t : Bool} {a : Addr} {xs : List V} : Walk (IteG K t a) xs.length (fun H => SqB K t H a xs) (YPair (fun i => some (.int (i : Nat))) (fun i => xs[i]?)) := by
  refine ⟨fun i _ hi q => ⟨xs, xs[i], q, List.getElem?_eq_getElem hi⟩, fun _ q => ⟨xs, q, Nat.le_refl _⟩, fun i H v H' _ q y => ?_⟩
  obtain ⟨T, x, h1, h2, h3, h4⟩ := y
  exact ⟨T, .int (i : Nat), x, h1, h2, h3, rfl, h4 xs q⟩
end Zg
/-! comprehensions over two sources -/
namespace Ow
open PySem PySem.Spec PyProof.Rows L2
/-- the inner walk: D grows by ys -/
theorem lc2_in {J1 : L2.It} {n1 : Nat} {G1 : Hp → Prop} {Y1 : Nat → Hp → V → Hp → Prop} (w : Walk J1 n1 G1 Y1) (ys : Nat → V) {a0 : List V} (hb : a0.length + n1 < sizeLine) {g1 : TG} {te : TE} {vs1 : List Nat} {σ : L2.St} {H4 : Hp} {D : Addr} {Nx : Hp → Prop} (e4 : H4 D = some (.lst a0))
    (hG : ∀ H, Gw D H4 H → G1 H)
    (hs : ∀ j x H H' (N : VK), j < n1 → Gw D H4 H → Y1 j H x H' → (∀ H5, Same H H5 → N (ys j) H5) → g1 x (wipe σ vs1) H' fun σ3 H5 => wipe σ3 vs1 = wipe σ vs1 ∧ te σ3 H5 N)
    (hd : ∀ H, Gw D H4 H → H D = some (.lst (a0 ++ (List.range n1).map ys)) → Nx H) :
    ∃ W1 : Nat → Nat → Hp → Prop, (∃ m, W1 0 m H4) ∧ ∀ j k H, W1 j k H →
      (J1.stop j H ∧ Nx H) ∨ (J1.go j H ∧ ∃ Nx1 : Hp → Prop, (∀ H', Nx1 H' → ∃ k', k' < k ∧ W1 (j + 1) k' H') ∧ ∀ x H', J1.yld j H x H' → g1 x (wipe σ vs1) H' fun σ3 H5 => wipe σ3 vs1 = wipe σ vs1 ∧ tYes σ3 H5 fun b H6 =>
        if b = true then te σ3 H6 fun y H7 => ∃ acc, H7 D = some (.lst acc) ∧ acc.length < sizeLine ∧ Nx1 (upd H7 D (.lst (acc ++ [y]))) else Nx1 H6) := by
  refine ⟨fun j m H => m = n1 - j ∧ j ≤ n1 ∧ Gw D H4 H ∧ H D = some (.lst (a0 ++ (List.range j).map ys)), ⟨n1, by simp, Nat.zero_le _, Gw.refl _ _, by simpa using e4⟩, ?_⟩
  rintro j m H ⟨rfl, hj, s, e⟩
  by_cases hlt : j < n1
  · refine .inr ⟨w.goes j H hlt (hG H s), fun H' => Gw D H4 H' ∧ H' D = some (.lst (a0 ++ (List.range (j + 1)).map ys)), fun H' p => ⟨n1 - (j + 1), by omega, rfl, hlt, p.1, p.2⟩, fun x H' y => ?_⟩
    refine hs j x H H' _ hlt s (w.yields j H x H' hlt (hG H s) y) fun H5 s5 => ?_
    refine ⟨_, s5 _ _ e, ?_, (s.trans (Gw.same s5)).trans Gw.put, ?_⟩
    · rw [List.length_append, List.length_map, List.length_range]
      omega
    · rw [upd_same, List.range_succ, List.map_append, List.append_assoc]
      rfl
  · have ej : j = n1 := by omega
    subst ej
    exact .inl ⟨w.stops H (hG H s), hd H s e⟩
/-- the outer walk: with the list ac i at D before turn i -/
theorem lc2_out {J : L2.It} {n : Nat} {G : Hp → Prop} {Y : Nat → Hp → V → Hp → Prop} (w : Walk J n G Y) (ac : Nat → List V) (h0 : ac 0 = []) {g : TG} {wi1 : L2.TI} {g1 : TG} {te : TE} {vs vs1 : List Nat} {σ : L2.St} {H1 : Hp} {D : Addr} {Qd : Hp → Prop} (hD : H1 D = none)
    (hG : ∀ H, Same H1 H → G H)
    (hs : ∀ i x H H', i < n → Same H1 H → H D = some (.lst (ac i)) → Y i H x H' → g x (wipe σ vs) H' fun σ2 H2 => wipe σ2 vs = wipe σ vs ∧
      wi1 σ2 H2 fun J1 H4 => ∃ W1 : Nat → Nat → Hp → Prop, (∃ m, W1 0 m H4) ∧ ∀ j k H, W1 j k H →
        (J1.stop j H ∧ (Same H1 H ∧ H D = some (.lst (ac (i + 1))))) ∨ (J1.go j H ∧ ∃ Nx1 : Hp → Prop, (∀ H', Nx1 H' → ∃ k', k' < k ∧ W1 (j + 1) k' H') ∧ ∀ x H', J1.yld j H x H' → g1 x (wipe σ2 vs1) H' fun σ3 H5 => wipe σ3 vs1 = wipe σ2 vs1 ∧ tYes σ3 H5 fun b H6 =>
          if b = true then te σ3 H6 fun y H7 => ∃ acc, H7 D = some (.lst acc) ∧ acc.length < sizeLine ∧ Nx1 (upd H7 D (.lst (acc ++ [y]))) else Nx1 H6))
    (hd : ∀ H, Same H1 H → H D = some (.lst (ac n)) → Qd H) :
    ∃ W : Nat → Nat → Hp → Prop, (∃ m, W 0 m (upd H1 D (.lst []))) ∧ ∀ i m H, W i m H →
      (J.stop i H ∧ Qd H) ∨ (J.go i H ∧ ∃ Nx : Hp → Prop, (∀ H', Nx H' → ∃ m', m' < m ∧ W (i + 1) m' H') ∧ ∀ x H', J.yld i H x H' → g x (wipe σ vs) H' fun σ2 H2 => wipe σ2 vs = wipe σ vs ∧ tYes σ2 H2 fun b H3 =>
        if b = true then wi1 σ2 H3 fun J1 H4 => ∃ W1 : Nat → Nat → Hp → Prop, (∃ m, W1 0 m H4) ∧ ∀ j k H, W1 j k H →
          (J1.stop j H ∧ Nx H) ∨ (J1.go j H ∧ ∃ Nx1 : Hp → Prop, (∀ H', Nx1 H' → ∃ k', k' < k ∧ W1 (j + 1) k' H') ∧ ∀ x H', J1.yld j H x H' → g1 x (wipe σ2 vs1) H' fun σ3 H5 => wipe σ3 vs1 = wipe σ2 vs1 ∧ tYes σ3 H5 fun b H6 =>
            if b = true then te σ3 H6 fun y H7 => ∃ acc, H7 D = some (.lst acc) ∧ acc.length < sizeLine ∧ Nx1 (upd H7 D (.lst (acc ++ [y]))) else Nx1 H6)
        else Nx H3) := by
  refine ⟨fun i m H => m = n - i ∧ i ≤ n ∧ Same H1 H ∧ H D = some (.lst (ac i)), ⟨n, by simp, Nat.zero_le _, Same.new hD, by rw [h0, upd_same]⟩, ?_⟩
  rintro i m H ⟨rfl, hi, s, e⟩
  by_cases hlt : i < n
  · exact .inr ⟨w.goes i H hlt (hG H s), fun H' => Same H1 H' ∧ H' D = some (.lst (ac (i + 1))), fun H' p => ⟨n - (i + 1), by omega, rfl, hlt, p.1, p.2⟩, fun x H' y => hs i x H H' hlt s e (w.yields i H x H' hlt (hG H s) y)⟩
  · have ei : i = n := by omega
    subst ei
    exact .inl ⟨w.stops H (hG H s), hd H s e⟩
end Ow
/-! tuples: slices and sums, the same object or a new one -/
namespace Ow
open PySem PySem.Spec PyProof.Rows L2
theorem cut_all {xs : List V} {lo hi : Option Int} (h : HT.sIx xs.length 0 lo = 0 ∧ HT.sIx xs.length xs.length hi = xs.length) : cutV xs lo hi = xs := by
  unfold cutV
  rw [h.1, h.2]
  simp
theorem cut_to (xs : List V) (k : Nat) : cutV xs none (some (k : Int)) = xs.take k := by
  unfold cutV
  rw [HT.sIx_none, HT.sIx_nat, List.drop_zero, Nat.sub_zero]
  rcases Nat.le_total k xs.length with h | h
  · rw [Nat.min_eq_left h]
  · rw [Nat.min_eq_right h, List.take_of_length_le (Nat.le_refl _), List.take_of_length_le h]
theorem cut_from (xs : List V) (k : Nat) : cutV xs (some (k : Int)) none = xs.drop k := by
  unfold cutV
  rw [HT.sIx_none, HT.sIx_nat, List.take_of_length_le (by rw [List.length_drop]; exact Nat.le_refl _)]
  rcases Nat.le_total k xs.length with h | h
  · rw [Nat.min_eq_left h]
  · rw [Nat.min_eq_right h, List.drop_of_length_le (Nat.le_refl _), List.drop_of_length_le h]
theorem cut_mid (xs : List V) (j k : Nat) : cutV xs (some (j : Int)) (some (k : Int)) = (xs.drop j).take (k - j) := by
  unfold cutV
  rw [HT.sIx_nat, HT.sIx_nat]
  rcases Nat.le_total j xs.length with h | h
  · rw [Nat.min_eq_left h]
    rcases Nat.le_total k xs.length with h2 | h2
    · rw [Nat.min_eq_left h2]
    · rw [Nat.min_eq_right h2, List.take_of_length_le (by rw [List.length_drop]; omega), List.take_of_length_le (by rw [List.length_drop]; omega)]
  · rw [List.drop_of_length_le (show xs.length ≤ min j xs.length by omega), List.drop_of_length_le h]
    simp
theorem cutA {K : PySem.W.Frag} {H : Hp} {a : Addr} {xs : List V} {lo hi : Option Int} {Q : VK} (h : SqT K H a xs) (q : ∀ p H', Same H H' → SqT K H' p (cutV xs lo hi) → Q (.ref p) H') : rSlA K (.ref a) lo hi H Q := by
  refine ⟨a, xs, rfl, h, fun e => ?_, fun _ p np => ?_⟩
  · exact q a H (Same.refl _) (by rw [cut_all e]; exact h)
  · exact q p _ (Same.new np) (SqT.of upd_same)
theorem catA {K : PySem.W.Frag} {H : Hp} {a b : Addr} {xs ys : List V} {Q : VK} (h : SqT K H a xs) (h2 : SqT K H b ys) (l : xs.length + ys.length ≤ sizeLine) (q : ∀ p H', Same H H' → SqT K H' p (xs ++ ys) → Q (.ref p) H') : rCatA K (.ref a) (.ref b) H Q := by
  refine ⟨a, b, xs, ys, rfl, rfl, h, h2, l, fun e => ?_, fun _ e => ?_, fun _ _ p np => ?_⟩
  · exact q b H (Same.refl _) (by rw [e]; exact h2)
  · exact q a H (Same.refl _) (by rw [e, List.append_nil]; exact h)
  · exact q p _ (Same.new np) (SqT.of upd_same)
end Ow
namespace Ow
open PySem PySem.Spec PyProof.Rows L2
/-- every turn gives a new tuple, of the row i -/
theorem lc_newT {J : L2.It} {n : Nat} {G : Hp → Prop} {Y : Nat → Hp → V → Hp → Prop} (w : Walk J n G Y) (row : Nat → List V) (hn : n < sizeLine) {g : TG} {te : TE} {vs : List Nat} {σ : L2.St} {H1 : Hp} {D : Addr} {Qd : Hp → Prop} (hD : H1 D = none)
    (hG : ∀ H, Same H1 H → G H)
    (hs : ∀ i x H H' (N : VK), i < n → Same H1 H → Y i H x H' → (∀ H4 q, Same H H4 → H4 q = some (.tup (row i)) → N (.ref q) H4) → g x (wipe σ vs) H' fun σ2 H2 => wipe σ2 vs = wipe σ vs ∧ te σ2 H2 N)
    (hd : ∀ (H : Hp) (ts : List Addr), Same H1 H → H D = some (.lst (ts.map V.ref)) → ts.length = n → (∀ i t, ts[i]? = some t → H t = some (.tup (row i))) → Qd H) :
    ∃ W : Nat → Nat → Hp → Prop, (∃ m, W 0 m (upd H1 D (.lst []))) ∧ ∀ i m H, W i m H →
      (J.stop i H ∧ Qd H) ∨ (J.go i H ∧ ∃ Nx : Hp → Prop, (∀ H', Nx H' → ∃ m', m' < m ∧ W (i + 1) m' H') ∧ ∀ x H', J.yld i H x H' → g x (wipe σ vs) H' fun σ2 H2 => wipe σ2 vs = wipe σ vs ∧ tYes σ2 H2 fun b H3 =>
        if b = true then te σ2 H3 fun y H4 => ∃ acc, H4 D = some (.lst acc) ∧ acc.length < sizeLine ∧ Nx (upd H4 D (.lst (acc ++ [y]))) else Nx H3) := by
  refine lc_it w (fun i H => Same H1 H ∧ ∃ ts : List Addr, H D = some (.lst (ts.map V.ref)) ∧ ts.length = i ∧ ∀ j t, ts[j]? = some t → H t = some (.tup (row j))) ⟨Same.new hD, [], upd_same, rfl, fun j t e => by simp at e⟩ (fun i H _ h => hG H h.1) (fun i x H H' hi h y => ?_) fun H h => ?_
  · obtain ⟨s, ts, eD, el, et⟩ := h
    refine hs i x H H' _ hi s y fun H4 q s4 eq => ?_
    have tD : ∀ {t : Addr} {r : List V}, H4 t = some (.tup r) → t ≠ D := fun e z => by rw [z, s4 _ _ eD] at e; cases e
    refine ⟨_, s4 _ _ eD, by rw [List.length_map, el]; exact Nat.lt_trans hi hn, Same.over (s.trans s4) hD, ts ++ [q], ?_, by rw [List.length_append, el]; rfl, fun j t ej => ?_⟩
    · rw [upd_same, List.map_append]
      rfl
    · rcases Nat.lt_trichotomy j ts.length with h1 | h1 | h1
      · rw [List.getElem?_append_left h1] at ej
        have f3 := s4 _ _ (et j t ej)
        rw [upd_ne (tD f3)]
        exact f3
      · subst h1
        have e2 : q = t := by simpa using ej
        subst e2
        rw [upd_ne (tD eq), el]
        exact eq
      · rw [List.getElem?_eq_none (by rw [List.length_append, List.length_singleton]; omega)] at ej
        cases ej
  · obtain ⟨s, ts, eD, el, et⟩ := h
    exact hd H ts s eD el et
end Ow
/-! xs[a:c] = ys -/
namespace Ow
open PySem PySem.Spec PyProof.Rows L2
def gSl (te : TE) (tl th : TO) : TG := fun v σ H Q => te σ H fun x H1 => tl σ H1 fun l H2 => th σ H2 fun u H3 => ∃ p b xs ys, ∃ a c : Int, x = .ref p ∧ v = .ref b ∧ H3 p = some (.lst xs) ∧ H3 b = some (.lst ys) ∧ p ≠ b ∧ l = some a ∧ u = some c ∧ 0 ≤ a ∧ a ≤ c ∧ c ≤ xs.length ∧ xs.length + ys.length ≤ sizeLine ∧ Q σ (upd H3 p (.lst (xs.take a.toNat ++ ys ++ xs.drop c.toNat)))
theorem part_int {u : Value} {i : Int} (h : IsPart u (some i)) : RelV (.int i) u := by
  cases h with
  | int i t => exact ⟨t, rfl⟩
theorem pg_slice {X : Cx} {o : Expr} {lo hi : Option Expr} {p2 pos : Pos} {te : TE} {tl th : TO} (ho : PE X o te) (hl : PO X lo tl) (hu : PO X hi th)
    (ha : ∀ v, assign (.Subscript o (.Slice lo hi none p2) pos) X.env v = (do
      let ov ← holding [v] (eval o X.env)
      let iv ← holding [v, ov] (eval (.Slice lo hi none p2) X.env)
      standAt pos
      holding [v, ov, iv] (setItem ov iv v)
      release [iv, v, ov] []) := by intro _; rfl) : PG X (.Subscript o (.Slice lo hi none p2) pos) (gSl te tl th) := by
  refine ⟨fun pins s σ H v u Q I r h => ?_⟩
  rw [ha]
  refine wpAny_bind (wpAny_holding (thn (ho.run pins s σ H _ I h) fun ov s1 ⟨x, H1, I1, r1, q1⟩ => ?_))
  refine wpAny_bind (wpAny_holding (wpAny_Slice (thn (hl.run pins s1 σ H1 _ I1 q1) fun vl s2 ⟨l, H2, I2, pl, q2⟩ => thn (hu.run pins s2 σ H2 _ I2 q2) fun vu s3 ⟨w, H3, I3, pu, q3⟩ => ?_)))
  rw [evalPart_none]
  refine wpAny_pure ?_
  have I4 : Inv X pins σ H3 { s3 with heap := s3.heap.push { cls := .type "slice", data := .fields #[vl, vu, .none] } } := I3.kept (t' := s3.toks) fun b ob q => Heap.get?_push_of_some _ q
  obtain ⟨p, b, xs, ys, a, c, rfl, rfl, hp, hb, ne, rfl, rfl, h0, h1, h2, hz, q⟩ := q3
  cases r1
  cases r
  refine wpAny_bind (wpAny_standAt (wpAny_bind (wpAny_holding (set_slice I4 hp hb ne (Heap.IsSliceOf.new ..) (part_int pl) (part_int pu) h0 h1 h2 hz fun s' I' => ?_))))
  exact wpAny_release ⟨σ, _, I', q⟩
end Ow
/-! lists of ints by places -/
namespace Po
def gI (xs : List Int) (i : Nat) : Int := xs.getD i 0
def gR (W : List (List Int)) (i : Nat) : List Int := W.getD i []
def minL : List Int → Int
  | [] => 0
  | [x] => x
  | x :: y :: r => if x ≤ minL (y :: r) then x else minL (y :: r)
theorem minL_mem : ∀ {xs : List Int}, xs ≠ [] → minL xs ∈ xs
  | [], h => absurd rfl h
  | [x], _ => List.mem_singleton.mpr rfl
  | x :: y :: r, _ => by
    rw [minL]
    split
    · exact List.mem_cons_self
    · exact List.mem_cons_of_mem _ (minL_mem (by simp))
theorem minL_le : ∀ {xs : List Int} {y : Int}, y ∈ xs → minL xs ≤ y
  | [], y, h => nomatch h
  | [x], y, h => by rw [List.mem_singleton.mp h]; exact Int.le_refl _
  | x :: z :: r, y, h => by
    rw [minL]
    rcases List.mem_cons.mp h with e | m
    · split <;> omega
    · have := minL_le m
      split <;> omega
theorem minL_eq {xs : List Int} {m : Int} (h : m ∈ xs) (l : ∀ y ∈ xs, m ≤ y) : m = minL xs :=
  Int.le_antisymm (l _ (minL_mem (fun e => by rw [e] at h; cases h))) (minL_le h)
def argL (xs : List Int) : Nat := xs.findIdx fun x => decide (x = minL xs)
theorem argL_lt {xs : List Int} (h : xs ≠ []) : argL xs < xs.length :=
  List.findIdx_lt_length_of_exists ⟨_, minL_mem h, by simp⟩
theorem argL_at {xs : List Int} (h : xs ≠ []) : xs[argL xs]? = some (minL xs) := by
  have l := argL_lt h
  rw [List.getElem?_eq_getElem l]
  have e := List.findIdx_getElem (xs := xs) (p := fun x => decide (x = minL xs)) (w := l)
  exact congrArg some (of_decide_eq_true e)
theorem argL_no {xs : List Int} {m : Nat} {z : Int} (h : m < argL xs) (e : xs[m]? = some z) : z ≠ minL xs := by
  have := List.not_of_lt_findIdx h
  obtain ⟨l, e⟩ := List.getElem?_eq_some_iff.mp e
  rw [e] at this
  simpa using this
theorem argL_eq {xs : List Int} {j : Nat} (h : xs[j]? = some (minL xs)) (n : ∀ m z, m < j → xs[m]? = some z → z ≠ minL xs) : argL xs = j := by
  have ne : xs ≠ [] := fun e => by rw [e] at h; simp at h
  rcases Nat.lt_trichotomy (argL xs) j with a | a | a
  · exact absurd rfl (n _ _ a (argL_at ne))
  · exact a
  · exact absurd rfl (argL_no a h)
/-- by places -/
def mk (n : Nat) (f : Nat → Int) : List Int := (List.range n).map f
theorem mk_len (n : Nat) (f : Nat → Int) : (mk n f).length = n := by simp [mk]
theorem mk_at {n : Nat} {f : Nat → Int} {i : Nat} (h : i < n) : (mk n f)[i]? = some (f i) := by simp [mk, h]
theorem gI_at {xs : List Int} {i : Nat} {v : Int} (h : xs[i]? = some v) : gI xs i = v := by unfold gI; rw [List.getD_eq_getElem?_getD, h]; rfl
theorem gI_mk {n : Nat} {f : Nat → Int} {i : Nat} (h : i < n) : gI (mk n f) i = f i := gI_at (mk_at h)
theorem at_gI {xs : List Int} {i : Nat} (h : i < xs.length) : xs[i]? = some (gI xs i) := by
  rw [List.getElem?_eq_getElem h]
  exact congrArg some (gI_at (List.getElem?_eq_getElem h)).symm
theorem gR_at {W : List (List Int)} {i : Nat} {v : List Int} (h : W[i]? = some v) : gR W i = v := by unfold gR; rw [List.getD_eq_getElem?_getD, h]; rfl
theorem at_gR {W : List (List Int)} {i : Nat} (h : i < W.length) : W[i]? = some (gR W i) := by
  rw [List.getElem?_eq_getElem h]
  exact congrArg some (gR_at (List.getElem?_eq_getElem h)).symm
theorem mk_ne {n : Nat} {f : Nat → Int} (h : 0 < n) : mk n f ≠ [] := fun e => by have := mk_len n f; rw [e] at this; simp at this; omega
theorem mk_self (xs : List Int) : mk xs.length (gI xs) = xs := by
  apply List.ext_getElem?
  intro i
  by_cases h : i < xs.length
  · rw [mk_at h, at_gI h]
  · rw [List.getElem?_eq_none (by rw [mk_len]; omega), List.getElem?_eq_none (by omega)]
theorem mem_mk {n : Nat} {f : Nat → Int} {y : Int} : y ∈ mk n f ↔ ∃ i, i < n ∧ y = f i := by
  simp only [mk, List.mem_map, List.mem_range]
  exact ⟨fun ⟨i, a, b⟩ => ⟨i, a, b.symm⟩, fun ⟨i, a, b⟩ => ⟨i, a, b.symm⟩⟩
theorem minmk_le {n : Nat} {f : Nat → Int} {i : Nat} (h : i < n) : minL (mk n f) ≤ f i := minL_le (mem_mk.mpr ⟨i, h, rfl⟩)
theorem minmk_ex {n : Nat} {f : Nat → Int} (h : 0 < n) : ∃ i, i < n ∧ minL (mk n f) = f i := mem_mk.mp (minL_mem (mk_ne h))
theorem argmk {n : Nat} {f : Nat → Int} (h : 0 < n) : argL (mk n f) < n ∧ minL (mk n f) = f (argL (mk n f)) := by
  have l := argL_lt (mk_ne (f := f) h)
  rw [mk_len] at l
  refine ⟨l, ?_⟩
  have a := argL_at (mk_ne (f := f) h)
  rw [mk_at l] at a
  exact (Option.some.inj a).symm
end Po
/-! data: kinds, copies -/
namespace Dd
open PySem PySem.Spec PyProof.Rows L2 Ow Po
theorem pe_gi {X : Cx} {x : Str} {n : Int} {t : Tok} {pos : Pos} (gl : Gl X x) (top : X.mg x = some (.int n t)) (h1 : x ≠ "__name__" := by decide) (h2 : (x == ("__debug__" : Str)) = false := by decide) : PE X (.Name x pos) (tC (.int n)) := pe_glob (v := .int n) gl top ⟨_, rfl⟩ (hd := h2)
def LI (H : Hp) (a : Addr) (xs : List Int) : Prop := H a = some (.lst (xs.map V.int))
theorem LI.same {H H' : Hp} {a : Addr} {xs : List Int} (s : Same H H') (h : LI H a xs) : LI H' a xs := s _ _ h
theorem LI.seq {K : PySem.W.Frag} {H : Hp} {a : Addr} {xs : List Int} (h : LI H a xs) : SqL K H a (xs.map V.int) := SqL.of h
theorem li_at {xs : List Int} {i : Nat} (h : i < xs.length) : (xs.map V.int)[i]? = some (V.int (gI xs i)) := by rw [List.getElem?_map, at_gI h]; rfl
/-- a list of lists of ints, none of which is av -/
structure LL (av : Addr → Prop) (H : Hp) (a : Addr) (xss : List (List Int)) : Prop where
  ex : ∃ ts : List Addr, H a = some (.lst (ts.map V.ref)) ∧ ts.length = xss.length ∧ (∀ (i : Nat) (t : Addr) (xs : List Int), ts[i]? = some t → xss[i]? = some xs → LI H t xs) ∧ ∀ t ∈ ts, ¬ av t
theorem LL.same {av : Addr → Prop} {H H' : Hp} {a : Addr} {xss : List (List Int)} (s : Same H H') (h : LL av H a xss) : LL av H' a xss := by
  obtain ⟨ts, e, l, g, n⟩ := h
  exact ⟨ts, s _ _ e, l, fun i t xs e1 e2 => s _ _ (g i t xs e1 e2), n⟩
/-- the place i -/
theorem LL.at {av : Addr → Prop} {H : Hp} {a : Addr} {xss : List (List Int)} (h : LL av H a xss) {i : Nat} {xs : List Int} (e : xss[i]? = some xs) : ∃ ys t, H a = some (.lst ys) ∧ ys.length = xss.length ∧ ys[i]? = some (.ref t) ∧ LI H t xs ∧ ¬ av t := by
  obtain ⟨ts, f, l, g, n⟩ := h
  have hi := (List.getElem?_eq_some_iff.mp e).1
  have ht : i < ts.length := by rw [l]; exact hi
  refine ⟨_, ts[i], f, by rw [List.length_map, l], by simp [ht], g i _ xs (List.getElem?_eq_getElem ht) e, n _ (List.getElem_mem ht)⟩
def tyD : PyData → String
  | .none => "NoneType"
  | .bool _ => "bool"
  | .int _ => "int"
  | .str _ => "str"
  | .list _ => "list"
  | .tuple _ => "tuple"
  | .dict _ => "dict"
theorem dp_ty {K : PySem.W.Frag} {H : Hp} {v : V} {d : PyData} (h : Dp K H v d) : TyX K H v (.type (tyD d)) := by
  cases h with
  | non => exact .base .non
  | bl b => exact .base (.bl b)
  | int i => exact .base (.int i)
  | str x => exact .base (.str x)
  | lst h _ =>
    rcases h with (h | ⟨o, h⟩) | ⟨o, vs, n, h, c, _⟩
    · exact .base (.lst h)
    · exact .base (.frz h)
    · exact .kList h (by rw [c])
  | tup h _ =>
    rcases h with (h | ⟨o, h⟩) | ⟨o, vs, n, h, c, _⟩
    · exact .base (.tup h)
    · exact .fTuple h
    · exact .kTuple h (by rw [c])
theorem ki_int {K : PySem.W.Frag} : ∀ d : PyData, PySem.W.kitOne K (.type (tyD d)) (.type "int") = some (match d with | .int _ => true | .bool _ => true | _ => false)
  | .none => kit_ty (show kitB "NoneType" "int" = some false by decide +kernel)
  | .bool _ => kit_ty (show kitB "bool" "int" = some true by decide +kernel)
  | .int _ => kit_ty (show kitB "int" "int" = some true by decide +kernel)
  | .str _ => kit_ty (show kitB "str" "int" = some false by decide +kernel)
  | .list _ => kit_ty (show kitB "list" "int" = some false by decide +kernel)
  | .tuple _ => kit_ty (show kitB "tuple" "int" = some false by decide +kernel)
  | .dict _ => kit_ty (show kitB "dict" "int" = some false by decide +kernel)
theorem ki_bool {K : PySem.W.Frag} : ∀ d : PyData, PySem.W.kitOne K (.type (tyD d)) (.type "bool") = some (match d with | .bool _ => true | _ => false)
  | .none => kit_ty (show kitB "NoneType" "bool" = some false by decide +kernel)
  | .bool _ => kit_ty (show kitB "bool" "bool" = some true by decide +kernel)
  | .int _ => kit_ty (show kitB "int" "bool" = some false by decide +kernel)
  | .str _ => kit_ty (show kitB "str" "bool" = some false by decide +kernel)
  | .list _ => kit_ty (show kitB "list" "bool" = some false by decide +kernel)
  | .tuple _ => kit_ty (show kitB "tuple" "bool" = some false by decide +kernel)
  | .dict _ => kit_ty (show kitB "dict" "bool" = some false by decide +kernel)
theorem ki_tup {K : PySem.W.Frag} : ∀ d : PyData, PySem.W.kitOne K (.type (tyD d)) (.type "tuple") = some (match d with | .tuple _ => true | _ => false)
  | .none => kit_ty (show kitB "NoneType" "tuple" = some false by decide +kernel)
  | .bool _ => kit_ty (show kitB "bool" "tuple" = some false by decide +kernel)
  | .int _ => kit_ty (show kitB "int" "tuple" = some false by decide +kernel)
  | .str _ => kit_ty (show kitB "str" "tuple" = some false by decide +kernel)
  | .list _ => kit_ty (show kitB "list" "tuple" = some false by decide +kernel)
  | .tuple _ => kit_ty (show kitB "tuple" "tuple" = some true by decide +kernel)
  | .dict _ => kit_ty (show kitB "dict" "tuple" = some false by decide +kernel)
theorem ki_str {K : PySem.W.Frag} : ∀ d : PyData, PySem.W.kitOne K (.type (tyD d)) (.type "str") = some (match d with | .str _ => true | _ => false)
  | .none => kit_ty (show kitB "NoneType" "str" = some false by decide +kernel)
  | .bool _ => kit_ty (show kitB "bool" "str" = some false by decide +kernel)
  | .int _ => kit_ty (show kitB "int" "str" = some false by decide +kernel)
  | .str _ => kit_ty (show kitB "str" "str" = some true by decide +kernel)
  | .list _ => kit_ty (show kitB "list" "str" = some false by decide +kernel)
  | .tuple _ => kit_ty (show kitB "tuple" "str" = some false by decide +kernel)
  | .dict _ => kit_ty (show kitB "dict" "str" = some false by decide +kernel)
theorem ki_list {K : PySem.W.Frag} : ∀ d : PyData, PySem.W.kitOne K (.type (tyD d)) (.type "list") = some (match d with | .list _ => true | _ => false)
  | .none => kit_ty (show kitB "NoneType" "list" = some false by decide +kernel)
  | .bool _ => kit_ty (show kitB "bool" "list" = some false by decide +kernel)
  | .int _ => kit_ty (show kitB "int" "list" = some false by decide +kernel)
  | .str _ => kit_ty (show kitB "str" "list" = some false by decide +kernel)
  | .list _ => kit_ty (show kitB "list" "list" = some true by decide +kernel)
  | .tuple _ => kit_ty (show kitB "tuple" "list" = some false by decide +kernel)
  | .dict _ => kit_ty (show kitB "dict" "list" = some false by decide +kernel)
theorem dpAll_get {K : PySem.W.Frag} {H : Hp} : ∀ {vs : List V} {ds : List PyData}, DpAll K H vs ds → vs.length = ds.length ∧ ∀ (i : Nat) (v : V), vs[i]? = some v → ∃ d, ds[i]? = some d ∧ Dp K H v d
  | [], [], .nil => ⟨rfl, fun i v e => by simp at e⟩
  | v :: vs, d :: ds, .cons h t => by
    obtain ⟨l, g⟩ := dpAll_get t
    refine ⟨by rw [List.length_cons, List.length_cons, l], fun i u e => ?_⟩
    cases i with
    | zero =>
      cases e
      exact ⟨d, rfl, h⟩
    | succ i => exact g i u e
mutual
theorem dp_same {K : PySem.W.Frag} {H H' : Hp} (s : Same H H') : ∀ {v : V} {d : PyData}, Dp K H v d → Dp K H' v d
  | _, _, .non => .non
  | _, _, .bl b => .bl b
  | _, _, .int i => .int i
  | _, _, .str x => .str x
  | _, _, .lst h a => .lst (s.seq h) (dpAll_same s a)
  | _, _, .tup h a => .tup (sqt_same s h) (dpAll_same s a)
theorem dpAll_same {K : PySem.W.Frag} {H H' : Hp} (s : Same H H') : ∀ {vs : List V} {ds : List PyData}, DpAll K H vs ds → DpAll K H' vs ds
  | _, _, .nil => .nil
  | _, _, .cons h t => .cons (dp_same s h) (dpAll_same s t)
end
theorem intsD {K : PySem.W.Frag} {H : Hp} : ∀ s : List Int, DpAll K H (s.map V.int) (s.map PyData.int)
  | [] => .nil
  | x :: s => .cons (.int x) (intsD s)
theorem dpAll_of {K : PySem.W.Frag} {H : Hp} : ∀ {vs : List V} {ds : List PyData}, vs.length = ds.length → (∀ (i : Nat) (v : V) (d : PyData), vs[i]? = some v → ds[i]? = some d → Dp K H v d) → DpAll K H vs ds
  | [], [], _, _ => .nil
  | [], _ :: _, l, _ => by cases l
  | _ :: _, [], l, _ => by cases l
  | v :: vs, d :: ds, l, h => .cons (h 0 v d rfl rfl) (dpAll_of (Nat.succ.inj l) fun i u e a b => h (i + 1) u e a b)
theorem dp_tup {K : PySem.W.Frag} {H : Hp} {v : V} {xs : List PyData} (h : Dp K H v (.tuple xs)) : ∃ a vs, v = .ref a ∧ SqT K H a vs ∧ DpAll K H vs xs := by
  cases h with
  | tup h a => exact ⟨_, _, rfl, h, a⟩
theorem dp_lst {K : PySem.W.Frag} {H : Hp} {v : V} {xs : List PyData} (h : Dp K H v (.list xs)) : ∃ a vs, v = .ref a ∧ SqL K H a vs ∧ DpAll K H vs xs := by
  cases h with
  | lst h a => exact ⟨_, _, rfl, h, a⟩
theorem xiJ {x : V} {i : Nat} (h : x = V.int (0 + (i : Int))) : x = V.int (i : Nat) := by rw [h, Int.zero_add]
theorem neV (x y : Int) : (!decide (V.int x = V.int y)) = decide (x ≠ y) := by
  by_cases z : x = y <;> simp [z]
theorem eqV0 (x y : Int) : decide (V.int x = V.int y) = decide (x = y) := by
  by_cases z : x = y <;> simp [z]
theorem modNat {n : Nat} (x : Int) (h : 0 < n) : ∃ k : Nat, k < n ∧ x % (n : Int) = (k : Int) := by
  have a := Int.emod_nonneg x (show (n : Int) ≠ 0 by omega)
  have b := Int.emod_lt_of_pos x (show (0 : Int) < (n : Int) by omega)
  exact ⟨(x % (n : Int)).toNat, by omega, by omega⟩
end Dd
/-! methods and makings that may raise -/
namespace Ow
open PySem PySem.Spec PyProof.Rows L2
/-- the method m of the class C keeps sp, by k levels; it may raise -/
structure Kmx (P : Program) (w : World) (K : PySem.W.Frag) (mg : Str → Option Value) (base : Heap) (C : Addr) (k : Nat) (m : Str) (ps : List Str) (sp : Sp) : Prop where
  ex : ∃ f fd, Meth K C m f ∧ FnOk P w K mg base (L2.CX P w) k f fd ps sp ∧ Binds K fd ps []
  cl : Cls K C
def tMethS (C : Addr) (m : Str) (sp : Sp) (E : L2.St → XK) (ta : TE) (t : TA) : TE := fun σ H Q => ta σ H fun x H1 => ∃ a dx fs, x = .ref a ∧ H1 a = some (.ins C dx fs) ∧ fs.lookup m = none ∧ t σ H1 fun vs H2 => sp (x :: vs) H2 Q (E σ)
theorem pe_mx {X : Cx} {W : WX} {k j : Nat} {C : Addr} {m : Str} {ps : List Str} {sp : Sp} {o e : Expr} {es : List Expr} {ta : TE} {t : TA} {apos pos : Pos} {pl : Sem Bool} (c : Kmx X.prog X.w X.K X.mg X.base C k m ps sp) (hr : Room j X.A) (tk : Takes X W) (he : PE X o ta) (ha : PA X (e :: es) t) (hk : k ≤ j := by decide)
    (hst : starEach (e :: es) X.env = (false, eval e X.env) :: starEach es X.env := by rfl) (hpl : (backTo pos (starEach es X.env)).any (·.1) = false := by rfl)
    (ht : eval (.Call (.Attribute o m apos) (e :: es) [] pos) X.env = (do
      let ov ← eval o X.env; standAt apos.atName
      let (f, first) ← holding [ov] (getMethod ov m pl)
      callWith pos f first (backTo pos (starEach (e :: es) X.env)) (backToKw pos (keywordEach [] X.env))) := by rfl) :
    PE X (.Call (.Attribute o m apos) (e :: es) [] pos) (tMethS C m sp (WE W) ta t) := by
  obtain ⟨f, fd, hm, F, b⟩ := c.ex
  refine ⟨fun pins s σ H Q I h => ?_⟩
  refine PySem.W.methodCall_KW (pl := pl) (thn (he.run pins s σ H _ I h) fun u s1 ⟨x, H1, I1, rx, a, dx, fs, ex, ea, l, q⟩ => ?_) ht
  subst ex
  obtain rfl : u = Value.ref a := rx
  refine getmeth_ok I1 ea c.cl hm l ?_
  refine PySem.W.callWith_K (first := [.ref a]) (h₀ := X.base) I.ok.mod.kin hm.kp (thn (ha.run pos pins s1 σ H1 _ I1 q) fun us s2 ⟨vs, H2, I2, r, q2⟩ => ⟨I2.kIn, ?_⟩) hst hpl
  exact run_fnS (us := .ref a :: us) (vs := .ref a :: vs) F (hr.mono hk) b (passAt tk σ) I2 (.cons rfl r) q2
theorem pe_mx0 {X : Cx} {W : WX} {k j : Nat} {C : Addr} {m : Str} {ps : List Str} {sp : Sp} {o : Expr} {ta : TE} {apos pos : Pos} {pl : Sem Bool} (c : Kmx X.prog X.w X.K X.mg X.base C k m ps sp) (hr : Room j X.A) (tk : Takes X W) (he : PE X o ta) (hk : k ≤ j := by decide)
    (ht : eval (.Call (.Attribute o m apos) [] [] pos) X.env = (do
      let ov ← eval o X.env; standAt apos.atName
      let (f, first) ← holding [ov] (getMethod ov m pl)
      callWith pos f first (backTo pos (starEach [] X.env)) (backToKw pos (keywordEach [] X.env))) := by rfl) :
    PE X (.Call (.Attribute o m apos) [] [] pos) (tMethS C m sp (WE W) ta tNil) := by
  obtain ⟨f, fd, hm, F, b⟩ := c.ex
  refine ⟨fun pins s σ H Q I h => ?_⟩
  refine PySem.W.methodCall_KW (pl := pl) (thn (he.run pins s σ H _ I h) fun u s1 ⟨x, H1, I1, rx, a, dx, fs, ex, ea, l, q⟩ => ?_) ht
  subst ex
  obtain rfl : u = Value.ref a := rx
  refine getmeth_ok I1 ea c.cl hm l ?_
  exact PySem.W.callWith_K0 (first := [.ref a]) I1.kIn hm.kp (run_fnS (us := [.ref a]) (vs := [.ref a]) F (hr.mono hk) b (passAt tk σ) I1 (.cons rfl .nil) q)
/-- the class C is made by an __init__ that keeps sp, by k levels; it may raise -/
structure Kmkx (P : Program) (w : World) (K : PySem.W.Frag) (mg : Str → Option Value) (base : Heap) (C : Addr) (k : Nat) (ps : List Str) (sp : Sp) : Prop where
  ex : ∃ f fd, Mk K C f ∧ FnOk P w K mg base (L2.CX P w) k f fd ps sp ∧ Binds K fd ps []
def tMakeS (C : Addr) (sp : Sp) (E : L2.St → XK) (t : TA) : TE := fun σ H Q => t σ H fun vs H1 => ∀ x dx, H1 x = none → H1 dx = none → dx ≠ x →
  sp (.ref x :: vs) (upd (upd H1 dx (.own x)) x (.ins C dx [])) (fun v H2 => v = .non ∧ Q (.ref x) H2) (E σ)
theorem pe_mkx {X : Cx} {W : WX} {k j : Nat} {C : Addr} {x : Str} {ps : List Str} {sp : Sp} {e : Expr} {es : List Expr} {t : TA} {p pos : Pos} (c : Kmkx X.prog X.w X.K X.mg X.base C k ps sp) (hm : X.mg x = some (.ref C)) (hr : Room j X.A) (tk : Takes X W) (ha : PA X (e :: es) t) (hk : k + 1 ≤ j := by decide) (hg : Gl X x := by rfl)
    (hdb : (x == ("__debug__" : Str)) = false := by decide) (he : starEach (e :: es) X.env = (false, eval e X.env) :: starEach es X.env := by rfl) (hpl : (backTo pos (starEach es X.env)).any (·.1) = false := by rfl) :
    PE X (.Call (.Name x p) (e :: es) [] pos) (tMakeS C sp (WE W) t) := by
  obtain ⟨f, fd, M, F, b⟩ := c.ex
  refine ⟨fun pins s σ H Q I h => ?_⟩
  refine wpAny_Call_Name_kw (ld_glob I hg hm ?_ hdb)
  refine PySem.W.callWith_K (h₀ := X.base) I.ok.mod.kin M.kp (thn (ha.run pos pins s σ H _ I h) fun us s1 ⟨vs, H1, I1, r, q⟩ => ⟨I1.kIn, ?_⟩) he hpl
  have hq := q (s1.heap.objs.size + 1) s1.heap.objs.size (I1.hok.fresh (Nat.le_succ _)) (I1.hok.fresh (Nat.le_refl _)) (Nat.ne_of_lt (Nat.lt_succ_self _))
  have I2 := Inv.made (C := C) I1
  have r2 : Vals (V.ref (s1.heap.objs.size + 1) :: vs) (Value.ref (s1.heap.objs.size + 1) :: us) := .cons rfl r
  have hl : (Value.ref (s1.heap.objs.size + 1) :: us).length = ps.length := by
    have e := r2.length
    rw [F.len _ _ _ _ hq] at e
    exact e.symm
  have bb := b _ (Value.ref (s1.heap.objs.size + 1) :: us) I2.kIn (by rw [List.append_nil]; exact hl)
  rw [List.append_nil] at bb
  refine wpAny_call (make_map (f := f) I1.kIn M.makes M.init (beq_iff_eq.mp M.fn) (codeAny_mono (F.run _ X.stack _ _ ⟨Value.ref (s1.heap.objs.size + 1) :: us, []⟩ (Value.ref (s1.heap.objs.size + 1) :: us) _ _ (WE W σ) ((hr.mono hk).make C us [])
    (I2.env0.make C us []) bb r2 hq) fun r s' hq' => ?_))
  cases r with
  | error e => exact passAt tk σ pins _ _ e s' I2 hq'
  | ok fl =>
    cases fl with
    | ret u =>
      obtain ⟨v, H', I3, rv, ev, q3⟩ := I2.after hq'
      subst ev
      exact ⟨rv, ⟨V.ref (s1.heap.objs.size + 1), H', I3, rfl, q3⟩⟩
    | next => exact False.elim hq'
    | brk => exact False.elim hq'
    | cont => exact False.elim hq'
end Ow
namespace K1
open PySem PySem.Spec PyProof.Rows L2 Ow Po Dd
def topS (i : Nat) : Stmt := PySem.Challenge.pw_turnshelves_k30_disk_keeps_what_was_sync.main.body.getD i (.Pass ⟨0, 0, 0, 0⟩)
structure Bl (mg : Str → Option Value) : Prop where
  range : mg "range" = none
  len : mg "len" = none
  int : mg "int" = none
  list : mg "list" = none
  isinstance : mg "isinstance" = none
  tuple : mg "tuple" = none
  bool : mg "bool" = none
  str : mg "str" = none
  zip : mg "zip" = none
  min : mg "min" = none
  verr : mg "ValueError" = none
/-- an own exception over ValueError, without __init__ -/
structure ExK (K : PySem.W.Frag) (mg : Str → Option Value) (C : Addr) (n : Str) : Prop where
  x : PySem.W.excIn K C [.type "ValueError", .type "Exception", .type "BaseException", .type "object"] "ValueError.__new__" = true
  g : mg n = some (.ref C)
  k : PySem.W.keepIn K (.ref C) = true
  b : PySem.W.subIn K (.ref C) (.type "BaseException") = some true
  t : PySem.W.typeIn K (.ref C) = some (.type "type")
  te : PySem.W.exmOne K (.ref C) (.ref C) = some true
structure TxtD (K : PySem.W.Frag) (mg : Str → Option Value) (C : Addr) : Prop where
  cl : Cls K C
  stored : NoAttr K C "stored"
  seen : NoAttr K C "seen"
  waiting : NoAttr K C "waiting"
  reads : NoAttr K C "reads"
  writes : NoAttr K C "writes"
  logs : NoAttr K C "logs"
  syncs : NoAttr K C "syncs"
  powered : NoAttr K C "powered"
  lost : NoAttr K C "lost"
  allowed : NoAttr K C "allowed"
  holder : NoAttr K C "holder"
  mgC : mg "Disk" = some (.ref C)
end K1
/-! the disk's state -/
namespace Dk
open PySem PySem.Spec PyProof.Rows L2 Ow Po Dd
structure Ds where
  n : Nat
  st : Nat → List Int
  ws : List (Nat × List Int)
  on : Bool
  left : Option Int
  lost : Int
  cr : Int
  cw : Int
  cl : Int
  cs : Int
/-- what is seen: the waiting writes over what was stored -/
def seenF : (Nat → List Int) → List (Nat × List Int) → Nat → List Int
  | st, [] => st
  | st, (j, r) :: ws => seenF (fun k => if k = j then r else st k) ws
theorem seen_snoc (j : Nat) (r : List Int) : ∀ (ws : List (Nat × List Int)) (st : Nat → List Int), seenF st (ws ++ [(j, r)]) = fun k => if k = j then r else seenF st ws k
  | [], st => rfl
  | (i, q) :: ws, st => by
    show seenF _ (ws ++ [(j, r)]) = _
    rw [seen_snoc j r ws]
    rfl
def failF (d : Ds) : Ds := { d with on := false, lost := d.lost + 1, left := none }
def operF (d : Ds) : Ds × Bool :=
  if d.on = false then (d, false) else
  match d.left with
  | none => (d, true)
  | some k => if k < 1 then (failF d, false) else ({ d with left := some (k - 1) }, true)
def optV : Option Int → V
  | none => .non
  | some k => .int k
def fldD (sA eA wA : Addr) (d : Ds) : List (Str × V) := [("stored", .ref sA), ("seen", .ref eA), ("waiting", .ref wA), ("reads", .int d.cr), ("writes", .int d.cw), ("logs", .int d.cl), ("syncs", .int d.cs), ("powered", .bl d.on), ("lost", .int d.lost), ("allowed", optV d.left), ("holder", .non)]
/-- rows by places -/
structure RowsF (H : Hp) (a : Addr) (n : Nat) (f : Nat → List Int) : Prop where
  ex : ∃ ss : List Addr, H a = some (.lst (ss.map V.ref)) ∧ ss.length = n ∧ ∀ (i : Nat) (s : Addr), ss[i]? = some s → LI H s (f i)
/-- the waiting writes -/
structure WaitF (H : Hp) (a : Addr) (ws : List (Nat × List Int)) : Prop where
  ex : ∃ ts : List Addr, H a = some (.lst (ts.map V.ref)) ∧ ts.length = ws.length ∧ ∀ (i : Nat) (t : Addr) (j : Nat) (r : List Int), ts[i]? = some t → ws[i]? = some (j, r) → ∃ q, H t = some (.tup [.int (j : Nat), .ref q]) ∧ LI H q r
structure Okd (d : Ds) : Prop where
  n0 : 60 ≤ d.n
  n1 : d.n ≤ 400
  st : ∀ i, i < d.n → (d.st i).length = 64
  ws : ∀ j r, (j, r) ∈ d.ws → j < d.n ∧ r.length = 64
  off : d.on = false → d.left = none
/-- the disk at x: its lists at sA, eA, wA -/
structure DiskAt (C : Addr) (H : Hp) (x sA eA wA : Addr) (d : Ds) : Prop where
  ob : ∃ dx, H x = some (.ins C dx (fldD sA eA wA d))
  s : RowsF H sA d.n d.st
  e : RowsF H eA d.n (seenF d.st d.ws)
  w : WaitF H wA d.ws
  se : sA ≠ eA
  sw : sA ≠ wA
  ew : eA ≠ wA
  ok : Okd d
theorem RowsF.keep {H H' : Hp} {x a : Addr} {C dx : Addr} {fs : List (Str × V)} {n : Nat} {f : Nat → List Int} (e : H x = some (.ins C dx fs)) (g : Gw x H H') (h : RowsF H a n f) : RowsF H' a n f := by
  obtain ⟨ss, ea, l, r⟩ := h.ex
  have ne : ∀ {b : Addr} {l : List V}, H b = some (.lst l) → b ≠ x := fun q z => by rw [z, e] at q; cases q
  exact ⟨ss, g _ _ (ne ea) ea, l, fun i s es => g _ _ (ne (r i s es)) (r i s es)⟩
theorem WaitF.keep {H H' : Hp} {x a : Addr} {C dx : Addr} {fs : List (Str × V)} {ws : List (Nat × List Int)} (e : H x = some (.ins C dx fs)) (g : Gw x H H') (h : WaitF H a ws) : WaitF H' a ws := by
  obtain ⟨ts, ea, l, r⟩ := h.ex
  have ne : ∀ {b : Addr} {l : List V}, H b = some (.lst l) → b ≠ x := fun q z => by rw [z, e] at q; cases q
  refine ⟨ts, g _ _ (ne ea) ea, l, fun i t j q et eq => ?_⟩
  obtain ⟨p, e1, e2⟩ := r i t j q et eq
  exact ⟨p, g _ _ (fun z => by rw [z, e] at e1; cases e1) e1, g _ _ (ne e2) e2⟩
/-- the object alone is written anew -/
theorem DiskAt.put {C : Addr} {H : Hp} {x sA eA wA dx : Addr} {d d' : Ds} (h : DiskAt C H x sA eA wA d) (n : d'.n = d.n) (st : d'.st = d.st) (ws : d'.ws = d.ws) (off : d'.on = false → d'.left = none) : DiskAt C (upd H x (.ins C dx (fldD sA eA wA d'))) x sA eA wA d' := by
  obtain ⟨_, e⟩ := h.ob
  refine ⟨⟨_, upd_same⟩, ?_, ?_, ?_, h.se, h.sw, h.ew, ⟨by rw [n]; exact h.ok.n0, by rw [n]; exact h.ok.n1, by rw [n, st]; exact h.ok.st, by rw [n, ws]; exact h.ok.ws, off⟩⟩
  · rw [n, st]
    exact h.s.keep e Gw.put
  · rw [n, st, ws]
    exact h.e.keep e Gw.put
  · rw [ws]
    exact h.w.keep e Gw.put
theorem RowsF.same {H H' : Hp} {a : Addr} {n : Nat} {f : Nat → List Int} (s : Same H H') (h : RowsF H a n f) : RowsF H' a n f := by
  obtain ⟨ss, ea, l, r⟩ := h.ex
  exact ⟨ss, s _ _ ea, l, fun i t es => (r i t es).same s⟩
theorem WaitF.same {H H' : Hp} {a : Addr} {ws : List (Nat × List Int)} (s : Same H H') (h : WaitF H a ws) : WaitF H' a ws := by
  obtain ⟨ts, ea, l, r⟩ := h.ex
  refine ⟨ts, s _ _ ea, l, fun i t j q et eq => ?_⟩
  obtain ⟨p, e1, e2⟩ := r i t j q et eq
  exact ⟨p, s _ _ e1, e2.same s⟩
theorem DiskAt.same {C : Addr} {H H' : Hp} {x sA eA wA : Addr} {d : Ds} (s : Same H H') (h : DiskAt C H x sA eA wA d) : DiskAt C H' x sA eA wA d := by
  obtain ⟨dx, e⟩ := h.ob
  exact ⟨⟨dx, s _ _ e⟩, h.s.same s, h.e.same s, h.w.same s, h.se, h.sw, h.ew, h.ok⟩
/-- a row is none of the lists of rows -/
theorem row_ne {H : Hp} {a b : Addr} {xs : List Int} {ts : List Addr} (h : LI H a xs) (l : xs.length = 64) (e : H b = some (.lst (ts.map V.ref))) : a ≠ b := fun z => by
  rw [z, LI, e] at h
  cases xs with
  | nil => cases l
  | cons x xs =>
    cases ts with
    | nil => cases h
    | cons t ts =>
      rw [List.map_cons, List.map_cons] at h
      injection h with h
      injection h with h
      injection h with h _
      cases h
theorem RowsF.keepR {H H' : Hp} {a : Addr} {n : Nat} {f : Nat → List Int} (h : RowsF H a n f) (h64 : ∀ i, i < n → (f i).length = 64) (ka : ∀ o, H a = some o → H' a = some o) (k : ∀ b xs, LI H b xs → xs.length = 64 → LI H' b xs) : RowsF H' a n f := by
  obtain ⟨ss, ea, l, r⟩ := h.ex
  exact ⟨ss, ka _ ea, l, fun i s es => k _ _ (r i s es) (h64 i (by rw [← l]; exact (List.getElem?_eq_some_iff.mp es).1))⟩
theorem WaitF.keepR {H H' : Hp} {a : Addr} {ws : List (Nat × List Int)} (h : WaitF H a ws) (h64 : ∀ j r, (j, r) ∈ ws → r.length = 64) (ka : ∀ o, H a = some o → H' a = some o) (k : ∀ b xs, LI H b xs → xs.length = 64 → LI H' b xs) (kt : ∀ b o, H b = some (.tup o) → H' b = some (.tup o)) : WaitF H' a ws := by
  obtain ⟨ts, ea, l, r⟩ := h.ex
  refine ⟨ts, ka _ ea, l, fun i t j q et eq => ?_⟩
  obtain ⟨p, e1, e2⟩ := r i t j q et eq
  exact ⟨p, kt _ _ e1, k _ _ e2 (h64 j q (List.mem_of_getElem? eq))⟩
theorem seen64 {n : Nat} : ∀ (ws : List (Nat × List Int)) (st : Nat → List Int), (∀ i, i < n → (st i).length = 64) → (∀ j r, (j, r) ∈ ws → j < n ∧ r.length = 64) → ∀ i, i < n → (seenF st ws i).length = 64
  | [], _, h, _, i, hi => h i hi
  | (j, r) :: ws, st, h, g, i, hi => seen64 ws _ (fun k hk => by
      show (if k = j then r else st k).length = 64
      split
      · exact (g j r List.mem_cons_self).2
      · exact h k hk) (fun j' r' m => g j' r' (List.mem_cons_of_mem _ m)) i hi
/-- all but these stay -/
def Bx (M : List Addr) (H H' : Hp) : Prop := ∀ b o, b ∉ M → H b = some o → H' b = some o
/-- the lists are those or new ones -/
def Nw (M M' : List Addr) (H : Hp) : Prop := ∀ b ∈ M', b ∈ M ∨ H b = none
end Dk
namespace K1
open PySem PySem.Spec PyProof.Rows L2 Ow Po Dd
abbrev s_law_next : Stmt := topS 14
abbrev N_law_next : List Str := ["state", "limit", "cell", "value"]
theorem sc_law_next : FnScope N_law_next ["state", "limit"] (defScope s_law_next) := ⟨rfl, rfl, rfl, by decide +kernel, rfl, by decide +kernel, by decide +kernel⟩
abbrev s_law_same : Stmt := topS 15
abbrev N_law_same : List Str := ["actual", "expected", "k"]
theorem sc_law_same : FnScope N_law_same ["actual", "expected"] (defScope s_law_same) := ⟨rfl, rfl, rfl, by decide +kernel, rfl, by decide +kernel, by decide +kernel⟩
/-- the state that draws -/
def St (H : Hp) (a sc : Addr) : Prop := ∃ (ns : List Int) (pos : Nat) (c seed : Int), H a = some (.lst [.ref sc, .int (pos : Nat), .int c, .int seed]) ∧ H sc = some (.lst (ns.map V.int)) ∧ sc ≠ a ∧ ns.length ≤ 63 ∧ 0 ≤ c ∧ 0 ≤ seed ∧ seed < 2147483647
theorem St.same {H H' : Hp} {a sc : Addr} (s : Same H H') (h : St H a sc) : St H' a sc := by
  obtain ⟨ns, pos, c, seed, e, e2, r⟩ := h
  exact ⟨ns, pos, c, seed, s _ _ e, s _ _ e2, r⟩
def spNext : Sp := fun vs H Q _ => ∃ (a sc : Addr) (l : Int), vs = [.ref a, .int l] ∧ St H a sc ∧ 0 < l ∧ l ≤ 1152921504606846976 ∧ ∀ H' r, St H' a sc → Gw a H H' → 0 ≤ r → r < l → Q (.int r) H'
def okD : Nat → PyData → Bool
  | _, .none => true
  | _, .bool _ => true
  | _, .int _ => true
  | _, .str _ => true
  | 0, _ => false
  | n + 1, .list xs => decide (xs.length ≤ 10000) && xs.all (okD n)
  | n + 1, .tuple xs => decide (xs.length ≤ 10000) && xs.all (okD n)
  | _, .dict _ => false
def spSame (K : PySem.W.Frag) (n : Nat) : Sp := fun vs H Q _ => ∃ (x y : V) (d : PyData), vs = [x, y] ∧ Dp K H x d ∧ Dp K H y d ∧ okD n d = true ∧ ∀ H', Same H H' → Q (.bl true) H'
section
variable {P : Program} {w : World} {K : PySem.W.Frag} {mg : Str → Option Value} {base : Heap}
theorem ok_next {f : Addr} {fd : FuncData} (F : Fun K "_law_next" "_law_next" s_law_next f fd) (T0 : Bl mg) :
    FnOk P w K mg base CX0 1 f fd ["state", "limit"] spNext := by
  refine F.ok sc_law_next (fun vs H Q E h => ?_) (fun cdv A outer s H vs Q E hr h => ?_)
  · obtain ⟨a, sc, l, rfl, _⟩ := h
    rfl
  · obtain ⟨a, sc, l, rfl, ⟨ns, pos, c, seed, e, e2, ne, hl, hc, h0, h1⟩, l0, l1, q⟩ := h
    refine ⟨_, (pss_mid (ps_if (PW.pt (pw_and (pt_cmpR op_eq (pe_ix ix_list (pv 0) pe_int (fun _ _ => rfl)) pe_int (nomark _)) (pw_and1 (pt_cmpR op_lt (pe_ix ix_list (pv 0) pe_int (fun _ _ => rfl)) (pe_callB call_len_seq (by rfl) T0.len PySem.boot_len (pa_cons (pe_ix ix_list (pv 0) pe_int (fun _ _ => rfl)) pa_nil)) (nomark _))))) (pss_cons (ps_set (i := 2) sc_law_next.nd rfl (.inl rfl) (pe_ix ix_list (pe_ix ix_list (pv 0) pe_int (fun _ _ => rfl)) (pe_ix ix_list (pv 0) pe_int (fun _ _ => rfl)) (fun _ _ => rfl)))
      (pss_cons (ps_augS (pv 0) pe_int pget_list pe_int ip_add set_list)
      (pss_one (ps_if (pt_cmpR op_ge (pv 2) (pe_op op_pow pe_int pe_int) (nomark _)) (pss_one (ps_asg (pv 2) (pg_sub (pv 0) pe_int set_list))) (pss_one (ps_asg (pe_op op_mod (pe_callTy call_int1 (by rfl) T0.int (by decide +kernel) (pa_cons (pe_op op_add (pe_op op_add (pe_op op_mul (pe_ix ix_list (pv 0) pe_int (fun _ _ => rfl)) pe_int) (pe_op op_mod (pe_callTy call_int1 (by rfl) T0.int (by decide +kernel) (pa_cons (pv 2) pa_nil)) pe_int)) pe_int) pa_nil)) pe_int) (pg_sub (pv 0) pe_int set_list))))))) pss_nil)
      (pss_cons (ps_if (pt_cmpR op_gt (pe_ix ix_list (pv 0) pe_int (fun _ _ => rfl)) pe_int (nomark _)) (pss_cons (ps_set (i := 3) sc_law_next.nd rfl (.inl rfl) (pe_op op_mod (pe_callTy call_int1 (by rfl) T0.int (by decide +kernel) (pa_cons (pe_ix ix_list (pv 0) pe_int (fun _ _ => rfl)) pa_nil)) (pv 1)))
      (pss_cons (ps_asg (pe_op op_fdivW (pe_ix ix_list (pv 0) pe_int (fun _ _ => rfl)) (pv 1)) (pg_sub (pv 0) pe_int set_list))
      (pss_one (ps_ret (pv 3))))) pss_nil)
      (pss_cons (ps_asg (pe_op op_mod (pe_callTy call_int1 (by rfl) T0.int (by decide +kernel) (pa_cons (pe_op op_add (pe_op op_mul (pe_ix ix_list (pv 0) pe_int (fun _ _ => rfl)) pe_int) pe_int) pa_nil)) pe_int) (pg_sub (pv 0) pe_int set_list))
      (pss_one (ps_ret (pe_op op_mod (pe_callTy call_int1 (by rfl) T0.int (by decide +kernel) (pa_cons (pe_op op_fdiv (pe_ix ix_list (pv 0) pe_int (fun _ _ => rfl)) pe_int) pa_nil)) (pv 1))))))), ?_⟩
    refine ⟨fun σ' H' => ∃ v2, σ' = [some (.ref a), some (.int l), v2, none] ∧ St H' a sc ∧ Gw a H H', ?_, ?_⟩
    · refine ⟨_, rfl, a, _, 2, .int c, rfl, rfl, SqL.of e, rfl, rfl, _, rfl, ite2 (fun _ => ?_) (fun _ => iteF ⟨none, rfl, ⟨ns, pos, c, seed, e, e2, ne, hl, hc, h0, h1⟩, Gw.refl _ _⟩)⟩
      refine ⟨_, rfl, a, _, 1, .int (pos : Nat), rfl, rfl, SqL.of e, rfl, _, rfl, a, _, 0, .ref sc, rfl, rfl, SqL.of e, rfl, sc, _, rfl, .inl (SqL.of e2), _, _, rfl, rfl, _, rfl, ?_⟩
      refine ite2 (fun z => ?_) (fun _ => ⟨none, rfl, ⟨ns, pos, c, seed, e, e2, ne, hl, hc, h0, h1⟩, Gw.refl _ _⟩)
      have z : ((pos : Nat) : Int) < ((ns.map V.int).length : Nat) := of_decide_eq_true z
      have hp : pos < ns.length := by rw [List.length_map] at z; omega
      refine ⟨_, rfl, a, _, 0, .ref sc, rfl, rfl, SqL.of e, rfl, _, rfl, a, _, 1, .int (pos : Nat), rfl, rfl, SqL.of e, rfl, sc, _, _, _, rfl, rfl, SqL.of e2, atI_nat (li_at hp), ?_⟩
      refine ⟨_, rfl, a, _, 1, .int (pos : Nat), rfl, rfl, SqL.of e, rfl, _, _, rfl, rfl, a, _, 1, 1, rfl, rfl, e, rfl, ?_⟩
      have e3 : (upd H a (.lst [.ref sc, .int ((pos + 1 : Nat) : Int), .int c, .int seed])) a = some (.lst [.ref sc, .int ((pos + 1 : Nat) : Int), .int c, .int seed]) := upd_same
      have e4 : (upd H a (.lst [.ref sc, .int ((pos + 1 : Nat) : Int), .int c, .int seed])) sc = some (.lst (ns.map V.int)) := by rw [upd_ne ne]; exact e2
      have g1 : Gw a H (upd H a (.lst [.ref sc, .int ((pos + 1 : Nat) : Int), .int c, .int seed])) := Gw.put
      refine ⟨_, rfl, _, _, rfl, rfl, ⟨by decide, by decide, by decide⟩, _, _, rfl, rfl, _, rfl, ?_⟩
      refine ite2 (fun y => ?_) (fun _ => ?_)
      · have y : (10 : Int) ^ (18 : Int).toNat ≤ gI ns pos := of_decide_eq_true y
        have y : (1000000000000000000 : Int) ≤ gI ns pos := y
        refine ⟨_, rfl, _, rfl, a, _, 2, 2, rfl, rfl, e3, rfl, ?_⟩
        refine ⟨_, rfl, ⟨ns, pos + 1, gI ns pos, seed, upd_same, by rw [upd_ne ne]; exact e4, ne, hl, by omega, h0, h1⟩, g1.trans Gw.put⟩
      · refine ⟨_, rfl, a, _, 3, .int seed, rfl, rfl, SqL.of e3, rfl, _, 48271, rfl, rfl, .inr ⟨by decide, by decide⟩, _, rfl, .inl ⟨_, rfl, _, _, rfl, rfl, (by show (0 : Int) < 2147483647; decide), _, _, rfl, rfl, _, _, rfl, rfl, .inl ⟨_, rfl, _, _, rfl, rfl, (by show (0 : Int) < 2147483647; decide), _, rfl, a, _, 3, 3, rfl, rfl, e3, rfl, ?_⟩⟩⟩
        refine ⟨_, rfl, ⟨ns, pos + 1, c, _, upd_same, by rw [upd_ne ne]; exact e4, ne, hl, hc, Int.emod_nonneg _ (by decide), Int.emod_lt_of_pos _ (by decide)⟩, g1.trans Gw.put⟩
    · rintro σ' H1 ⟨v2, rfl, ⟨ns, pos, c, seed, e, e2, ne, hl, hc, h0, h1⟩, g⟩
      refine ⟨_, rfl, a, _, 2, .int c, rfl, rfl, SqL.of e, rfl, _, _, rfl, rfl, _, rfl, ?_⟩
      refine ite2 (fun _ => ?_) (fun _ => ?_)
      · refine ⟨_, rfl, a, _, 2, .int c, rfl, rfl, SqL.of e, rfl, .inl ⟨_, rfl, _, rfl, _, _, rfl, rfl, l0, ?_⟩⟩
        refine ⟨_, rfl, a, _, 2, .int c, rfl, rfl, SqL.of e, rfl, _, rfl, _, _, rfl, rfl, wide_div l0 (b := 64) (by omega) (by decide) (by decide), _, rfl, a, _, 2, 2, rfl, rfl, e, rfl, ?_⟩
        refine ⟨_, rfl, ?_⟩
        exact q _ _ ⟨ns, pos, c / l, seed, upd_same, by rw [upd_ne ne]; exact e2, ne, hl, Int.ediv_nonneg hc (by omega), h0, h1⟩ (g.trans Gw.put) (Int.emod_nonneg _ (by omega)) (Int.emod_lt_of_pos _ l0)
      · refine ⟨_, rfl, a, _, 3, .int seed, rfl, rfl, SqL.of e, rfl, _, 69621, rfl, rfl, .inr ⟨by decide, by decide⟩, _, _, rfl, rfl, .inl ⟨_, rfl, _, _, rfl, rfl, (by show (0 : Int) < 2147483647; decide), _, rfl, a, _, 3, 3, rfl, rfl, e, rfl, ?_⟩⟩
        refine ⟨_, rfl, a, _, 3, _, rfl, rfl, SqL.of upd_same, rfl, _, _, rfl, rfl, ⟨by decide, by decide⟩, .inl ⟨_, rfl, _, rfl, _, _, rfl, rfl, l0, ?_⟩⟩
        exact q _ _ ⟨ns, pos, c, _, upd_same, by rw [upd_ne ne]; exact e2, ne, hl, hc, Int.emod_nonneg _ (by decide), Int.emod_lt_of_pos _ (by decide)⟩ (g.trans Gw.put) (Int.emod_nonneg _ (by omega)) (Int.emod_lt_of_pos _ l0)
theorem okD_kids {n : Nat} {xs : List PyData} (h : (decide (xs.length ≤ 10000) && xs.all (okD n)) = true) : xs.length ≤ 10000 ∧ ∀ d ∈ xs, okD n d = true := by
  rw [Bool.and_eq_true, decide_eq_true_iff, List.all_eq_true] at h
  exact h
theorem kn1 {f : Addr} {fd : FuncData} {x qual : Str} {st : Stmt} {ps : List Str} {sp : Sp} {k : Nat} (F : Fun K x qual st f fd) (g : mg x = some (.ref f)) (b : Binds K fd ps []) (ok : FnOk P w K mg base CX0 k f fd ps sp) : Kn P w K mg base k x ps sp := ⟨⟨f, fd, ok, g, F.kp, b⟩⟩
def spRec (K : PySem.W.Frag) : Nat → Sp
  | 0 => fun _ _ _ _ => False
  | n + 1 => spSame K n
theorem nonF {v : V} (h : v ≠ .non) : decide (v = V.non) = false := decide_eq_false h
/-- the walk over the items -/
theorem ok_same1 {f : Addr} {fd : FuncData} (F : Fun K "_law_same" "_law_same" s_law_same f fd) (T0 : Bl mg) (n : Nat) (rec : Kn P w K mg base n "_law_same" ["actual", "expected"] (spRec K n)) :
    FnOk P w K mg base CX0 (n + 1) f fd ["actual", "expected"] (spSame K n) := by
  refine F.ok sc_law_same (fun vs H Q E h => ?_) (fun cdv A outer s H vs Q E hr h => ?_)
  · obtain ⟨x, y, d, rfl, _⟩ := h
    rfl
  · obtain ⟨x, y, d, rfl, hx, hy, ok, q⟩ := h
    refine ⟨_, (pss_cons (ps_if (pt_cmpR op_isN (pv 1) pe_non (nomark _)) (pss_one (ps_ret (pe_cmpR op_isN (pv 0) pe_non (nomark _)))) pss_nil)
      (pss_cons (ps_if (pt_val (pe_callB call_isi (by rfl) T0.isinstance (by decide +kernel) (pa_cons (pv 1) (pa_cons (pe_ty "bool" (by rfl) T0.bool (by decide +kernel)) pa_nil)))) (pss_one (ps_ret (pe_and (pe_callB call_isi (by rfl) T0.isinstance (by decide +kernel) (pa_cons (pv 0) (pa_cons (pe_ty "bool" (by rfl) T0.bool (by decide +kernel)) pa_nil))) (pe_one (pe_cmpR op_eq (pv 0) (pv 1) (nomark _)))))) pss_nil)
      (pss_cons (ps_if (pt_val (pe_callB call_isi (by rfl) T0.isinstance (by decide +kernel) (pa_cons (pv 1) (pa_cons (pe_ty "int" (by rfl) T0.int (by decide +kernel)) pa_nil)))) (pss_one (ps_ret (pe_and (pe_callB call_isi (by rfl) T0.isinstance (by decide +kernel) (pa_cons (pv 0) (pa_cons (pe_ty "int" (by rfl) T0.int (by decide +kernel)) pa_nil))) (pe_and (pe_not (pe_callB call_isi (by rfl) T0.isinstance (by decide +kernel) (pa_cons (pv 0) (pa_cons (pe_ty "bool" (by rfl) T0.bool (by decide +kernel)) pa_nil)))) (pe_one (pe_cmpR op_eq (pv 0) (pv 1) (nomark _))))))) pss_nil)
      (pss_cons (ps_if (pt_val (pe_callB call_isi (by rfl) T0.isinstance (by decide +kernel) (pa_cons (pv 1) (pa_cons (pe_ty "str" (by rfl) T0.str (by decide +kernel)) pa_nil)))) (pss_one (ps_ret (pe_and (pe_callB call_isi (by rfl) T0.isinstance (by decide +kernel) (pa_cons (pv 0) (pa_cons (pe_ty "str" (by rfl) T0.str (by decide +kernel)) pa_nil))) (pe_one (pe_cmpR op_eq (pv 0) (pv 1) (nomark _)))))) pss_nil)
      (pss_cons (ps_if (PW.pt (pw_and (pt_val (pe_callB call_isi (by rfl) T0.isinstance (by decide +kernel) (pa_cons (pv 1) (pa_cons (pe_ty "tuple" (by rfl) T0.tuple (by decide +kernel)) pa_nil)))) (pw_and1 (pt_not (pt_val (pe_callB call_isi (by rfl) T0.isinstance (by decide +kernel) (pa_cons (pv 0) (pa_cons (pe_ty "tuple" (by rfl) T0.tuple (by decide +kernel)) pa_nil)))))))) (pss_one (ps_ret pe_bl)) pss_nil)
      (pss_cons (ps_if (PW.pt (pw_and (pt_val (pe_callB call_isi (by rfl) T0.isinstance (by decide +kernel) (pa_cons (pv 1) (pa_cons (pe_ty "list" (by rfl) T0.list (by decide +kernel)) pa_nil)))) (pw_and1 (pt_not (pt_val (pe_callB call_isi (by rfl) T0.isinstance (by decide +kernel) (pa_cons (pv 0) (pa_cons (pe_ty "list" (by rfl) T0.list (by decide +kernel)) pa_nil)))))))) (pss_one (ps_ret pe_bl)) pss_nil)
      (pss_cons (ps_if (pt_cmpR op_ne (pe_callB call_len_seq (by rfl) T0.len PySem.boot_len (pa_cons (pv 0) pa_nil)) (pe_callB call_len_seq (by rfl) T0.len PySem.boot_len (pa_cons (pv 1) pa_nil)) (nomark _)) (pss_one (ps_ret pe_bl)) pss_nil)
      (pss_cons (ps_for PassesOwn.never rfl (pi_range1 (by rfl) T0.range (pa_cons (pe_callB call_len_seq (by rfl) T0.len PySem.boot_len (pa_cons (pv 1) pa_nil)) pa_nil)) (pg_name (i := 2) sc_law_same.nd rfl (.inl rfl)) (pss_one (ps_if (pt_not (pt_val (pe_kn (hk := Nat.le_refl _) rec hr (pa_cons (pe_ix ix_seq (pv 0) (pv 2) (fun _ _ => rfl)) (pa_cons (pe_ix ix_seq (pv 1) (pv 2) (fun _ _ => rfl)) pa_nil))))) (pss_one (ps_ret pe_bl)) pss_nil)))
      (pss_one (ps_ret pe_bl)))))))))), ?_⟩
    cases d with
    | none =>
      cases hx
      cases hy
      refine ⟨_, rfl, rfl, _, rfl, ?_⟩
      rw [show decide (V.non = V.non) = true from rfl]
      refine iteT ⟨_, rfl, rfl, ?_⟩
      rw [show decide (V.non = V.non) = true from rfl]
      exact q _ (Same.refl _)
    | bool b =>
      cases hx
      cases hy
      refine ⟨_, rfl, rfl, _, rfl, ?_⟩
      rw [nonF (by intro z; cases z)]
      refine iteF ?_
      refine ⟨_, rfl, _, _, .type "bool", .type "bool", _, rfl, .ty _, dp_ty (.bl b), ki_bool (.bool b), ?_⟩
      refine ⟨_, rfl, iteT ?_⟩
      refine ⟨_, rfl, _, _, .type "bool", .type "bool", _, rfl, .ty _, dp_ty (.bl b), ki_bool (.bool b), ?_⟩
      refine ⟨_, rfl, iteT ?_⟩
      refine ⟨_, rfl, _, rfl, rfl, ?_⟩
      rw [show decide (V.bl b = V.bl b) = true from decide_eq_true rfl]
      exact q _ (Same.refl _)
    | int i =>
      cases hx
      cases hy
      refine ⟨_, rfl, rfl, _, rfl, ?_⟩
      rw [nonF (by intro z; cases z)]
      refine iteF ?_
      refine ⟨_, rfl, _, _, .type "int", .type "bool", _, rfl, .ty _, dp_ty (.int i), ki_bool (.int i), ?_⟩
      refine ⟨_, rfl, iteF ?_⟩
      refine ⟨_, rfl, _, _, .type "int", .type "int", _, rfl, .ty _, dp_ty (.int i), ki_int (.int i), ?_⟩
      refine ⟨_, rfl, iteT ?_⟩
      refine ⟨_, rfl, _, _, .type "int", .type "int", _, rfl, .ty _, dp_ty (.int i), ki_int (.int i), ?_⟩
      refine ⟨_, rfl, iteT ?_⟩
      refine ⟨_, rfl, _, _, .type "int", .type "bool", _, rfl, .ty _, dp_ty (.int i), ki_bool (.int i), ?_⟩
      refine ⟨_, rfl, _, rfl, iteT ?_⟩
      refine ⟨_, rfl, _, rfl, rfl, ?_⟩
      rw [show decide (V.int i = V.int i) = true from decide_eq_true rfl]
      exact q _ (Same.refl _)
    | str z =>
      cases hx
      cases hy
      refine ⟨_, rfl, rfl, _, rfl, ?_⟩
      rw [nonF (by intro z; cases z)]
      refine iteF ?_
      refine ⟨_, rfl, _, _, .type "str", .type "bool", _, rfl, .ty _, dp_ty (.str z), ki_bool (.str z), ?_⟩
      refine ⟨_, rfl, iteF ?_⟩
      refine ⟨_, rfl, _, _, .type "str", .type "int", _, rfl, .ty _, dp_ty (.str z), ki_int (.str z), ?_⟩
      refine ⟨_, rfl, iteF ?_⟩
      refine ⟨_, rfl, _, _, .type "str", .type "str", _, rfl, .ty _, dp_ty (.str z), ki_str (.str z), ?_⟩
      refine ⟨_, rfl, iteT ?_⟩
      refine ⟨_, rfl, _, _, .type "str", .type "str", _, rfl, .ty _, dp_ty (.str z), ki_str (.str z), ?_⟩
      refine ⟨_, rfl, iteT ?_⟩
      refine ⟨_, rfl, _, rfl, rfl, ?_⟩
      rw [show decide (V.str z = V.str z) = true from decide_eq_true rfl]
      exact q _ (Same.refl _)
    | dict z => cases hx
    | list ds =>
      obtain ⟨px, xs, rfl, sx, ax⟩ := dp_lst hx
      obtain ⟨py, ys, rfl, sy, ay⟩ := dp_lst hy
      cases n with
      | zero => cases ok
      | succ m =>
      obtain ⟨lk, ok⟩ := okD_kids ok
      obtain ⟨lx, gx⟩ := dpAll_get ax
      obtain ⟨ly, gy⟩ := dpAll_get ay
      refine ⟨_, rfl, rfl, _, rfl, ?_⟩
      rw [nonF (by intro z; cases z)]
      refine iteF ?_
      refine ⟨_, rfl, _, _, .type "list", .type "bool", _, rfl, .ty _, dp_ty hy, ki_bool (.list ds), ?_⟩
      refine ⟨_, rfl, iteF ?_⟩
      refine ⟨_, rfl, _, _, .type "list", .type "int", _, rfl, .ty _, dp_ty hy, ki_int (.list ds), ?_⟩
      refine ⟨_, rfl, iteF ?_⟩
      refine ⟨_, rfl, _, _, .type "list", .type "str", _, rfl, .ty _, dp_ty hy, ki_str (.list ds), ?_⟩
      refine ⟨_, rfl, iteF ?_⟩
      refine ⟨_, rfl, _, _, .type "list", .type "tuple", _, rfl, .ty _, dp_ty hy, ki_tup (.list ds), ?_⟩
      refine ⟨_, rfl, iteF (iteF ?_)⟩
      refine ⟨_, rfl, _, _, .type "list", .type "list", _, rfl, .ty _, dp_ty hy, ki_list (.list ds), ?_⟩
      refine ⟨_, rfl, iteT ?_⟩
      refine ⟨_, rfl, _, _, .type "list", .type "list", _, rfl, .ty _, dp_ty hx, ki_list (.list ds), ?_⟩
      refine ⟨_, rfl, iteF ?_⟩
      refine ⟨_, rfl, px, xs, rfl, .inl sx, _, rfl, py, ys, rfl, .inl sy, rfl, _, rfl, ?_⟩
      rw [lx, ly]
      rw [show (!decide (V.int (ds.length : Nat) = V.int (ds.length : Nat))) = false by rw [decide_eq_true rfl]; rfl]
      refine iteF ?_
      refine ⟨_, rfl, py, ys, rfl, .inl sy, _, rfl, ?_⟩
      rw [ly]
      refine ⟨by omega, by omega, ?_⟩
      refine for_range (lo := 0) (n := ds.length) (fun k σ H' => ∃ v2, σ = [some (.ref px), some (.ref py), v2] ∧ Same H H') ⟨none, rfl, Same.refl _⟩ ?_ ?_
      · rintro k σ H1 hk ⟨v2, rfl, s1⟩
        show gName 2 (V.int (0 + (k : Int))) _ _ _
        rw [Int.zero_add]
        have hkx : k < xs.length := by rw [lx]; exact hk
        have hky : k < ys.length := by rw [ly]; exact hk
        obtain ⟨dx, e1, d1⟩ := gx k _ (List.getElem?_eq_getElem hkx)
        obtain ⟨dy, e2, d2⟩ := gy k _ (List.getElem?_eq_getElem hky)
        rw [e1] at e2
        cases e2
        refine ⟨_, rfl, _, rfl, .inl ⟨px, _, _, _, rfl, rfl, Same.seq s1 sx, atI_nat (List.getElem?_eq_getElem hkx), _, rfl, _, rfl, .inl ⟨py, _, _, _, rfl, rfl, Same.seq s1 sy, atI_nat (List.getElem?_eq_getElem hky), _, _, dx, rfl, dp_same s1 d1, dp_same s1 d2, ok dx (List.mem_of_getElem? e1), fun H2 s2 => ?_⟩⟩⟩
        refine ⟨_, rfl, iteF ?_⟩
        exact ⟨_, rfl, s1.trans s2⟩
      · rintro σ H1 ⟨v2, rfl, s1⟩
        exact q _ s1
    | tuple ds =>
      obtain ⟨px, xs, rfl, sx, ax⟩ := dp_tup hx
      obtain ⟨py, ys, rfl, sy, ay⟩ := dp_tup hy
      cases n with
      | zero => cases ok
      | succ m =>
      obtain ⟨lk, ok⟩ := okD_kids ok
      obtain ⟨lx, gx⟩ := dpAll_get ax
      obtain ⟨ly, gy⟩ := dpAll_get ay
      refine ⟨_, rfl, rfl, _, rfl, ?_⟩
      rw [nonF (by intro z; cases z)]
      refine iteF ?_
      refine ⟨_, rfl, _, _, .type "tuple", .type "bool", _, rfl, .ty _, dp_ty hy, ki_bool (.tuple ds), ?_⟩
      refine ⟨_, rfl, iteF ?_⟩
      refine ⟨_, rfl, _, _, .type "tuple", .type "int", _, rfl, .ty _, dp_ty hy, ki_int (.tuple ds), ?_⟩
      refine ⟨_, rfl, iteF ?_⟩
      refine ⟨_, rfl, _, _, .type "tuple", .type "str", _, rfl, .ty _, dp_ty hy, ki_str (.tuple ds), ?_⟩
      refine ⟨_, rfl, iteF ?_⟩
      refine ⟨_, rfl, _, _, .type "tuple", .type "tuple", _, rfl, .ty _, dp_ty hy, ki_tup (.tuple ds), ?_⟩
      refine ⟨_, rfl, iteT ?_⟩
      refine ⟨_, rfl, _, _, .type "tuple", .type "tuple", _, rfl, .ty _, dp_ty hx, ki_tup (.tuple ds), ?_⟩
      refine ⟨_, rfl, iteF ?_⟩
      refine ⟨_, rfl, _, _, .type "tuple", .type "list", _, rfl, .ty _, dp_ty hy, ki_list (.tuple ds), ?_⟩
      refine ⟨_, rfl, iteF (iteF ?_)⟩
      refine ⟨_, rfl, px, xs, rfl, .inr sx, _, rfl, py, ys, rfl, .inr sy, rfl, _, rfl, ?_⟩
      rw [lx, ly]
      rw [show (!decide (V.int (ds.length : Nat) = V.int (ds.length : Nat))) = false by rw [decide_eq_true rfl]; rfl]
      refine iteF ?_
      refine ⟨_, rfl, py, ys, rfl, .inr sy, _, rfl, ?_⟩
      rw [ly]
      refine ⟨by omega, by omega, ?_⟩
      refine for_range (lo := 0) (n := ds.length) (fun k σ H' => ∃ v2, σ = [some (.ref px), some (.ref py), v2] ∧ Same H H') ⟨none, rfl, Same.refl _⟩ ?_ ?_
      · rintro k σ H1 hk ⟨v2, rfl, s1⟩
        show gName 2 (V.int (0 + (k : Int))) _ _ _
        rw [Int.zero_add]
        have hkx : k < xs.length := by rw [lx]; exact hk
        have hky : k < ys.length := by rw [ly]; exact hk
        obtain ⟨dx, e1, d1⟩ := gx k _ (List.getElem?_eq_getElem hkx)
        obtain ⟨dy, e2, d2⟩ := gy k _ (List.getElem?_eq_getElem hky)
        rw [e1] at e2
        cases e2
        refine ⟨_, rfl, _, rfl, .inr (.inl ⟨px, _, _, _, rfl, rfl, sqt_same s1 sx, atI_nat (List.getElem?_eq_getElem hkx), _, rfl, _, rfl, .inr (.inl ⟨py, _, _, _, rfl, rfl, sqt_same s1 sy, atI_nat (List.getElem?_eq_getElem hky), _, _, dx, rfl, dp_same s1 d1, dp_same s1 d2, ok dx (List.mem_of_getElem? e1), fun H2 s2 => ?_⟩)⟩)⟩
        refine ⟨_, rfl, iteF ?_⟩
        exact ⟨_, rfl, s1.trans s2⟩
      · rintro σ H1 ⟨v2, rfl, s1⟩
        exact q _ s1
theorem ok_same {f : Addr} {fd : FuncData} (F : Fun K "_law_same" "_law_same" s_law_same f fd) (T0 : Bl mg) (g : mg "_law_same" = some (.ref f)) (b : Binds K fd ["actual", "expected"] []) :
    ∀ n, FnOk P w K mg base CX0 (n + 1) f fd ["actual", "expected"] (spSame K n)
  | 0 => ok_same1 F T0 0 (kn1 F g b ⟨fun _ _ _ _ h => h.elim, fun _ _ _ _ _ _ _ _ _ _ _ _ _ h => h.elim⟩)
  | n + 1 => ok_same1 F T0 (n + 1) (kn1 F g b (ok_same F T0 g b n))
end
end K1
namespace K1
open PySem PySem.Spec PyProof.Rows L2 Ow Po Dd Dk
abbrev sDisk_fail : Stmt := inClass (topS 12) 15
abbrev NDisk_fail : List Str := ["self"]
theorem scDisk_fail : FnScope NDisk_fail ["self"] (defScope sDisk_fail) := ⟨rfl, rfl, rfl, by decide +kernel, rfl, by decide +kernel, by decide +kernel⟩
abbrev sDisk_operate : Stmt := inClass (topS 12) 14
abbrev NDisk_operate : List Str := ["self"]
theorem scDisk_operate : FnScope NDisk_operate ["self"] (defScope sDisk_operate) := ⟨rfl, rfl, rfl, by decide +kernel, rfl, by decide +kernel, by decide +kernel⟩
abbrev sDisk_size : Stmt := inClass (topS 12) 1
abbrev NDisk_size : List Str := ["self"]
theorem scDisk_size : FnScope NDisk_size ["self"] (defScope sDisk_size) := ⟨rfl, rfl, rfl, by decide +kernel, rfl, by decide +kernel, by decide +kernel⟩
abbrev sDisk_pending : Stmt := inClass (topS 12) 3
abbrev NDisk_pending : List Str := ["self"]
theorem scDisk_pending : FnScope NDisk_pending ["self"] (defScope sDisk_pending) := ⟨rfl, rfl, rfl, by decide +kernel, rfl, by decide +kernel, by decide +kernel⟩
abbrev sDisk_counts : Stmt := inClass (topS 12) 4
abbrev NDisk_counts : List Str := ["self"]
theorem scDisk_counts : FnScope NDisk_counts ["self"] (defScope sDisk_counts) := ⟨rfl, rfl, rfl, by decide +kernel, rfl, by decide +kernel, by decide +kernel⟩
abbrev sDisk_is_on : Stmt := inClass (topS 12) 10
abbrev NDisk_is_on : List Str := ["self"]
theorem scDisk_is_on : FnScope NDisk_is_on ["self"] (defScope sDisk_is_on) := ⟨rfl, rfl, rfl, by decide +kernel, rfl, by decide +kernel, by decide +kernel⟩
abbrev sDisk_losses : Stmt := inClass (topS 12) 11
abbrev NDisk_losses : List Str := ["self"]
theorem scDisk_losses : FnScope NDisk_losses ["self"] (defScope sDisk_losses) := ⟨rfl, rfl, rfl, by decide +kernel, rfl, by decide +kernel, by decide +kernel⟩
abbrev sDisk_note_reads : Stmt := inClass (topS 12) 7
abbrev NDisk_note_reads : List Str := ["self", "count"]
theorem scDisk_note_reads : FnScope NDisk_note_reads ["self", "count"] (defScope sDisk_note_reads) := ⟨rfl, rfl, rfl, by decide +kernel, rfl, by decide +kernel, by decide +kernel⟩
abbrev sDisk_fail_after : Stmt := inClass (topS 12) 8
abbrev NDisk_fail_after : List Str := ["self", "operations"]
theorem scDisk_fail_after : FnScope NDisk_fail_after ["self", "operations"] (defScope sDisk_fail_after) := ⟨rfl, rfl, rfl, by decide +kernel, rfl, by decide +kernel, by decide +kernel⟩
abbrev sDisk_read : Stmt := inClass (topS 12) 2
abbrev NDisk_read : List Str := ["self", "index"]
theorem scDisk_read : FnScope NDisk_read ["self", "index"] (defScope sDisk_read) := ⟨rfl, rfl, rfl, by decide +kernel, rfl, by decide +kernel, by decide +kernel⟩
/-- a method that asks alone: its answer is a scalar of the state -/
def spGet (C : Addr) (f : Ds → V) : Sp := fun vs H Q _ => ∃ (x sA eA wA : Addr) (d : Ds), vs = [.ref x] ∧ DiskAt C H x sA eA wA d ∧ Q (f d) H
def spFail (C : Addr) : Sp := fun vs H Q _ => ∃ (x sA eA wA : Addr) (d : Ds), vs = [.ref x] ∧ DiskAt C H x sA eA wA d ∧ ∀ H', DiskAt C H' x sA eA wA (failF d) → Gw x H H' → Q .non H'
def spOper (C CP : Addr) : Sp := fun vs H Q E => ∃ (x sA eA wA : Addr) (d : Ds), vs = [.ref x] ∧ DiskAt C H x sA eA wA d ∧ ((operF d).2 = true → ∀ H', DiskAt C H' x sA eA wA (operF d).1 → Gw x H H' → Q .non H') ∧ ((operF d).2 = false → ∀ H', DiskAt C H' x sA eA wA (operF d).1 → Gw x H H' → E (.ref CP) none H')
def spNote (C : Addr) : Sp := fun vs H Q _ => ∃ (x sA eA wA : Addr) (d : Ds) (c : Int), vs = [.ref x, .int c] ∧ DiskAt C H x sA eA wA d ∧ ∀ H', DiskAt C H' x sA eA wA { d with cr := d.cr + c } → Gw x H H' → Q .non H'
def spAfter (C CP : Addr) : Sp := fun vs H Q E => ∃ (x sA eA wA : Addr) (d : Ds) (c : Int), vs = [.ref x, .int c] ∧ DiskAt C H x sA eA wA d ∧ (d.on = true → ∀ H', DiskAt C H' x sA eA wA { d with left := some c } → Gw x H H' → Q .non H') ∧ (d.on = false → E (.ref CP) none H)
def spCounts (C : Addr) : Sp := fun vs H Q _ => ∃ (x sA eA wA : Addr) (d : Ds), vs = [.ref x] ∧ DiskAt C H x sA eA wA d ∧ ∀ p, H p = none → Q (.ref p) (upd H p (.tup [.int d.cr, .int d.cw, .int d.cl, .int d.cs]))
def spRead (C : Addr) : Sp := fun vs H Q _ => ∃ (x sA eA wA : Addr) (d : Ds) (i : Nat), vs = [.ref x, .int (i : Nat)] ∧ DiskAt C H x sA eA wA d ∧ i < d.n ∧ ∀ p, H p = none → Q (.ref p) (upd H p (.lst ((seenF d.st d.ws i).map V.int)))
section
variable {P : Program} {w : World} {K : PySem.W.Frag} {mg : Str → Option Value} {base : Heap}
theorem ok_fail {f C : Addr} {fd : FuncData} (F : Fun K "fail" "Disk.fail" sDisk_fail f fd) (X : TxtD K mg C) : FnOk P w K mg base CX0 1 f fd ["self"] (spFail C) := by
  refine F.ok scDisk_fail (fun vs H Q E h => ?_) (fun cdv A outer s H vs Q E hr h => ?_)
  · obtain ⟨x, _, _, _, d, rfl, _⟩ := h
    rfl
  · obtain ⟨x, sA, eA, wA, d, rfl, D, q⟩ := h
    obtain ⟨dx, ob⟩ := D.ob
    refine ⟨_, (pss_cons (ps_fld (pv 0) pe_bl rfl)
      (pss_cons (ps_fldaug (pv 0) pe_int in_add)
      (pss_one (ps_fld (pv 0) pe_non rfl)))), ?_⟩
    refine ⟨_, rfl, x, C, dx, _, rfl, ob, X.cl, X.powered, by show 11 < 1000; decide, ?_⟩
    refine ⟨_, rfl, x, C, dx, _, _, rfl, upd_same, X.cl, X.lost, rfl, _, _, rfl, rfl, dx, _, upd_same, by show 11 < 1000; decide, ?_⟩
    refine ⟨_, rfl, x, C, dx, _, rfl, upd_same, X.cl, X.allowed, by show 11 < 1000; decide, ?_⟩
    rw [upd_upd, upd_upd]
    exact q _ (D.put (d' := failF d) rfl rfl rfl fun _ => rfl) Gw.put
theorem ok_oper {f C CP : Addr} {fd : FuncData} (F : Fun K "operate" "Disk.operate" sDisk_operate f fd) (X : TxtD K mg C) (XPowerOff : ExK K mg CP "PowerOff") (Dfail : Kmt P w K mg base C 1 "fail" ["self"] (spFail C)) : FnOk P w K mg base (L2.CX P w) 2 f fd ["self"] (spOper C CP) := by
  refine F.okX scDisk_operate (fun vs H Q E h => ?_) (fun cdv A outer s H vs Q E hr h => ?_)
  · obtain ⟨x, _, _, _, d, rfl, _⟩ := h
    rfl
  · obtain ⟨x, sA, eA, wA, d, rfl, D, q0, q1⟩ := h
    obtain ⟨dx, ob⟩ := D.ob
    refine ⟨_, (pss_cons (ps_if (pt_not (pt_val (pe_fld (pv 0) rfl))) (pss_one (ps_raise rfl (takes_of rfl rfl rfl rfl) (pmk_own PySem.F.excBase_ValueError XPowerOff.x XPowerOff.g XPowerOff.k (raises_own XPowerOff.b XPowerOff.t) rfl))) pss_nil)
      (pss_one (ps_if (pt_cmpR op_notN (pe_fld (pv 0) rfl) pe_non (nomark _)) (pss_cons (ps_if (pt_cmpR op_lt (pe_fld (pv 0) rfl) pe_int (nomark _)) (pss_cons (ps_expr (pe_mt0 Dfail hr (pv 0)))
      (pss_one (ps_raise rfl (takes_of rfl rfl rfl rfl) (pmk_own PySem.F.excBase_ValueError XPowerOff.x XPowerOff.g XPowerOff.k (raises_own XPowerOff.b XPowerOff.t) rfl)))) pss_nil)
      (pss_one (ps_fldaug (pv 0) pe_int in_sub))) pss_nil))), ?_⟩
    refine ⟨_, rfl, x, C, dx, _, _, rfl, ob, X.cl, X.powered, rfl, _, rfl, ?_⟩
    cases e : d.on with
    | false =>
      have eo : operF d = (d, false) := by unfold operF; rw [if_pos e]
      rw [eo] at q1
      exact iteT (q1 rfl H D (Gw.refl _ _))
    | true =>
      refine iteF ?_
      refine ⟨_, rfl, x, C, dx, _, _, rfl, ob, X.cl, X.allowed, rfl, rfl, _, rfl, ?_⟩
      cases el : d.left with
      | none =>
        have eo : operF d = (d, true) := by unfold operF; rw [if_neg (by rw [e]; decide), el]
        rw [eo] at q0
        exact iteF (q0 rfl H D (Gw.refl _ _))
      | some k =>
        refine iteT ?_
        refine ⟨_, rfl, x, C, dx, _, _, rfl, ob, X.cl, X.allowed, rfl, _, _, by rw [el]; rfl, rfl, _, rfl, ?_⟩
        by_cases z : k < 1
        · have eo : operF d = (failF d, false) := by unfold operF; rw [if_neg (by rw [e]; decide), el]; exact if_pos z
          rw [eo] at q1
          rw [decide_eq_true z]
          refine iteT ?_
          refine ⟨_, rfl, x, dx, _, rfl, ob, rfl, x, sA, eA, wA, d, rfl, D, fun H1 D1 g1 => ?_⟩
          exact q1 rfl H1 D1 g1
        · have eo : operF d = ({ d with left := some (k - 1) }, true) := by unfold operF; rw [if_neg (by rw [e]; decide), el]; exact if_neg z
          rw [eo] at q0
          rw [decide_eq_false z]
          refine iteF ?_
          refine ⟨_, rfl, x, C, dx, _, _, rfl, ob, X.cl, X.allowed, rfl, _, _, by rw [el]; rfl, rfl, dx, _, ob, by show 11 < 1000; decide, ?_⟩
          exact q0 rfl _ (D.put (d' := { d with left := some (k - 1) }) rfl rfl rfl fun z => by rw [e] at z; cases z) Gw.put
theorem ok_size {f C : Addr} {fd : FuncData} (F : Fun K "size" "Disk.size" sDisk_size f fd) (T0 : Bl mg) (X : TxtD K mg C) : FnOk P w K mg base CX0 1 f fd ["self"] (spGet C fun d => .int (d.n : Nat)) := by
  refine F.ok scDisk_size (fun vs H Q E h => ?_) (fun cdv A outer s H vs Q E hr h => ?_)
  · obtain ⟨x, _, _, _, d, rfl, _⟩ := h
    rfl
  · obtain ⟨x, sA, eA, wA, d, rfl, D, q⟩ := h
    obtain ⟨dx, ob⟩ := D.ob
    obtain ⟨ss, es, ls, _⟩ := D.s.ex
    refine ⟨_, (pss_one (ps_ret (pe_callB call_len_seq (by rfl) T0.len PySem.boot_len (pa_cons (pe_fld (pv 0) rfl) pa_nil)))), ?_⟩
    refine ⟨_, rfl, x, C, dx, _, _, rfl, ob, X.cl, X.stored, rfl, sA, _, rfl, .inl (SqL.of es), ?_⟩
    rw [List.length_map, ls]
    exact q
theorem ok_pending {f C : Addr} {fd : FuncData} (F : Fun K "pending" "Disk.pending" sDisk_pending f fd) (T0 : Bl mg) (X : TxtD K mg C) : FnOk P w K mg base CX0 1 f fd ["self"] (spGet C fun d => .int (d.ws.length : Nat)) := by
  refine F.ok scDisk_pending (fun vs H Q E h => ?_) (fun cdv A outer s H vs Q E hr h => ?_)
  · obtain ⟨x, _, _, _, d, rfl, _⟩ := h
    rfl
  · obtain ⟨x, sA, eA, wA, d, rfl, D, q⟩ := h
    obtain ⟨dx, ob⟩ := D.ob
    obtain ⟨ts, et, lt, _⟩ := D.w.ex
    refine ⟨_, (pss_one (ps_ret (pe_callB call_len_seq (by rfl) T0.len PySem.boot_len (pa_cons (pe_fld (pv 0) rfl) pa_nil)))), ?_⟩
    refine ⟨_, rfl, x, C, dx, _, _, rfl, ob, X.cl, X.waiting, rfl, wA, _, rfl, .inl (SqL.of et), ?_⟩
    rw [List.length_map, lt]
    exact q
theorem ok_ison {f C : Addr} {fd : FuncData} (F : Fun K "is_on" "Disk.is_on" sDisk_is_on f fd) (X : TxtD K mg C) : FnOk P w K mg base CX0 1 f fd ["self"] (spGet C fun d => .bl d.on) := by
  refine F.ok scDisk_is_on (fun vs H Q E h => ?_) (fun cdv A outer s H vs Q E hr h => ?_)
  · obtain ⟨x, _, _, _, d, rfl, _⟩ := h
    rfl
  · obtain ⟨x, sA, eA, wA, d, rfl, D, q⟩ := h
    obtain ⟨dx, ob⟩ := D.ob
    refine ⟨_, (pss_one (ps_ret (pe_fld (pv 0) rfl))), ?_⟩
    exact ⟨_, rfl, x, C, dx, _, _, rfl, ob, X.cl, X.powered, rfl, q⟩
theorem ok_losses {f C : Addr} {fd : FuncData} (F : Fun K "losses" "Disk.losses" sDisk_losses f fd) (X : TxtD K mg C) : FnOk P w K mg base CX0 1 f fd ["self"] (spGet C fun d => .int d.lost) := by
  refine F.ok scDisk_losses (fun vs H Q E h => ?_) (fun cdv A outer s H vs Q E hr h => ?_)
  · obtain ⟨x, _, _, _, d, rfl, _⟩ := h
    rfl
  · obtain ⟨x, sA, eA, wA, d, rfl, D, q⟩ := h
    obtain ⟨dx, ob⟩ := D.ob
    refine ⟨_, (pss_one (ps_ret (pe_fld (pv 0) rfl))), ?_⟩
    exact ⟨_, rfl, x, C, dx, _, _, rfl, ob, X.cl, X.lost, rfl, q⟩
theorem ok_note {f C : Addr} {fd : FuncData} (F : Fun K "note_reads" "Disk.note_reads" sDisk_note_reads f fd) (X : TxtD K mg C) : FnOk P w K mg base CX0 1 f fd ["self", "count"] (spNote C) := by
  refine F.ok scDisk_note_reads (fun vs H Q E h => ?_) (fun cdv A outer s H vs Q E hr h => ?_)
  · obtain ⟨x, _, _, _, d, c, rfl, _⟩ := h
    rfl
  · obtain ⟨x, sA, eA, wA, d, c, rfl, D, q⟩ := h
    obtain ⟨dx, ob⟩ := D.ob
    refine ⟨_, (pss_one (ps_fldaug (pv 0) (pv 1) in_add)), ?_⟩
    refine ⟨_, rfl, x, C, dx, _, _, rfl, ob, X.cl, X.reads, rfl, _, rfl, _, _, rfl, rfl, dx, _, ob, by show 11 < 1000; decide, ?_⟩
    exact q _ (D.put (d' := { d with cr := d.cr + c }) rfl rfl rfl D.ok.off) Gw.put
theorem ok_after {f C CP : Addr} {fd : FuncData} (F : Fun K "fail_after" "Disk.fail_after" sDisk_fail_after f fd) (X : TxtD K mg C) (XPowerOff : ExK K mg CP "PowerOff") : FnOk P w K mg base (L2.CX P w) 1 f fd ["self", "operations"] (spAfter C CP) := by
  refine F.okX scDisk_fail_after (fun vs H Q E h => ?_) (fun cdv A outer s H vs Q E hr h => ?_)
  · obtain ⟨x, _, _, _, d, c, rfl, _⟩ := h
    rfl
  · obtain ⟨x, sA, eA, wA, d, c, rfl, D, q0, q1⟩ := h
    obtain ⟨dx, ob⟩ := D.ob
    refine ⟨_, (pss_cons (ps_if (pt_not (pt_val (pe_fld (pv 0) rfl))) (pss_one (ps_raise rfl (takes_of rfl rfl rfl rfl) (pmk_own PySem.F.excBase_ValueError XPowerOff.x XPowerOff.g XPowerOff.k (raises_own XPowerOff.b XPowerOff.t) rfl))) pss_nil)
      (pss_one (ps_fld (pv 0) (pv 1) rfl))), ?_⟩
    refine ⟨_, rfl, x, C, dx, _, _, rfl, ob, X.cl, X.powered, rfl, _, rfl, ?_⟩
    cases e : d.on with
    | false => exact iteT (q1 e)
    | true =>
      refine iteF ⟨_, rfl, _, rfl, x, C, dx, _, rfl, ob, X.cl, X.allowed, by show 11 < 1000; decide, ?_⟩
      exact q0 e _ (D.put (d' := { d with left := some c }) rfl rfl rfl fun z => by rw [e] at z; cases z) Gw.put
theorem ok_counts {f C : Addr} {fd : FuncData} (F : Fun K "counts" "Disk.counts" sDisk_counts f fd) (X : TxtD K mg C) : FnOk P w K mg base CX0 1 f fd ["self"] (spCounts C) := by
  refine F.ok scDisk_counts (fun vs H Q E h => ?_) (fun cdv A outer s H vs Q E hr h => ?_)
  · obtain ⟨x, _, _, _, d, rfl, _⟩ := h
    rfl
  · obtain ⟨x, sA, eA, wA, d, rfl, D, q⟩ := h
    obtain ⟨dx, ob⟩ := D.ob
    refine ⟨_, (pss_one (ps_ret (pe_tup (pa_cons (pe_fld (pv 0) rfl) (pa_cons (pe_fld (pv 0) rfl) (pa_cons (pe_fld (pv 0) rfl) (pa_cons (pe_fld (pv 0) rfl) pa_nil))))))), ?_⟩
    exact ⟨_, rfl, x, C, dx, _, _, rfl, ob, X.cl, X.reads, rfl, _, rfl, x, C, dx, _, _, rfl, ob, X.cl, X.writes, rfl, _, rfl, x, C, dx, _, _, rfl, ob, X.cl, X.logs, rfl, _, rfl, x, C, dx, _, _, rfl, ob, X.cl, X.syncs, rfl, by show 4 ≤ sizeLine; decide, q⟩
theorem ok_read {f C : Addr} {fd : FuncData} (F : Fun K "read" "Disk.read" sDisk_read f fd) (T0 : Bl mg) (X : TxtD K mg C) : FnOk P w K mg base CX0 1 f fd ["self", "index"] (spRead C) := by
  refine F.ok scDisk_read (fun vs H Q E h => ?_) (fun cdv A outer s H vs Q E hr h => ?_)
  · obtain ⟨x, _, _, _, d, i, rfl, _⟩ := h
    rfl
  · obtain ⟨x, sA, eA, wA, d, i, rfl, D, hi, q⟩ := h
    obtain ⟨dx, ob⟩ := D.ob
    obtain ⟨ss, es, ls, gs⟩ := D.e.ex
    have hl : i < ss.length := by rw [ls]; exact hi
    have ei : ss[i]? = some ss[i] := List.getElem?_eq_getElem hl
    refine ⟨_, (pss_one (ps_ret (pe_callTy call_list_of (by rfl) T0.list (by decide +kernel) (pa_cons (pe_ix ix_list (pe_fld (pv 0) rfl) (pv 1) (fun _ _ => rfl)) pa_nil)))), ?_⟩
    exact ⟨_, rfl, x, C, dx, _, _, rfl, ob, X.cl, X.seen, rfl, _, rfl, eA, _, _, .ref ss[i], rfl, rfl, SqL.of es, atI_nat (by rw [List.getElem?_map, ei]; rfl), ss[i], _, rfl, .inl (gs i _ ei).seq, q⟩
end
end K1
namespace K1
open PySem PySem.Spec PyProof.Rows L2 Ow Po Dd Dk
abbrev sregion_start : Stmt := topS 7
abbrev Nregion_start : List Str := ["size"]
theorem scregion_start : FnScope Nregion_start ["size"] (defScope sregion_start) := ⟨rfl, rfl, rfl, by decide +kernel, rfl, by decide +kernel, by decide +kernel⟩
abbrev sDisk_write : Stmt := inClass (topS 12) 5
abbrev NDisk_write : List Str := ["self", "index", "data", "sector"]
theorem scDisk_write : FnScope NDisk_write ["self", "index", "data"] (defScope sDisk_write) := ⟨rfl, rfl, rfl, by decide +kernel, rfl, by decide +kernel, by decide +kernel⟩
abbrev sDisk_sync : Stmt := inClass (topS 12) 6
abbrev NDisk_sync : List Str := ["self"]
theorem scDisk_sync : FnScope NDisk_sync ["self"] (defScope sDisk_sync) := ⟨rfl, rfl, rfl, by decide +kernel, rfl, by decide +kernel, by decide +kernel⟩
def lowF (n : Nat) : Int := (n : Int) - ((n : Int) - 2) / 2
def writeF (d : Ds) (i : Nat) (r : List Int) : Ds := if (i : Int) < lowF d.n then { d with ws := d.ws ++ [(i, r)], cl := d.cl + 1 } else { d with ws := d.ws ++ [(i, r)], cw := d.cw + 1 }
def syncF (d : Ds) : Ds := { d with st := seenF d.st d.ws, ws := [], cs := d.cs + 1 }
def spRs : Sp := fun vs H Q _ => ∃ n : Int, vs = [.int n] ∧ Q (.int (n - (n - 2) / 2)) H
/-- what a changing method leaves -/
def Chg (C : Addr) (H : Hp) (x sA eA wA : Addr) (d : Ds) (q : Hp → Prop) : Prop := ∀ H' sA' eA' wA', DiskAt C H' x sA' eA' wA' d → Nw [sA, eA, wA] [sA', eA', wA'] H → Bx [x, sA, eA, wA] H H' → q H'
/-- p is no row of the disk -/
structure NoRow (H : Hp) (sA eA wA p : Addr) : Prop where
  s : ∀ ss : List Addr, H sA = some (.lst (ss.map V.ref)) → p ∉ ss
  e : ∀ ss : List Addr, H eA = some (.lst (ss.map V.ref)) → p ∉ ss
  w : ∀ (ts : List Addr) (t : Addr) (v : V) (q : Addr), H wA = some (.lst (ts.map V.ref)) → t ∈ ts → H t = some (.tup [v, .ref q]) → q ≠ p
theorem refs_inj {xs ys : List Addr} (e : xs.map V.ref = ys.map V.ref) : xs = ys := by
  induction xs generalizing ys with
  | nil => cases ys with
    | nil => rfl
    | cons y ys => cases e
  | cons x xs ih => cases ys with
    | nil => cases e
    | cons y ys =>
      rw [List.map_cons, List.map_cons] at e
      injection e with e1 e2
      injection e1 with e1
      rw [e1, ih e2]
theorem NoRow.new {C : Addr} {H : Hp} {x sA eA wA p : Addr} {d : Ds} (D : DiskAt C H x sA eA wA d) (np : H p = none) : NoRow H sA eA wA p := by
  obtain ⟨ss, e1, _, r1⟩ := D.s.ex
  obtain ⟨es, e2, _, r2⟩ := D.e.ex
  obtain ⟨ts, e3, l3, r3⟩ := D.w.ex
  refine ⟨fun z e m => ?_, fun z e m => ?_, fun z t v q e m et y => ?_⟩
  · rw [e1] at e
    injection e with e
    injection e with e
    rw [← refs_inj e] at m
    obtain ⟨i, hi, ei⟩ := List.mem_iff_getElem.mp m
    have := r1 i p (List.getElem?_eq_some_iff.mpr ⟨hi, ei⟩)
    rw [LI, np] at this
    cases this
  · rw [e2] at e
    injection e with e
    injection e with e
    rw [← refs_inj e] at m
    obtain ⟨i, hi, ei⟩ := List.mem_iff_getElem.mp m
    have := r2 i p (List.getElem?_eq_some_iff.mpr ⟨hi, ei⟩)
    rw [LI, np] at this
    cases this
  · rw [e3] at e
    injection e with e
    injection e with e
    rw [← refs_inj e] at m
    obtain ⟨i, hi, ei⟩ := List.mem_iff_getElem.mp m
    obtain ⟨q', f1, f2⟩ := r3 i t (d.ws[i]'(by rw [← l3]; exact hi)).1 (d.ws[i]'(by rw [← l3]; exact hi)).2 (List.getElem?_eq_some_iff.mpr ⟨hi, ei⟩) (List.getElem?_eq_some_iff.mpr ⟨by rw [← l3]; exact hi, rfl⟩)
    rw [et] at f1
    injection f1 with f1
    injection f1 with f1
    injection f1 with _ f1
    injection f1 with f1 _
    injection f1 with f1
    rw [← f1, y, LI, np] at f2
    cases f2
theorem NoRow.same {C : Addr} {H H' : Hp} {x sA eA wA p : Addr} {d : Ds} (D : DiskAt C H x sA eA wA d) (n : NoRow H sA eA wA p) (k : ∀ b o, b ≠ p → H b = some o → (b = sA ∨ b = eA ∨ b = wA ∨ ∃ l, o = .tup l) → H' b = some o) (np : p ∉ [sA, eA, wA]) (nt : ∀ l, H p ≠ some (.tup l)) : NoRow H' sA eA wA p := by
  obtain ⟨ss, e1, _, r1⟩ := D.s.ex
  obtain ⟨es, e2, _, r2⟩ := D.e.ex
  obtain ⟨ts, e3, l3, r3⟩ := D.w.ex
  simp only [List.mem_cons, List.not_mem_nil, or_false, not_or] at np
  have f1 := k _ _ (Ne.symm np.1) e1 (.inl rfl)
  have f2 := k _ _ (Ne.symm np.2.1) e2 (.inr (.inl rfl))
  have f3 := k _ _ (Ne.symm np.2.2) e3 (.inr (.inr (.inl rfl)))
  refine ⟨fun z e m => ?_, fun z e m => ?_, fun z t v q e m et => ?_⟩
  · rw [f1] at e
    injection e with e
    injection e with e
    rw [← refs_inj e] at m
    exact n.s ss e1 m
  · rw [f2] at e
    injection e with e
    injection e with e
    rw [← refs_inj e] at m
    exact n.e es e2 m
  · rw [f3] at e
    injection e with e
    injection e with e
    rw [← refs_inj e] at m
    obtain ⟨i, hi, ei⟩ := List.mem_iff_getElem.mp m
    obtain ⟨q', g1, g2⟩ := r3 i t (d.ws[i]'(by rw [← l3]; exact hi)).1 (d.ws[i]'(by rw [← l3]; exact hi)).2 (List.getElem?_eq_some_iff.mpr ⟨hi, ei⟩) (List.getElem?_eq_some_iff.mpr ⟨by rw [← l3]; exact hi, rfl⟩)
    have tp : t ≠ p := fun z => nt _ (by rw [← z]; exact g1)
    have g3 := k _ _ tp g1 (.inr (.inr (.inr ⟨_, rfl⟩)))
    rw [et] at g3
    injection g3 with g3
    injection g3 with g3
    injection g3 with _ g3
    injection g3 with g3 _
    injection g3 with g3
    exact n.w ts t _ q' e3 m g1 ∘ fun z => g3 ▸ z
/-- what is no row of it may change -/
theorem DiskAt.off {C : Addr} {H : Hp} {x sA eA wA p : Addr} {o : HO} {d : Ds} (D : DiskAt C H x sA eA wA d) (n : NoRow H sA eA wA p) (np : p ∉ [x, sA, eA, wA]) (nt : ∀ l, H p ≠ some (.tup l)) : DiskAt C (upd H p o) x sA eA wA d := by
  obtain ⟨dx, ob⟩ := D.ob
  obtain ⟨ss, e1, l1, r1⟩ := D.s.ex
  obtain ⟨es, e2, l2, r2⟩ := D.e.ex
  obtain ⟨ts, e3, l3, r3⟩ := D.w.ex
  simp only [List.mem_cons, List.not_mem_nil, or_false, not_or] at np
  refine ⟨⟨dx, by rw [upd_ne (Ne.symm np.1)]; exact ob⟩, ⟨ss, by rw [upd_ne (Ne.symm np.2.1)]; exact e1, l1, fun i s ei => ?_⟩, ⟨es, by rw [upd_ne (Ne.symm np.2.2.1)]; exact e2, l2, fun i s ei => ?_⟩, ⟨ts, by rw [upd_ne (Ne.symm np.2.2.2)]; exact e3, l3, fun i t j q e f => ?_⟩, D.se, D.sw, D.ew, D.ok⟩
  · rw [LI, upd_ne (fun z => n.s ss e1 (by rw [← z]; exact List.mem_of_getElem? ei))]
    exact r1 i s ei
  · rw [LI, upd_ne (fun z => n.e _ e2 (by rw [← z]; exact List.mem_of_getElem? ei))]
    exact r2 i s ei
  · obtain ⟨q', g1, g2⟩ := r3 i t j q e f
    refine ⟨q', by rw [upd_ne (fun z => nt _ (by rw [← z]; exact g1))]; exact g1, ?_⟩
    rw [LI, upd_ne (n.w ts t _ q' e3 (List.mem_of_getElem? e) g1)]
    exact g2
def spWrite (C CP : Addr) : Sp := fun vs H Q E => ∃ (x sA eA wA : Addr) (d : Ds) (i : Nat) (a : Addr) (r : List Int), vs = [.ref x, .int (i : Nat), .ref a] ∧ DiskAt C H x sA eA wA d ∧ i < d.n ∧ LI H a r ∧ r.length = 64 ∧ d.ws.length < 1000 ∧ NoRow H sA eA wA a ∧
  ((operF d).2 = true → ∀ H', DiskAt C H' x sA eA wA (writeF (operF d).1 i r) → Bx [x, sA, eA, wA] H H' → NoRow H' sA eA wA a → Q .non H') ∧ ((operF d).2 = false → Chg C H x sA eA wA (operF d).1 fun H' => E (.ref CP) none H')
def spSync (C CP : Addr) : Sp := fun vs H Q E => ∃ (x sA eA wA : Addr) (d : Ds), vs = [.ref x] ∧ DiskAt C H x sA eA wA d ∧ ((operF d).2 = true → Chg C H x sA eA wA (syncF (operF d).1) fun H' => Q .non H') ∧ ((operF d).2 = false → Chg C H x sA eA wA (operF d).1 fun H' => E (.ref CP) none H')
theorem nw_refl (M : List Addr) (H : Hp) : Nw M M H := fun _ m => .inl m
theorem bx_of_gw {x : Addr} {M : List Addr} {H H' : Hp} (m : x ∈ M) (g : Gw x H H') : Bx M H H' := fun b o n e => g b o (fun z => n (z ▸ m)) e
theorem oper_keep (d : Ds) : (operF d).1.n = d.n ∧ (operF d).1.ws = d.ws ∧ (operF d).1.st = d.st := by
  unfold operF failF
  split
  · exact ⟨rfl, rfl, rfl⟩
  · split
    · exact ⟨rfl, rfl, rfl⟩
    · split <;> exact ⟨rfl, rfl, rfl⟩
section
variable {P : Program} {w : World} {K : PySem.W.Frag} {mg : Str → Option Value} {base : Heap}
theorem ok_rs {f : Addr} {fd : FuncData} (F : Fun K "region_start" "region_start" sregion_start f fd) : FnOk P w K mg base CX0 1 f fd ["size"] spRs := by
  refine F.ok scregion_start (fun vs H Q E h => ?_) (fun cdv A outer s H vs Q E hr h => ?_)
  · obtain ⟨n, rfl, _⟩ := h
    rfl
  · obtain ⟨n, rfl, q⟩ := h
    refine ⟨_, (pss_one (ps_ret (pe_op op_sub (pv 0) (pe_op op_fdiv (pe_op op_sub (pv 0) pe_int) pe_int)))), ?_⟩
    exact ⟨_, rfl, _, rfl, _, _, rfl, rfl, _, _, rfl, rfl, ⟨by decide, by decide⟩, _, _, rfl, rfl, q⟩
theorem ok_sync {f C CP : Addr} {fd : FuncData} (F : Fun K "sync" "Disk.sync" sDisk_sync f fd) (T0 : Bl mg) (X : TxtD K mg C) (Doperate : Kmx P w K mg base C 2 "operate" ["self"] (spOper C CP)) : FnOk P w K mg base (L2.CX P w) 3 f fd ["self"] (spSync C CP) := by
  refine F.okX scDisk_sync (fun vs H Q E h => ?_) (fun cdv A outer s H vs Q E hr h => ?_)
  · obtain ⟨x, _, _, _, d, rfl, _⟩ := h
    rfl
  · obtain ⟨x, sA, eA, wA, d, rfl, D, q0, q1⟩ := h
    obtain ⟨dx, ob⟩ := D.ob
    refine ⟨_, (pss_cons (ps_expr (pe_mx0 Doperate hr (takes_of rfl rfl rfl rfl) (pv 0)))
      (pss_cons (ps_fld (pv 0) (pe_callTy call_list_of (by rfl) T0.list (by decide +kernel) (pa_cons (pe_fld (pv 0) rfl) pa_nil)) rfl)
      (pss_cons (ps_fld (pv 0) (pe_lst pa_nil) rfl)
      (pss_one (ps_fldaug (pv 0) pe_int in_add))))), ?_⟩
    refine ⟨_, rfl, x, dx, _, rfl, ob, rfl, x, sA, eA, wA, d, rfl, D, fun ho H1 D1 g1 => ?_, fun ho H1 D1 g1 => q1 ho _ _ _ _ D1 (nw_refl _ _) (bx_of_gw List.mem_cons_self g1)⟩
    have q0 := q0 ho
    generalize (operF d).1 = d1 at D1 q0
    obtain ⟨dx1, ob1⟩ := D1.ob
    obtain ⟨ss, es, ls, gs⟩ := D1.e.ex
    have fr : ∀ {p : Addr}, H1 p = none → p ≠ x := fun n z => by rw [z, ob1] at n; cases n
    have old : ∀ {p : Addr}, H1 p = none → H p = none := fun n => Gw.free g1 n (fr n)
    refine ⟨_, rfl, x, C, dx1, _, _, rfl, ob1, X.cl, X.seen, rfl, eA, _, rfl, .inl (SqL.of es), fun p np => ⟨_, rfl, x, C, dx1, _, rfl, Same.new np _ _ ob1, X.cl, X.stored, by show 11 < 1000; decide, ?_⟩⟩
    have px := fr np
    refine ⟨by show 0 ≤ sizeLine; decide, fun r nr => ⟨_, rfl, x, C, dx1, _, rfl, Same.new nr _ _ upd_same, X.cl, X.waiting, by show 11 < 1000; decide, ?_⟩⟩
    have rx : r ≠ x := fun z => by rw [z, upd_same] at nr; cases nr
    have rp : r ≠ p := fun z => by rw [z, upd_ne px, upd_same] at nr; cases nr
    have n1 : H1 r = none := by rw [upd_ne rx, upd_ne rp] at nr; exact nr
    refine ⟨_, rfl, x, C, dx1, _, _, rfl, upd_same, X.cl, X.syncs, rfl, _, _, rfl, rfl, dx1, _, upd_same, by show 11 < 1000; decide, ?_⟩
    rw [upd_upd]
    have bot : ∀ b o, b ≠ x → H1 b = some o → (upd (upd (upd (upd H1 p (.lst (ss.map V.ref))) x (.ins C dx1 (putF "stored" (.ref p) (fldD sA eA wA d1)))) r (.lst [])) x (.ins C dx1 (fldD p eA r (syncF d1)))) b = some o := fun b o nb e => by
      rw [upd_ne nb, upd_ne (ne_of_none e n1), upd_ne nb, upd_ne (ne_of_none e np)]
      exact e
    have e64 := seen64 d1.ws d1.st D1.ok.st D1.ok.ws
    have lix : ∀ {b : Addr} {l : List V}, H1 b = some (.lst l) → b ≠ x := fun e z => by rw [z, ob1] at e; cases e
    refine q0 _ p eA r ⟨⟨dx1, upd_same⟩, ⟨ss, ?_, ls, fun i s e => bot _ _ (lix (gs i s e)) (gs i s e)⟩, ⟨ss, bot _ _ (lix es) es, ls, fun i s e => bot _ _ (lix (gs i s e)) (gs i s e)⟩, ⟨[], ?_, rfl, fun i t j q e => by simp at e⟩, (ne_of_none es np).symm, rp.symm, ne_of_none es n1, ⟨D1.ok.n0, D1.ok.n1, e64, fun j q m => (nomatch m), D1.ok.off⟩⟩ (fun b mb => ?_) (fun b o nb e => ?_)
    · rw [upd_ne px, upd_ne rp.symm, upd_ne px, upd_same]
    · rw [upd_ne rx, upd_same]
      rfl
    · simp only [List.mem_cons, List.not_mem_nil, or_false] at mb
      rcases mb with z | z | z
      · exact .inr (z ▸ old np)
      · exact .inl (by rw [z]; simp)
      · exact .inr (z ▸ old n1)
    · have nx : b ≠ x := fun z => nb (by rw [z]; exact List.mem_cons_self)
      exact bot b o nx (g1 b o nx e)
theorem ixN_nat {n j : Nat} (hj : j < n) : ixN n (j : Int) = some j := by
  unfold ixN
  rw [if_pos (by omega), if_pos (by omega)]
  rfl
theorem ok_write {f C CP : Addr} {fd : FuncData} (F : Fun K "write" "Disk.write" sDisk_write f fd) (T0 : Bl mg) (X : TxtD K mg C) (Doperate : Kmx P w K mg base C 2 "operate" ["self"] (spOper C CP)) (Dsize : Kmt P w K mg base C 1 "size" ["self"] (spGet C fun d => .int (d.n : Nat))) (Dregion_start : Kn P w K mg base 1 "region_start" ["size"] spRs) :
    FnOk P w K mg base (L2.CX P w) 3 f fd ["self", "index", "data"] (spWrite C CP) := by
  refine F.okX scDisk_write (fun vs H Q E h => ?_) (fun cdv A outer s H vs Q E hr h => ?_)
  · obtain ⟨x, _, _, _, d, i, a, r, rfl, _⟩ := h
    rfl
  · obtain ⟨x, sA, eA, wA, d, i, a, r, rfl, D, hi, ha, hr64, hw, nra, q0, q1⟩ := h
    obtain ⟨dx, ob⟩ := D.ob
    have nas : a ∉ [sA, eA, wA] := fun m => by
      obtain ⟨s1, f1, _⟩ := D.s.ex
      obtain ⟨s2, f2, _⟩ := D.e.ex
      obtain ⟨s3, f3, _⟩ := D.w.ex
      simp only [List.mem_cons, List.not_mem_nil, or_false] at m
      rcases m with z | z | z
      · exact row_ne ha hr64 f1 z
      · exact row_ne ha hr64 f2 z
      · exact row_ne ha hr64 f3 z
    have nta : ∀ l, H a ≠ some (.tup l) := fun l z => by rw [LI, z] at ha; cases ha
    refine ⟨_, (pss_cons (ps_expr (pe_mx0 Doperate hr (takes_of rfl rfl rfl rfl) (pv 0)))
      (pss_cons (ps_set (i := 3) scDisk_write.nd rfl (.inl rfl) (pe_callTy call_list_of (by rfl) T0.list (by decide +kernel) (pa_cons (pv 2) pa_nil)))
      (pss_cons (ps_expr (pe_bm PySem.F.plainAttrs_list PySem.F.slot_list_append PySem.F.type_list_append mt_append (pe_fld (pv 0) rfl) (pa_cons (pe_tup (pa_cons (pv 1) (pa_cons (pv 3) pa_nil))) pa_nil)))
      (pss_cons (ps_asg (pv 3) (pg_sub (pe_fld (pv 0) rfl) (pv 1) set_list))
      (pss_one (ps_if (pt_cmpR op_lt (pv 1) (pe_kn Dregion_start hr (pa_cons (pe_mt0 Dsize hr (pv 0)) pa_nil)) (nomark _)) (pss_one (ps_fldaug (pv 0) pe_int in_add)) (pss_one (ps_fldaug (pv 0) pe_int in_add)))))))), ?_⟩
    refine ⟨_, rfl, x, dx, _, rfl, ob, rfl, x, sA, eA, wA, d, rfl, D, fun ho H1 D1 g1 => ?_, fun ho H1 D1 g1 => q1 ho _ _ _ _ D1 (nw_refl _ _) (bx_of_gw List.mem_cons_self g1)⟩
    have q0 := q0 ho
    have hi1 : i < (operF d).1.n := by rw [(oper_keep d).1]; exact hi
    have hw1 : (operF d).1.ws.length < 1000 := by rw [(oper_keep d).2.1]; exact hw
    generalize (operF d).1 = d1 at D1 q0 hi1 hw1
    obtain ⟨dx1, ob1⟩ := D1.ob
    have lix : ∀ {b : Addr} {l : List V}, H1 b = some (.lst l) → b ≠ x := fun e z => by rw [z, ob1] at e; cases e
    have ha1 : LI H1 a r := g1 _ _ (fun z => by rw [z, LI, ob] at ha; cases ha) ha
    have nr1 : NoRow H1 sA eA wA a := NoRow.same D nra (fun b o _ e m => g1 b o (fun z => by
      rw [z] at e m
      rw [ob] at e
      cases e
      rcases m with m | m | m | ⟨l, m⟩
      · obtain ⟨ss, e1, _, _⟩ := D.s.ex
        rw [← m, ob] at e1
        cases e1
      · obtain ⟨ss, e1, _, _⟩ := D.e.ex
        rw [← m, ob] at e1
        cases e1
      · obtain ⟨ss, e1, _, _⟩ := D.w.ex
        rw [← m, ob] at e1
        cases e1
      · cases m) e) nas nta
    obtain ⟨ts, ew, lt, gw⟩ := D1.w.ex
    obtain ⟨es, ee, le, ge⟩ := D1.e.ex
    -- the copy, the pair
    refine ⟨_, rfl, a, _, rfl, .inl ha1.seq, fun p np => ?_⟩
    have s2 := Same.new (o := .lst (r.map V.int)) np
    refine ⟨_, rfl, x, C, dx1, _, _, rfl, s2 _ _ ob1, X.cl, X.waiting, rfl, .inl ⟨rfl, _, SqL.of (s2 _ _ ew)⟩, _, rfl, _, rfl, by show 2 ≤ sizeLine; decide, fun t nt => ?_⟩
    have s3 := s2.trans (Same.new (o := .tup [.int (i : Nat), .ref p]) nt)
    have ep : LI (upd (upd H1 p (.lst (r.map V.int))) t (.tup [.int (i : Nat), .ref p])) p r := Same.new nt _ _ upd_same
    have et : (upd (upd H1 p (.lst (r.map V.int))) t (.tup [.int (i : Nat), .ref p])) t = some (.tup [.int (i : Nat), .ref p]) := upd_same
    have n1t : H1 t = none := Same.free s2 nt
    generalize (upd (upd H1 p (.lst (r.map V.int))) t (.tup [.int (i : Nat), .ref p])) = H3 at s3 ep et ⊢
    refine ⟨wA, _, _, rfl, rfl, s3 _ _ ew, by rw [List.length_map, lt]; exact small (Nat.le_of_lt hw1) (by decide), ?_⟩
    -- seen
    have wx : wA ≠ x := lix ew
    have ex : eA ≠ x := lix ee
    have ob4 : (upd H3 wA (.lst (ts.map V.ref ++ [.ref t]))) x = some (.ins C dx1 (fldD sA eA wA d1)) := by rw [upd_ne wx.symm]; exact s3 _ _ ob1
    refine ⟨_, rfl, _, rfl, x, C, dx1, _, _, rfl, ob4, X.cl, X.seen, rfl, _, rfl, eA, _, (i : Nat), i, rfl, rfl, by rw [upd_ne D1.ew]; exact s3 _ _ ee, ixN_nat (by rw [List.length_map, le]; exact hi1), ?_⟩
    have D5 : DiskAt C (upd (upd H3 wA (.lst (ts.map V.ref ++ [.ref t]))) eA (.lst ((es.map V.ref).set i (.ref p)))) x sA eA wA { d1 with ws := d1.ws ++ [(i, r)] } := by
      have e64 := seen64 d1.ws d1.st D1.ok.st D1.ok.ws
      have k : ∀ b xs, LI H1 b xs → xs.length = 64 → LI (upd (upd H3 wA (.lst (ts.map V.ref ++ [.ref t]))) eA (.lst ((es.map V.ref).set i (.ref p)))) b xs := fun b xs e l => by
        rw [LI, upd_ne (row_ne e l ee), upd_ne (row_ne e l ew)]
        exact s3 _ _ e
      have kp : LI (upd (upd H3 wA (.lst (ts.map V.ref ++ [.ref t]))) eA (.lst ((es.map V.ref).set i (.ref p)))) p r := by
        rw [LI, upd_ne (row_ne ep hr64 (s3 _ _ ee)), upd_ne (row_ne ep hr64 (s3 _ _ ew))]
        exact ep
      have kt : ∀ b o, H1 b = some (.tup o) → (upd (upd H3 wA (.lst (ts.map V.ref ++ [.ref t]))) eA (.lst ((es.map V.ref).set i (.ref p)))) b = some (.tup o) := fun b o e => by
        rw [upd_ne (fun z => by rw [z, ee] at e; cases e), upd_ne (fun z => by rw [z, ew] at e; cases e)]
        exact s3 _ _ e
      refine ⟨⟨dx1, by rw [upd_ne ex.symm]; exact ob4⟩, ?_, ⟨es.set i p, ?_, by rw [List.length_set, le], fun j q ej => ?_⟩, ⟨ts ++ [t], ?_, by rw [List.length_append, List.length_append, lt]; rfl, fun j q m y e1 e2 => ?_⟩, D1.se, D1.sw, D1.ew, ⟨D1.ok.n0, D1.ok.n1, D1.ok.st, fun j q m => ?_, D1.ok.off⟩⟩
      · refine D1.s.keepR D1.ok.st (fun o e => ?_) k
        rw [upd_ne D1.se, upd_ne D1.sw]
        exact s3 _ _ e
      · rw [upd_same, List.map_set]
      · show LI _ q (seenF d1.st (d1.ws ++ [(i, r)]) j)
        rw [seen_snoc]
        show LI _ q (if j = i then r else seenF d1.st d1.ws j)
        by_cases z : j = i
        · subst z
          rw [List.getElem?_set_self (by rw [le]; exact hi1)] at ej
          cases ej
          rw [if_pos rfl]
          exact kp
        · rw [List.getElem?_set_ne (Ne.symm z)] at ej
          rw [if_neg z]
          exact k _ _ (ge j q ej) (e64 j (by rw [← le]; exact (List.getElem?_eq_some_iff.mp ej).1))
      · rw [upd_ne D1.ew.symm, upd_same, List.map_append]
        rfl
      · by_cases z : j < ts.length
        · rw [List.getElem?_append_left z] at e1
          rw [List.getElem?_append_left (by rw [← lt]; exact z)] at e2
          obtain ⟨q2, f1, f2⟩ := gw j q m y e1 e2
          exact ⟨q2, kt _ _ f1, k _ _ f2 (D1.ok.ws m y (List.mem_of_getElem? e2)).2⟩
        · have hj := (List.getElem?_eq_some_iff.mp e1).1
          rw [List.length_append, List.length_singleton] at hj
          have : j = ts.length := by omega
          subst this
          have a1 : t = q := by simpa using e1
          rw [lt] at e2
          have a2 : (i, r) = (m, y) := by simpa using e2
          cases a2
          subst a1
          refine ⟨p, ?_, kp⟩
          rw [upd_ne (fun z => by rw [z] at n1t; rw [ee] at n1t; cases n1t), upd_ne (fun z => by rw [z] at n1t; rw [ew] at n1t; cases n1t)]
          exact et
      · rcases List.mem_append.mp m with m | m
        · exact D1.ok.ws j q m
        · rw [List.mem_singleton] at m
          cases m
          exact ⟨hi1, hr64⟩
    have bx : Bx [x, sA, eA, wA] H (upd (upd H3 wA (.lst (ts.map V.ref ++ [.ref t]))) eA (.lst ((es.map V.ref).set i (.ref p)))) := fun b o nb e => by
      simp only [List.mem_cons, List.not_mem_nil, or_false, not_or] at nb
      rw [upd_ne nb.2.2.1, upd_ne nb.2.2.2]
      exact s3 _ _ (g1 b o nb.1 e)
    have nr5 : NoRow (upd (upd H3 wA (.lst (ts.map V.ref ++ [.ref t]))) eA (.lst ((es.map V.ref).set i (.ref p)))) sA eA wA a := by
      obtain ⟨ss, e1, _, _⟩ := D1.s.ex
      have pa : p ≠ a := fun z => by rw [z] at np; rw [LI, np] at ha1; cases ha1
      refine ⟨fun z e m => ?_, fun z e m => ?_, fun z u v q e m eu => ?_⟩
      · rw [upd_ne D1.se, upd_ne D1.sw, s3 _ _ e1] at e
        injection e with e
        injection e with e
        rw [← refs_inj e] at m
        exact nr1.s ss e1 m
      · rw [upd_same, ← List.map_set] at e
        injection e with e
        injection e with e
        rw [← refs_inj e] at m
        rcases List.mem_or_eq_of_mem_set m with m | m
        · exact nr1.e es ee m
        · exact pa m.symm
      · rw [upd_ne D1.ew.symm, upd_same] at e
        injection e with e
        injection e with e
        have e : (ts ++ [t]).map V.ref = z.map V.ref := by rw [List.map_append]; exact e
        rw [← refs_inj e] at m
        have ue : u ≠ eA := fun z => by rw [z, upd_same] at eu; cases eu
        have uw : u ≠ wA := fun z => by rw [z, upd_ne D1.ew.symm, upd_same] at eu; cases eu
        rw [upd_ne ue, upd_ne uw] at eu
        rcases List.mem_append.mp m with m | m
        · obtain ⟨k, hk, ek⟩ := List.mem_iff_getElem.mp m
          obtain ⟨q', f1, f2⟩ := gw k u (d1.ws[k]'(by rw [← lt]; exact hk)).1 (d1.ws[k]'(by rw [← lt]; exact hk)).2 (List.getElem?_eq_some_iff.mpr ⟨hk, ek⟩) (List.getElem?_eq_some_iff.mpr ⟨by rw [← lt]; exact hk, rfl⟩)
          have f3 := s3 _ _ f1
          rw [eu] at f3
          injection f3 with f3
          injection f3 with f3
          injection f3 with _ f3
          injection f3 with f3 _
          injection f3 with f3
          exact fun y => nr1.w ts u _ q' ew m f1 (f3 ▸ y)
        · rw [List.mem_singleton] at m
          rw [m, et] at eu
          injection eu with eu
          injection eu with eu
          injection eu with _ eu
          injection eu with eu _
          injection eu with eu
          exact eu ▸ pa
    generalize (upd (upd H3 wA (.lst (ts.map V.ref ++ [.ref t]))) eA (.lst ((es.map V.ref).set i (.ref p)))) = H5 at D5 bx nr5 ⊢
    obtain ⟨dx5, ob5⟩ := D5.ob
    refine ⟨_, rfl, _, rfl, x, dx5, _, rfl, ob5, rfl, x, sA, eA, wA, _, rfl, D5, _, rfl, _, _, rfl, rfl, _, rfl, ?_⟩
    have fin : ∀ d2 : Ds, d2.n = d1.n → d2.st = d1.st → d2.ws = d1.ws ++ [(i, r)] → d2.on = d1.on → d2.left = d1.left → writeF d1 i r = d2 → Q .non (upd H5 x (.ins C dx5 (fldD sA eA wA d2))) := fun d2 h1 h2 h3 h4 h5 h6 => by
      rw [h6] at q0
      refine q0 _ (D5.put (d' := d2) h1 h2 h3 (by rw [h4, h5]; exact D1.ok.off)) (fun b o nb e => ?_) (NoRow.same D5 nr5 (fun b o _ e m => ?_) nas fun l z => ?_)
      · rw [upd_ne (fun z => nb (by rw [z]; exact List.mem_cons_self))]
        exact bx b o nb e
      · rw [upd_ne (fun z => by
          rw [z] at e m
          rw [ob5] at e
          cases e
          rcases m with m | m | m | ⟨l, m⟩
          · obtain ⟨ss, e1, _, _⟩ := D5.s.ex
            rw [← m, ob5] at e1
            cases e1
          · obtain ⟨ss, e1, _, _⟩ := D5.e.ex
            rw [← m, ob5] at e1
            cases e1
          · obtain ⟨ss, e1, _, _⟩ := D5.w.ex
            rw [← m, ob5] at e1
            cases e1
          · cases m)]
        exact e
      · have ha5 := bx a _ (fun m => by
          simp only [List.mem_cons, List.not_mem_nil, or_false, not_or] at m nas
          rcases m with m | m | m | m
          · rw [m, LI, ob] at ha; cases ha
          · exact nas.1 m
          · exact nas.2.1 m
          · exact nas.2.2 m) ha
        rw [z] at ha5
        cases ha5
    refine ite2 (fun z => ?_) (fun z => ?_)
    · have z : (i : Int) < lowF d1.n := of_decide_eq_true z
      refine ⟨_, rfl, x, C, dx5, _, _, rfl, ob5, X.cl, X.logs, rfl, _, _, rfl, rfl, dx5, _, ob5, by show 11 < 1000; decide, ?_⟩
      exact fin { d1 with ws := d1.ws ++ [(i, r)], cl := d1.cl + 1 } rfl rfl rfl rfl rfl (by unfold writeF; rw [if_pos z])
    · have z : ¬ (i : Int) < lowF d1.n := fun y => z (decide_eq_true y)
      refine ⟨_, rfl, x, C, dx5, _, _, rfl, ob5, X.cl, X.writes, rfl, _, _, rfl, rfl, dx5, _, ob5, by show 11 < 1000; decide, ?_⟩
      exact fin { d1 with ws := d1.ws ++ [(i, r)], cw := d1.cw + 1 } rfl rfl rfl rfl rfl (by unfold writeF; rw [if_neg z])
end
end K1
namespace K1
open PySem PySem.Spec PyProof.Rows L2 Ow Po Dd Dk
abbrev sDisk_power : Stmt := inClass (topS 12) 9
abbrev NDisk_power : List Str := ["self", "kept", "index", "sector", "arrives"]
theorem scDisk_power : FnScope NDisk_power ["self", "kept"] (defScope sDisk_power) := ⟨rfl, rfl, rfl, by decide +kernel, rfl, by decide +kernel, by decide +kernel⟩
def keptF : (Nat → List Int) → List ((Nat × List Int) × Bool) → Nat → List Int
  | st, [] => st
  | st, ((j, r), b) :: z => keptF (if b = true then (fun k => if k = j then r else st k) else st) z
theorem kept_snoc (j : Nat) (r : List Int) (b : Bool) : ∀ (z : List ((Nat × List Int) × Bool)) (st : Nat → List Int), keptF st (z ++ [((j, r), b)]) = if b = true then (fun k => if k = j then r else keptF st z k) else keptF st z
  | [], st => rfl
  | ((i, q), c) :: z, st => by
    show keptF _ (z ++ [((j, r), b)]) = _
    rw [kept_snoc j r b z]
    rfl
theorem kept64 {n : Nat} : ∀ (z : List ((Nat × List Int) × Bool)) (st : Nat → List Int), (∀ i, i < n → (st i).length = 64) → (∀ j r b, ((j, r), b) ∈ z → j < n ∧ r.length = 64) → ∀ i, i < n → (keptF st z i).length = 64
  | [], _, h, _, i, hi => h i hi
  | ((j, r), b) :: z, st, h, g, i, hi => kept64 z _ (fun k hk => by
      split
      · show (if k = j then r else st k).length = 64
        split
        · exact (g j r b List.mem_cons_self).2
        · exact h k hk
      · exact h k hk) (fun j' r' b' m => g j' r' b' (List.mem_cons_of_mem _ m)) i hi
def downF (d : Ds) : Ds := if d.on = true then failF d else d
def powerF (d : Ds) (bs : List Bool) : Ds := { downF d with st := keptF d.st (d.ws.zip bs), ws := [], on := true }
theorem down_keep (d : Ds) : (downF d).n = d.n ∧ (downF d).ws = d.ws ∧ (downF d).st = d.st := by
  unfold downF failF
  split <;> exact ⟨rfl, rfl, rfl⟩
def spPower (C : Addr) : Sp := fun vs H Q _ => ∃ (x sA eA wA : Addr) (d : Ds) (ka : Addr) (bs : List Bool), vs = [.ref x, .ref ka] ∧ DiskAt C H x sA eA wA d ∧ H ka = some (.lst (bs.map V.bl)) ∧ ka ≠ sA ∧ Chg C H x sA eA wA (powerF d bs) fun H' => Q .non H'
section
variable {P : Program} {w : World} {K : PySem.W.Frag} {mg : Str → Option Value} {base : Heap}
theorem ok_power {f C : Addr} {fd : FuncData} (F : Fun K "power" "Disk.power" sDisk_power f fd) (T0 : Bl mg) (X : TxtD K mg C) (Dfail : Kmt P w K mg base C 1 "fail" ["self"] (spFail C)) : FnOk P w K mg base CX0 2 f fd ["self", "kept"] (spPower C) := by
  refine F.ok scDisk_power (fun vs H Q E h => ?_) (fun cdv A outer s H vs Q E hr h => ?_)
  · obtain ⟨x, _, _, _, d, ka, bs, rfl, _⟩ := h
    rfl
  · obtain ⟨x, sA, eA, wA, d, ka, bs, rfl, D, hk, ks, q⟩ := h
    obtain ⟨dx, ob⟩ := D.ob
    refine ⟨_, (pss_mid (ps_if (pt_val (pe_fld (pv 0) rfl)) (pss_one (ps_expr (pe_mt0 Dfail hr (pv 0)))) pss_nil)
      (pss_cons (ps_for PassesOwn.never rfl (Zg.pi_zipG (K := K) rfl (by rfl) T0.zip (pa_cons (pe_fld (pv 0) rfl) (pa_cons (pv 1) pa_nil))) (pg_tup rfl (pgs_cons (pg_tup rfl (pgs_cons (pg_name (i := 2) scDisk_power.nd rfl (.inl rfl)) (pgs_cons (pg_name (i := 3) scDisk_power.nd rfl (.inl rfl)) pgs_nil))) (pgs_cons (pg_name (i := 4) scDisk_power.nd rfl (.inl rfl)) pgs_nil))) (pss_one (ps_if (pt_val (pv 4)) (pss_one (ps_asg (pv 3) (pg_sub (pe_fld (pv 0) rfl) (pv 2) set_list))) pss_nil)))
      (pss_cons (ps_fld (pv 0) (pe_callTy call_list_of (by rfl) T0.list (by decide +kernel) (pa_cons (pe_fld (pv 0) rfl) pa_nil)) rfl)
      (pss_cons (ps_fld (pv 0) (pe_lst pa_nil) rfl)
      (pss_one (ps_fld (pv 0) pe_bl rfl)))))), ?_⟩
    refine ⟨fun σ H' => σ = [some (.ref x), some (.ref ka), none, none, none] ∧ DiskAt C H' x sA eA wA (downF d) ∧ Gw x H H', ?_, ?_⟩
    · refine ⟨_, rfl, x, C, dx, _, _, rfl, ob, X.cl, X.powered, rfl, _, rfl, ?_⟩
      refine ite2 (fun z => ?_) (fun z => ?_)
      · refine ⟨_, rfl, x, dx, _, rfl, ob, rfl, x, sA, eA, wA, d, rfl, D, fun H1 D1 g1 => ⟨rfl, ?_, g1⟩⟩
        unfold downF
        rw [if_pos z]
        exact D1
      · refine ⟨rfl, ?_, Gw.refl _ _⟩
        unfold downF
        rw [if_neg z]
        exact D
    rintro σ H1 ⟨rfl, D1, g1⟩
    obtain ⟨k1, k2, k3⟩ := down_keep d
    obtain ⟨dx1, ob1⟩ := D1.ob
    obtain ⟨ts, et, lt, gt⟩ := D1.w.ex
    rw [k2] at lt gt
    have lix : ∀ {b : Addr} {l : List V}, H b = some (.lst l) → b ≠ x := fun e z => by rw [z, ob] at e; cases e
    have lix1 : ∀ {b : Addr} {l : List V}, H1 b = some (.lst l) → b ≠ x := fun e z => by rw [z, ob1] at e; cases e
    have hk1 : H1 ka = some (.lst (bs.map V.bl)) := g1 _ _ (lix hk) hk
    obtain ⟨ss0, es0, _, _⟩ := D1.s.ex
    have sx : sA ≠ x := lix1 es0
    have hn : (d.ws.zip bs).length = min (ts.map V.ref).length (bs.map V.bl).length := by rw [List.length_zip, List.length_map, List.length_map, lt]
    have w64 : ∀ j r, (j, r) ∈ d.ws → j < d.n ∧ r.length = 64 := D.ok.ws
    refine ⟨_, rfl, x, C, dx1, _, _, rfl, ob1, X.cl, X.waiting, rfl, _, rfl, false, false, wA, ka, _, _, rfl, SqL.of et, SqL.of hk1, for_it (Zg.walkG (K := K) hn) (fun k σ H' => ∃ v2 v3 v4, σ = [some (.ref x), some (.ref ka), v2, v3, v4] ∧ Gw sA H1 H' ∧ RowsF H' sA d.n (keptF d.st ((d.ws.zip bs).take k)))
      ⟨none, none, none, rfl, Gw.refl _ _, by have := D1.s; rw [k1, k3] at this; exact this⟩ (fun _ _ _ _ ⟨_, _, _, _, g, _⟩ => ⟨SqL.of (g _ _ D1.sw.symm et), SqL.of (g _ _ ks hk1)⟩) ?_ ?_⟩
    · rintro k v σ H2 H2' hk2 ⟨v2, v3, v4, rfl, g2, r2⟩ ⟨U, x1, y1, rfl, nU, rfl, h1, h2⟩
      dsimp only at h1 h2
      rw [List.length_zip] at hk2
      have ew : d.ws[k]? = some d.ws[k] := List.getElem?_eq_getElem (by omega)
      have eb : bs[k]? = some bs[k] := List.getElem?_eq_getElem (by omega)
      have etk : ts[k]? = some ts[k] := List.getElem?_eq_getElem (by omega)
      rw [List.getElem?_map, etk] at h1
      rw [List.getElem?_map, eb] at h2
      cases h1
      cases h2
      obtain ⟨⟨j, r⟩, ej⟩ : ∃ jr : Nat × List Int, d.ws[k] = jr := ⟨_, rfl⟩
      rw [ej] at ew
      obtain ⟨jn, r64⟩ := w64 j r (List.mem_of_getElem? ew)
      obtain ⟨p, ep, lp⟩ := gt k ts[k] j r etk ew
      have ets : ts[k] ≠ sA := fun z => by rw [z, es0] at ep; cases ep
      have ep2 := g2 _ _ ets ep
      have us : U ≠ sA := fun z => by
        obtain ⟨ss, e, _⟩ := r2.ex
        rw [z, e] at nU
        cases nU
      have etz : (d.ws.zip bs).take (k + 1) = (d.ws.zip bs).take k ++ [((j, r), bs[k])] := by
        have ez : (d.ws.zip bs)[k]? = some ((j, r), bs[k]) := List.getElem?_zip_eq_some.mpr ⟨ew, eb⟩
        rw [List.take_succ, ez]
        rfl
      have s3 : Same H2 (upd H2 U (.tup [.ref ts[k], .bl bs[k]])) := Same.new nU
      have r3 := r2.same s3
      have g3 : Gw sA H1 (upd H2 U (.tup [.ref ts[k], .bl bs[k]])) := g2.trans (Gw.same s3)
      have ep3 := s3 _ _ ep2
      refine ⟨_, _, rfl, SqT.of upd_same, rfl, _, _, rfl, _, _, rfl, SqT.of ep3, rfl, _, _, rfl, _, _, rfl, rfl, _, _, rfl, rfl, ?_⟩
      generalize (upd H2 U (.tup [.ref ts[k], .bl bs[k]])) = H3 at s3 r3 g3 ep3 ⊢
      refine ⟨_, rfl, _, rfl, ?_⟩
      rw [etz, kept_snoc]
      cases bs[k] with
      | false => exact iteF ⟨_, _, _, rfl, g3, by rw [if_neg (by decide)]; exact r3⟩
      | true =>
        refine iteT ?_
        obtain ⟨ss, e3, l3, f3⟩ := r3.ex
        refine ⟨_, rfl, _, rfl, x, C, dx1, _, _, rfl, g3 _ _ sx.symm ob1, X.cl, X.stored, rfl, _, rfl, sA, _, (j : Nat), j, rfl, rfl, e3, ixN_nat (by rw [List.length_map, l3]; exact jn), _, _, _, rfl, g3.trans Gw.put, ?_⟩
        rw [if_pos rfl]
        have k64 := kept64 ((d.ws.zip bs).take k) d.st D.ok.st fun j r b m => w64 j r (List.of_mem_zip (List.mem_of_mem_take m)).1
        have lp1 : LI H1 p r := lp
        have lp3 : LI H3 p r := g3 _ _ (row_ne lp1 r64 es0) lp1
        refine ⟨ss.set j p, by rw [upd_same, List.map_set], by rw [List.length_set, l3], fun i s es => ?_⟩
        show LI _ s (if i = j then r else keptF d.st ((d.ws.zip bs).take k) i)
        by_cases z : i = j
        · subst z
          rw [List.getElem?_set_self (by rw [l3]; exact jn)] at es
          cases es
          rw [if_pos rfl, LI, upd_ne (row_ne lp3 r64 e3)]
          exact lp3
        · rw [List.getElem?_set_ne (Ne.symm z)] at es
          have hi := (List.getElem?_eq_some_iff.mp es).1
          rw [if_neg z, LI, upd_ne (row_ne (f3 i s es) (k64 i (by rw [← l3]; exact hi)) e3)]
          exact f3 i s es
    · rintro σ H2 ⟨v2, v3, v4, rfl, g2, r2⟩
      rw [List.take_length] at r2
      obtain ⟨ss, e2, l2, f2⟩ := r2.ex
      have ob2 := g2 _ _ sx.symm ob1
      have fr : ∀ {p : Addr}, H2 p = none → p ≠ x := fun n z => by rw [z, ob2] at n; cases n
      have old : ∀ {p : Addr}, H2 p = none → H p = none := fun {p} n => Gw.free g1 (Gw.free g2 n fun z => by rw [z, e2] at n; cases n) (fr n)
      refine ⟨_, rfl, x, C, dx1, _, _, rfl, ob2, X.cl, X.stored, rfl, sA, _, rfl, .inl (SqL.of e2), fun p np => ⟨_, rfl, x, C, dx1, _, rfl, Same.new np _ _ ob2, X.cl, X.seen, by show 11 < 1000; decide, ?_⟩⟩
      have px := fr np
      refine ⟨by show 0 ≤ sizeLine; decide, fun r nr => ⟨_, rfl, x, C, dx1, _, rfl, Same.new nr _ _ upd_same, X.cl, X.waiting, by show 11 < 1000; decide, ?_⟩⟩
      have rx : r ≠ x := fun z => by rw [z, upd_same] at nr; cases nr
      have rp : r ≠ p := fun z => by rw [z, upd_ne px, upd_same] at nr; cases nr
      have n1 : H2 r = none := by rw [upd_ne rx, upd_ne rp] at nr; exact nr
      refine ⟨_, rfl, x, C, dx1, _, rfl, upd_same, X.cl, X.powered, by show 11 < 1000; decide, ?_⟩
      rw [upd_upd]
      have bot : ∀ b o, b ≠ x → H2 b = some o → (upd (upd (upd (upd H2 p (.lst (ss.map V.ref))) x (.ins C dx1 (putF "seen" (.ref p) (fldD sA eA wA (downF d))))) r (.lst [])) x (.ins C dx1 (fldD sA p r (powerF d bs)))) b = some o := fun b o nb e => by
        rw [upd_ne nb, upd_ne (ne_of_none e n1), upd_ne nb, upd_ne (ne_of_none e np)]
        exact e
      have lix2 : ∀ {b : Addr} {l : List V}, H2 b = some (.lst l) → b ≠ x := fun e z => by rw [z, ob2] at e; cases e
      have k64 := kept64 (d.ws.zip bs) d.st D.ok.st fun j r b m => w64 j r (List.of_mem_zip m).1
      refine q _ sA p r ⟨⟨dx1, upd_same⟩, ⟨ss, bot _ _ (lix2 e2) e2, by rw [l2, ← k1]; rfl, fun i s e => bot _ _ (lix2 (f2 i s e)) (f2 i s e)⟩, ⟨ss, ?_, by rw [l2, ← k1]; rfl, fun i s e => bot _ _ (lix2 (f2 i s e)) (f2 i s e)⟩, ⟨[], ?_, rfl, fun i t j q e => by simp at e⟩, ne_of_none e2 np, ne_of_none e2 n1, rp.symm, ⟨?_, ?_, ?_, fun j q m => (nomatch m), fun z => by cases z⟩⟩ (fun b mb => ?_) (fun b o nb e => ?_)
      · rw [upd_ne px, upd_ne rp.symm, upd_ne px, upd_same]
      · rw [upd_ne rx, upd_same]
        rfl
      · show 60 ≤ (downF d).n
        rw [k1]
        exact D.ok.n0
      · show (downF d).n ≤ 400
        rw [k1]
        exact D.ok.n1
      · show ∀ i, i < (downF d).n → _
        rw [k1]
        exact k64
      · simp only [List.mem_cons, List.not_mem_nil, or_false] at mb
        rcases mb with z | z | z
        · exact .inl (by rw [z]; simp)
        · exact .inr (z ▸ old np)
        · exact .inr (z ▸ old n1)
      · simp only [List.mem_cons, List.not_mem_nil, or_false, not_or] at nb
        exact bot b o nb.1 (g2 b o nb.2.1 (g1 b o nb.1 e))
end
end K1
namespace K1
open PySem PySem.Spec PyProof.Rows L2 Ow Po Dd Dk
abbrev sis_size : Stmt := topS 11
abbrev Nis_size : List Str := ["value"]
theorem scis_size : FnScope Nis_size ["value"] (defScope sis_size) := ⟨rfl, rfl, rfl, by decide +kernel, rfl, by decide +kernel, by decide +kernel⟩
abbrev sDisk_init : Stmt := inClass (topS 12) 0
abbrev NDisk_init : List Str := ["self", "sectors", "_"]
theorem scDisk_init : FnScope NDisk_init ["self", "sectors"] (defScope sDisk_init) := ⟨rfl, rfl, rfl, by decide +kernel, rfl, by decide +kernel, by decide +kernel⟩
def sizeD : PyData → Option Nat
  | .int i => if 60 ≤ i then (if i ≤ 400 then some i.toNat else none) else none
  | _ => none
def newF (n : Nat) : Ds := ⟨n, fun _ => List.replicate 64 0, [], true, none, 0, 0, 0, 0, 0⟩
structure Gd (mg : Str → Option Value) : Prop where
  sector : ∃ t, mg "SECTOR_BYTES" = some (.int 64 t)
  few : ∃ t, mg "FEWEST_SECTORS" = some (.int 60 t)
  most : ∃ t, mg "MOST_SECTORS" = some (.int 400 t)
def spIsSize (K : PySem.W.Frag) : Sp := fun vs H Q _ => ∃ (v : V) (d : PyData), vs = [v] ∧ Dp K H v d ∧ Q (.bl (sizeD d).isSome) H
def spInit (K : PySem.W.Frag) (C CI : Addr) : Sp := fun vs H Q E => ∃ (x dx : Addr) (v : V) (d : PyData), vs = [.ref x, v] ∧ H x = some (.ins C dx []) ∧ Dp K H v d ∧
  (∀ n, sizeD d = some n → ∀ H' sA eA wA, DiskAt C H' x sA eA wA (newF n) → Nw [] [sA, eA, wA] H → Gw x H H' → Q .non H') ∧ (sizeD d = none → E (.ref CI) none H)
theorem repl0 (k : Nat) : (List.replicate k [V.int 0]).flatten = (List.replicate k (0 : Int)).map V.int := by
  rw [List.map_replicate]
  induction k with
  | zero => rfl
  | succ k ih => rw [List.replicate_succ, List.replicate_succ, List.flatten_cons, ih]; rfl
section
variable {P : Program} {w : World} {K : PySem.W.Frag} {mg : Str → Option Value} {base : Heap}
theorem ok_issize {f : Addr} {fd : FuncData} (F : Fun K "is_size" "is_size" sis_size f fd) (T0 : Bl mg) (G0 : Gd mg) : FnOk P w K mg base CX0 1 f fd ["value"] (spIsSize K) := by
  refine F.ok scis_size (fun vs H Q E h => ?_) (fun cdv A outer s H vs Q E hr h => ?_)
  · obtain ⟨v, d, rfl, _⟩ := h
    rfl
  · obtain ⟨v, d, rfl, hd, q⟩ := h
    obtain ⟨t1, gFEWEST_SECTORS⟩ := G0.few
    obtain ⟨t2, gMOST_SECTORS⟩ := G0.most
    refine ⟨_, (pss_cons (ps_if (PW.pt (pw_or (pt_not (pt_val (pe_callB call_isi (by rfl) T0.isinstance (by decide +kernel) (pa_cons (pv 0) (pa_cons (pe_ty "int" (by rfl) T0.int (by decide +kernel)) pa_nil))))) (pw_or1 (pt_val (pe_callB call_isi (by rfl) T0.isinstance (by decide +kernel) (pa_cons (pv 0) (pa_cons (pe_ty "bool" (by rfl) T0.bool (by decide +kernel)) pa_nil))))))) (pss_one (ps_ret pe_bl)) pss_nil)
      (pss_one (ps_ret (pe_chain op_le op_le (pe_gi (by rfl) gFEWEST_SECTORS) (pv 0) (pe_gi (by rfl) gMOST_SECTORS))))), ?_⟩
    refine ⟨_, rfl, _, _, .type (tyD d), .type "int", _, rfl, .ty _, dp_ty hd, ki_int d, ?_⟩
    cases d with
    | int i =>
      refine ⟨_, rfl, iteF ?_⟩
      refine ⟨_, rfl, _, _, .type "int", .type "bool", _, rfl, .ty _, dp_ty hd, ki_bool (.int i), ?_⟩
      refine ⟨_, rfl, iteF ?_⟩
      cases hd
      refine ⟨_, rfl, _, _, rfl, rfl, ?_⟩
      refine ⟨_, rfl, ?_⟩
      have e1 : sizeD (.int i) = if 60 ≤ i then (if i ≤ 400 then some i.toNat else none) else none := rfl
      rw [e1] at q
      by_cases z : 60 ≤ i
      · rw [if_pos (decide_eq_true z)]
        rw [if_pos z] at q
        refine ⟨_, _, rfl, rfl, ?_⟩
        by_cases y : i ≤ 400
        · rw [if_pos y] at q
          show Q (.bl (decide (i ≤ 400))) H
          rw [decide_eq_true y]
          exact q
        · rw [if_neg y] at q
          show Q (.bl (decide (i ≤ 400))) H
          rw [decide_eq_false y]
          exact q
      · rw [if_neg (by rw [decide_eq_false z]; decide)]
        rw [if_neg z] at q
        exact q
    | bool b =>
      refine ⟨_, rfl, iteF ?_⟩
      refine ⟨_, rfl, _, _, .type "bool", .type "bool", _, rfl, .ty _, dp_ty hd, ki_bool (.bool b), ?_⟩
      exact ⟨_, rfl, iteT q⟩
    | none => exact ⟨_, rfl, iteT (iteT q)⟩
    | str x => exact ⟨_, rfl, iteT (iteT q)⟩
    | list x => exact ⟨_, rfl, iteT (iteT q)⟩
    | tuple x => exact ⟨_, rfl, iteT (iteT q)⟩
    | dict x => exact ⟨_, rfl, iteT (iteT q)⟩
theorem size_int {d : PyData} {n : Nat} (h : sizeD d = some n) : d = .int (n : Nat) ∧ 60 ≤ n ∧ n ≤ 400 := by
  cases d with
  | int i =>
    have h : (if 60 ≤ i then (if i ≤ 400 then some i.toNat else none) else none) = some n := h
    split at h
    · split at h
      · cases h
        refine ⟨by congr 1; omega, by omega, by omega⟩
      · cases h
    · cases h
  | _ => cases h
theorem ok_init {f C CI : Addr} {fd : FuncData} (F : Fun K "__init__" "Disk.__init__" sDisk_init f fd) (T0 : Bl mg) (G0 : Gd mg) (X : TxtD K mg C) (XInvalidArgument : ExK K mg CI "InvalidArgument") (Dis_size : Kn P w K mg base 1 "is_size" ["value"] (spIsSize K)) : FnOk P w K mg base (L2.CX P w) 2 f fd ["self", "sectors"] (spInit K C CI) := by
  refine F.okX scDisk_init (fun vs H Q E h => ?_) (fun cdv A outer s H vs Q E hr h => ?_)
  · obtain ⟨x, dx, v, d, rfl, _⟩ := h
    rfl
  · obtain ⟨x, dx, v, d, rfl, ob, hd, q0, q1⟩ := h
    obtain ⟨t1, gSECTOR_BYTES⟩ := G0.sector
    refine ⟨_, (pss_cons (ps_if (pt_not (pt_val (pe_kn Dis_size hr (pa_cons (pv 1) pa_nil)))) (pss_one (ps_raise rfl (takes_of rfl rfl rfl rfl) (pmk_own PySem.F.excBase_ValueError XInvalidArgument.x XInvalidArgument.g XInvalidArgument.k (raises_own XInvalidArgument.b XInvalidArgument.t) rfl))) pss_nil)
      (pss_cons (ps_fld (pv 0) (pe_lc (own := [("_", 2)]) (g := gName 2) (tt := tYes) rfl scDisk_init.nd (pi_range1 (by rfl) T0.range (pa_cons (pv 1) pa_nil)) (blkOk_by (own := [("_", 2)]) (N := NDisk_init) (sc := defScope sDisk_init) (by decide +kernel)) (fun _ _ _ _ _ => pg_name (i := 2) scDisk_init.nd rfl (Or.inl rfl)) (fun _ _ _ _ _ => pts_nil) (fun _ _ _ _ _ => (pe_op op_rep (pe_lst (pa_cons pe_int pa_nil)) (pe_gi (by rfl) gSECTOR_BYTES)))) rfl)
      (pss_cons (ps_fld (pv 0) (pe_callTy call_list_of (by rfl) T0.list (by decide +kernel) (pa_cons (pe_fld (pv 0) rfl) pa_nil)) rfl)
      (pss_cons (ps_fld (pv 0) (pe_lst pa_nil) rfl)
      (pss_cons (ps_fld (pv 0) pe_int rfl)
      (pss_cons (ps_fld (pv 0) pe_int rfl)
      (pss_cons (ps_fld (pv 0) pe_int rfl)
      (pss_cons (ps_fld (pv 0) pe_int rfl)
      (pss_cons (ps_fld (pv 0) pe_bl rfl)
      (pss_cons (ps_fld (pv 0) pe_int rfl)
      (pss_cons (ps_fld (pv 0) pe_non rfl)
      (pss_one (ps_fld (pv 0) pe_non rfl))))))))))))), ?_⟩
    refine ⟨_, rfl, v, d, rfl, hd, _, rfl, ?_⟩
    cases e : sizeD d with
    | none => exact iteT (q1 e)
    | some n =>
      obtain ⟨rfl, n0, n1⟩ := size_int e
      cases hd
      refine iteF ⟨_, rfl, _, rfl, by omega, by omega, fun D nD => ?_⟩
      refine lc_new (walk_range (lo := 0) (n := n)) (fun _ => (List.replicate 64 0).map V.int) (small n1 (by decide)) nD (fun _ _ => trivial) (fun i y H1 H1' N hi s1 yy fin => ?_) fun H1 ss s1 eD lD gD => ?_
      · obtain ⟨rfl, ey⟩ := yy
        refine ⟨rfl, by show 1 ≤ sizeLine; decide, fun p np => ⟨p, 64, _, rfl, rfl, upd_same, by decide, by decide, by decide, fun r nr => ?_⟩⟩
        exact fin _ r ((Same.new np).trans (Same.new nr)) (Same.free (Same.new np) nr) (by rw [upd_same]; exact congrArg (fun z => some (HO.lst z)) (repl0 64))
      have ob1 := s1 _ _ ob
      have Dx : D ≠ x := fun z => by rw [z, ob] at nD; cases nD
      refine ⟨_, rfl, x, C, dx, _, rfl, ob1, X.cl, X.stored, by show 0 < 1000; decide, ?_⟩
      refine ⟨_, rfl, x, C, dx, _, _, rfl, upd_same, X.cl, X.stored, rfl, D, _, rfl, .inl (SqL.of (by rw [upd_ne Dx]; exact eD)), fun p np => ⟨_, rfl, x, C, dx, _, rfl, Same.new np _ _ upd_same, X.cl, X.seen, by show 1 < 1000; decide, ?_⟩⟩
      have px : p ≠ x := fun z => by rw [z, upd_same] at np; cases np
      have np1 : H1 p = none := by rw [upd_ne px] at np; exact np
      refine ⟨by show 0 ≤ sizeLine; decide, fun r nr => ⟨_, rfl, x, C, dx, _, rfl, Same.new nr _ _ upd_same, X.cl, X.waiting, by show 2 < 1000; decide, ?_⟩⟩
      have rx : r ≠ x := fun z => by rw [z, upd_same] at nr; cases nr
      have rp : r ≠ p := fun z => by rw [z, upd_ne px, upd_same] at nr; cases nr
      have nr1 : H1 r = none := by rw [upd_ne rx, upd_ne rp, upd_ne rx] at nr; exact nr
      refine ⟨_, rfl, x, C, dx, _, rfl, upd_same, X.cl, X.reads, by show 3 < 1000; decide, ?_⟩
      refine ⟨_, rfl, x, C, dx, _, rfl, upd_same, X.cl, X.writes, by show 4 < 1000; decide, ?_⟩
      refine ⟨_, rfl, x, C, dx, _, rfl, upd_same, X.cl, X.logs, by show 5 < 1000; decide, ?_⟩
      refine ⟨_, rfl, x, C, dx, _, rfl, upd_same, X.cl, X.syncs, by show 6 < 1000; decide, ?_⟩
      refine ⟨_, rfl, x, C, dx, _, rfl, upd_same, X.cl, X.powered, by show 7 < 1000; decide, ?_⟩
      refine ⟨_, rfl, x, C, dx, _, rfl, upd_same, X.cl, X.lost, by show 8 < 1000; decide, ?_⟩
      refine ⟨_, rfl, x, C, dx, _, rfl, upd_same, X.cl, X.allowed, by show 9 < 1000; decide, ?_⟩
      refine ⟨_, rfl, x, C, dx, _, rfl, upd_same, X.cl, X.holder, by show 10 < 1000; decide, ?_⟩
      rw [upd_upd, upd_upd, upd_upd, upd_upd, upd_upd, upd_upd, upd_upd, upd_upd]
      have bot : ∀ b o, b ≠ x → H1 b = some o → (upd (upd (upd (upd (upd H1 x (.ins C dx (putF "stored" (.ref D) []))) p (.lst (ss.map V.ref))) x (.ins C dx (putF "seen" (.ref p) (putF "stored" (.ref D) [])))) r (.lst [])) x (.ins C dx (fldD D p r (newF n)))) b = some o := fun b o nb h => by
        rw [upd_ne nb, upd_ne (ne_of_none h nr1), upd_ne nb, upd_ne (ne_of_none h np1), upd_ne nb]
        exact h
      have row : ∀ (i : Nat) (t : Addr), ss[i]? = some t → LI (upd (upd (upd (upd (upd H1 x (.ins C dx (putF "stored" (.ref D) []))) p (.lst (ss.map V.ref))) x (.ins C dx (putF "seen" (.ref p) (putF "stored" (.ref D) [])))) r (.lst [])) x (.ins C dx (fldD D p r (newF n)))) t (List.replicate 64 0) := fun i t et => by
        obtain ⟨a1, _, a3⟩ := gD i t et
        exact bot _ _ (fun z => by rw [z, ob] at a1; cases a1) a3
      have oldp : H p = none := Same.free s1 np1
      have oldr : H r = none := Same.free s1 nr1
      refine q0 n e _ D p r ⟨⟨dx, upd_same⟩, ⟨ss, bot _ _ Dx eD, lD, row⟩, ⟨ss, ?_, lD, row⟩, ⟨[], ?_, rfl, fun i t j q e => by simp at e⟩, ne_of_none eD np1, ne_of_none eD nr1, rp.symm, ⟨n0, n1, fun i _ => List.length_replicate, fun j q m => (nomatch m), fun z => by cases z⟩⟩ (fun b mb => ?_) (fun b o nb h => bot b o nb (s1 b o h))
      · rw [upd_ne px, upd_ne rp.symm, upd_ne px, upd_same]
      · rw [upd_ne rx, upd_same]
        rfl
      · simp only [List.mem_cons, List.not_mem_nil, or_false] at mb
        rcases mb with z | z | z
        · exact .inr (z ▸ nD)
        · exact .inr (z ▸ oldp)
        · exact .inr (z ▸ oldr)
end
end K1
/-! d.update(d2), d2 a dict -/
namespace Ow
open PySem PySem.Spec PyProof.Rows L2
def rDUpd : V → List V → Hp → VK → Prop := fun x vs H Q => ∃ (a b : Addr) (kvs more : List (Key × V)), x = .ref a ∧ vs = [.ref b] ∧ H a = some (.dK kvs) ∧ H b = some (.dK more) ∧ a ≠ b ∧ kvs.length + more.length ≤ sizeLine ∧ Q .non (upd H a (.dK (mergeK kvs more)))
theorem mtd_update {X : Cx} : MtR X "dict.update" rDUpd := by
  intro pins s σ H x vs v us Q I rx rv h
  obtain ⟨a, b, kvs, more, ex, ev, e, e2, ne, hz, q⟩ := h
  subst ex
  subst ev
  obtain rfl : v = Value.ref a := rx
  cases rv with
  | cons r rr =>
    cases rr
    cases r
    obtain ⟨z, hd, xs, rel, dd⟩ := dk_of I.hok e
    obtain ⟨z2, hd2, ys, rel2, dd2⟩ := dk_of I.hok e2
    refine call_meetsIn PySem.F.slot_dict_update dd.typeIs PySem.F.entry_dict_update (PySem.F.args_dict_update_2 _ _) (meets_dict_update (mixKind X.prog X.w) a b ne hd2) ⟨xs, ys, dd, dd2, by rw [← rel.length, ← rel2.length]; exact hz, fun h' dd' _ hs => ?_⟩
    have he : ∃ q, h'.get? a = some q := let ⟨q, _, _, hq, _⟩ := dd'; ⟨q, hq⟩
    have hl : (mergeK kvs more).length ≤ sizeLine := Nat.le_trans (length_mergeK more kvs) hz
    exact ⟨.non, _, d_write (t' := s.toks) I (by rw [e]; exact True.intro) hs he (dk_new hl hd (rel2.merge rel) dd'), rfl, q⟩
end Ow
namespace K1
open PySem PySem.Spec PyProof.Rows L2 Ow Po Dd Dk
abbrev s_law_operate : Stmt := topS 17
abbrev N_law_operate : List Str := ["world"]
theorem sc_law_operate : FnScope N_law_operate ["world"] (defScope s_law_operate) := ⟨rfl, rfl, rfl, by decide +kernel, rfl, by decide +kernel, by decide +kernel⟩
def keysW (la wl ct : Addr) (d : Ds) : List (Key × V) := [(.inr "size", .int (d.n : Nat)), (.inr "low", .int (lowF d.n)), (.inr "lasting", .ref la), (.inr "waiting", .ref wl), (.inr "on", .bl d.on), (.inr "left", optV d.left), (.inr "losses", .int d.lost), (.inr "counts", .ref ct)]
/-- the keys are places below n, each once -/
def KyN (n : Nat) (kvs : List (Key × V)) : Prop := (kvs.map Prod.fst).Nodup ∧ ∀ k ∈ kvs.map Prod.fst, ∃ i : Nat, i < n ∧ k = Sum.inl (i : Int)
theorem pigN : ∀ (n : Nat) (l : List Nat), l.Nodup → (∀ k ∈ l, k < n) → l.length ≤ n
  | 0, [], _, _ => Nat.le_refl _
  | 0, x :: l, _, h => absurd (h x List.mem_cons_self) (Nat.not_lt_zero _)
  | n + 1, l, d, h => by
    have := pigN n (l.erase n) (d.erase _) (fun x m => by
      obtain ⟨m1, m2⟩ := (List.Nodup.mem_erase_iff d).mp m
      have := h x m2
      omega)
    by_cases z : n ∈ l
    · rw [List.length_erase_of_mem z] at this
      omega
    · rw [List.erase_of_not_mem z] at this
      omega
theorem ksN : ∀ {l : List Key} {n : Nat}, (∀ k ∈ l, ∃ i : Nat, i < n ∧ k = Sum.inl (i : Int)) → ∃ ns : List Nat, l = ns.map (fun i : Nat => (Sum.inl (i : Int) : Key)) ∧ ∀ i ∈ ns, i < n
  | [], n, _ => ⟨[], rfl, fun i m => nomatch m⟩
  | k :: l, n, h => by
    obtain ⟨i, hi, e⟩ := h k List.mem_cons_self
    obtain ⟨ns, e2, h2⟩ := ksN (l := l) (n := n) fun k m => h k (List.mem_cons_of_mem _ m)
    refine ⟨i :: ns, by rw [e, e2]; rfl, fun j m => ?_⟩
    rcases List.mem_cons.mp m with z | z
    · rw [z]
      exact hi
    · exact h2 j z
theorem pigK (n : Nat) (l : List Key) (d : l.Nodup) (h : ∀ k ∈ l, ∃ i : Nat, i < n ∧ k = Sum.inl (i : Int)) : l.length ≤ n := by
  obtain ⟨ns, e, hn⟩ := ksN h
  rw [e] at d ⊢
  rw [List.length_map]
  refine pigN n ns ?_ hn
  have d := List.pairwise_map.mp d
  exact d.imp fun h z => h (by rw [z])
theorem KyN.len {n : Nat} {kvs : List (Key × V)} (h : KyN n kvs) : kvs.length ≤ n := by
  have := pigK n _ h.1 h.2
  rw [List.length_map] at this
  exact this
theorem KyN.nil (n : Nat) : KyN n [] := ⟨List.nodup_nil, fun k m => nomatch m⟩
theorem KyN.put {n : Nat} {kvs : List (Key × V)} {i : Nat} {v : V} (h : KyN n kvs) (hi : i < n) : KyN n (putK kvs (.inl (i : Nat)) v) := by
  unfold putK
  split
  · have e : (kvs.map fun kv => if kv.1 = (Sum.inl (i : Int) : Key) then (kv.1, v) else kv).map Prod.fst = kvs.map Prod.fst := by
      rw [List.map_map]
      refine List.map_congr_left fun p _ => ?_
      show (if p.1 = (Sum.inl (i : Int) : Key) then (p.1, v) else p).1 = p.1
      split <;> rfl
    unfold KyN
    rw [e]
    exact h
  · rename_i z
    obtain ⟨d, m⟩ := h
    unfold KyN
    rw [List.map_append]
    refine ⟨List.nodup_append.mpr ⟨d, by simp, fun a ha b hb y => ?_⟩, fun k hk => ?_⟩
    · have hb : b = Sum.inl (i : Int) := by simpa using hb
      obtain ⟨p, hp, ep⟩ := List.mem_map.mp ha
      exact z (List.any_eq_true.mpr ⟨p, hp, decide_eq_true (by rw [ep, y, hb])⟩)
    · rcases List.mem_append.mp hk with hk | hk
      · exact m k hk
      · exact ⟨i, hi, by simpa using hk⟩
/-- what lasts, as a dict: a place that is not there holds zeros -/
structure LastF (H : Hp) (a : Addr) (n : Nat) (f : Nat → List Int) : Prop where
  ex : ∃ kvs : List (Key × V), H a = some (.dK kvs) ∧ KyN n kvs ∧ ∀ i : Nat, i < n → (∃ q, valV kvs (.inl (i : Nat)) = some (.ref q) ∧ LI H q (f i)) ∨ (valV kvs (.inl (i : Nat)) = none ∧ f i = List.replicate 64 0)
/-- the law's world -/
structure WorldAt (H : Hp) (wd la wl ct : Addr) (d : Ds) : Prop where
  w : H wd = some (.dK (keysW la wl ct d))
  lastF : LastF H la d.n d.st
  waitF : WaitF H wl d.ws
  cntF : LI H ct [d.cr, d.cw, d.cl, d.cs]
  ne : wd ≠ la
  pos : ∀ k, d.left = some k → 0 ≤ k
theorem LastF.keep {H H' : Hp} {p a : Addr} {n : Nat} {f : Nat → List Int} (h : LastF H a n f) (ne : a ≠ p) (nl : ∀ b xs, LI H b xs → b ≠ p) (g : Gw p H H') : LastF H' a n f := by
  obtain ⟨kvs, e, l, r⟩ := h.ex
  refine ⟨kvs, g _ _ ne e, l, fun i hi => ?_⟩
  rcases r i hi with ⟨q, e1, e2⟩ | z
  · exact .inl ⟨q, e1, g _ _ (nl q _ e2) e2⟩
  · exact .inr z
/-- a place is written -/
theorem LastF.put {H : Hp} {a : Addr} {n : Nat} {f : Nat → List Int} {i : Nat} {q : Addr} {r : List Int} (h : LastF H a n f) (hi : i < n) (lq : LI H q r) : ∃ kvs, H a = some (.dK kvs) ∧ kvs.length ≤ n ∧ LastF (upd H a (.dK (putK kvs (.inl (i : Nat)) (.ref q)))) a n fun k => if k = i then r else f k := by
  obtain ⟨kvs, e, l, g⟩ := h.ex
  have nl : ∀ b xs, LI H b xs → b ≠ a := fun b xs h z => by rw [z, LI, e] at h; cases h
  refine ⟨kvs, e, l.len, ⟨_, upd_same, l.put hi, fun k hk => ?_⟩⟩
  rw [valV_put]
  by_cases z : k = i
  · subst z
    rw [if_pos rfl]
    refine .inl ⟨q, rfl, ?_⟩
    rw [if_pos rfl, LI, upd_ne (nl q _ lq)]
    exact lq
  · rw [if_neg (fun y => z (by injection y with y; omega)), if_neg z]
    rcases g k hk with ⟨p, e1, e2⟩ | y
    · refine .inl ⟨p, e1, ?_⟩
      rw [LI, upd_ne (nl p _ e2)]
      exact e2
    · exact .inr y
/-- the dict of words alone is written anew -/
theorem WorldAt.put {H : Hp} {wd la wl ct : Addr} {d d' : Ds} (h : WorldAt H wd la wl ct d) (n : d'.n = d.n) (st : d'.st = d.st) (ws : d'.ws = d.ws) (c : [d'.cr, d'.cw, d'.cl, d'.cs] = [d.cr, d.cw, d.cl, d.cs]) (pos : ∀ k, d'.left = some k → 0 ≤ k) : WorldAt (upd H wd (.dK (keysW la wl ct d'))) wd la wl ct d' := by
  have nl : ∀ b xs, LI H b xs → b ≠ wd := fun b xs e z => by rw [z, LI, h.w] at e; cases e
  refine ⟨upd_same, ?_, ?_, ?_, h.ne, pos⟩
  · rw [n, st]
    exact h.lastF.keep h.ne.symm nl Gw.put
  · rw [ws]
    obtain ⟨ts, e, l, r⟩ := h.waitF.ex
    have nw : ∀ {b : Addr} {o : HO}, H b = some o → (∀ k, o ≠ .dK k) → b ≠ wd := fun e no z => by rw [z, h.w] at e; cases e; exact no _ rfl
    refine ⟨ts, by rw [upd_ne (nw e fun k => by intro z; cases z)]; exact e, l, fun i t j q e1 e2 => ?_⟩
    obtain ⟨p, f1, f2⟩ := r i t j q e1 e2
    exact ⟨p, by rw [upd_ne (nw f1 fun k => by intro z; cases z)]; exact f1, by rw [LI, upd_ne (nl p _ f2)]; exact f2⟩
  · rw [c, LI, upd_ne (nl ct _ h.cntF)]
    exact h.cntF
def spLOper : Sp := fun vs H Q _ => ∃ (wd la wl ct : Addr) (d : Ds), vs = [.ref wd] ∧ WorldAt H wd la wl ct d ∧ ∀ H', WorldAt H' wd la wl ct (operF d).1 → Gw wd H H' → Q (.bl (operF d).2) H'
section
variable {P : Program} {w : World} {K : PySem.W.Frag} {mg : Str → Option Value} {base : Heap}
theorem ok_loper {f : Addr} {fd : FuncData} (F : Fun K "_law_operate" "_law_operate" s_law_operate f fd) (T0 : Bl mg) : FnOk P w K mg base CX0 1 f fd ["world"] spLOper := by
  refine F.ok sc_law_operate (fun vs H Q E h => ?_) (fun cdv A outer s H vs Q E hr h => ?_)
  · obtain ⟨wd, la, wl, ct, d, rfl, _⟩ := h
    rfl
  · obtain ⟨wd, la, wl, ct, d, rfl, W, q⟩ := h
    refine ⟨_, (pss_cons (ps_if (PW.pt (pw_and (pt_val (pe_dget (hu_of hr) (pv 0) pe_str (fun _ _ => rfl))) (pw_and1 (pt_cmpR op_eq (pe_dget (hu_of hr) (pv 0) pe_str (fun _ _ => rfl)) pe_int (nomark _))))) (pss_cons (ps_asg pe_bl (pg_sub (pv 0) pe_str (set_dict (hu_of hr))))
      (pss_cons (ps_asg pe_non (pg_sub (pv 0) pe_str (set_dict (hu_of hr))))
      (pss_one (ps_daug (hu_of hr) (pv 0) pe_str pe_int in_add (fun _ _ _ => rfl))))) pss_nil)
      (pss_cons (ps_if (pt_not (pt_val (pe_dget (hu_of hr) (pv 0) pe_str (fun _ _ => rfl)))) (pss_one (ps_ret pe_bl)) pss_nil)
      (pss_cons (ps_if (pt_cmpR op_notN (pe_dget (hu_of hr) (pv 0) pe_str (fun _ _ => rfl)) pe_non (nomark _)) (pss_one (ps_daug (hu_of hr) (pv 0) pe_str pe_int in_sub (fun _ _ _ => rfl))) pss_nil)
      (pss_one (ps_ret pe_bl))))), ?_⟩
    have e := W.w
    refine ⟨_, rfl, wd, _, rfl, DGet.k (k := Sum.inr "on") e, _, rfl, ?_⟩
    cases eo : d.on with
    | false =>
      have ef : operF d = (d, false) := by unfold operF; rw [if_pos eo]
      rw [ef] at q
      refine iteF ?_
      refine iteF ?_
      refine ⟨_, rfl, wd, _, rfl, DGet.k (k := Sum.inr "on") e, _, rfl, ?_⟩
      rw [eo]
      exact iteT (q _ W (Gw.refl _ _))
    | true =>
      refine iteT ?_
      refine ⟨_, rfl, wd, _, rfl, DGet.k (k := Sum.inr "left") e, ?_⟩
      have on2 : ∀ {H' : Hp} {d' : Ds}, H' wd = some (.dK (keysW la wl ct d')) → DGet H' wd (.str "on") (some (.bl d'.on)) := fun e => DGet.k (k := Sum.inr "on") e
      cases el : d.left with
      | none =>
        have ef : operF d = (d, true) := by unfold operF; rw [if_neg (by rw [eo]; decide), el]
        rw [ef] at q
        refine ⟨rfl, _, rfl, iteF ?_⟩
        refine ⟨_, rfl, wd, _, rfl, on2 e, _, rfl, ?_⟩
        rw [eo]
        refine iteF ?_
        refine ⟨_, rfl, wd, _, rfl, DGet.k (k := Sum.inr "left") e, ?_⟩
        show _ ∧ _
        refine ⟨rfl, _, rfl, ?_⟩
        rw [el]
        exact iteF (q _ W (Gw.refl _ _))
      | some k =>
        have k0 := W.pos k el
        refine ⟨rfl, _, rfl, ?_⟩
        show if decide (V.int k = V.int 0) = true then _ else _
        rw [eqV0]
        by_cases z : k = 0
        · have ef : operF d = (failF d, false) := by unfold operF; rw [if_neg (by rw [eo]; decide), el]; exact if_pos (by omega)
          rw [ef] at q
          rw [decide_eq_true z]
          refine iteT ?_
          refine ⟨_, rfl, wd, _, rfl, DPut.k (k := Sum.inr "on") e (by show 8 < sizeLine; decide), ?_⟩
          refine ⟨_, rfl, wd, _, rfl, DPut.k (k := Sum.inr "left") upd_same (by show 8 < sizeLine; decide), ?_⟩
          refine ⟨_, rfl, wd, _, rfl, DGet.k (k := Sum.inr "losses") upd_same, _, _, rfl, rfl, _, DPut.k (k := Sum.inr "losses") upd_same (by show 8 < sizeLine; decide), ?_⟩
          rw [upd_upd, upd_upd]
          have W2 := W.put (d' := failF d) rfl rfl rfl rfl fun k h => by cases h
          refine ⟨_, rfl, wd, _, rfl, on2 W2.w, _, rfl, iteT ?_⟩
          exact q _ W2 Gw.put
        · have ef : operF d = ({ d with left := some (k - 1) }, true) := by unfold operF; rw [if_neg (by rw [eo]; decide), el]; exact if_neg (by omega)
          rw [ef] at q
          rw [decide_eq_false z]
          refine iteF ?_
          refine ⟨_, rfl, wd, _, rfl, on2 e, _, rfl, ?_⟩
          rw [eo]
          refine iteF ?_
          refine ⟨_, rfl, wd, _, rfl, DGet.k (k := Sum.inr "left") e, ?_⟩
          show _ ∧ _
          refine ⟨rfl, _, rfl, ?_⟩
          rw [el]
          refine iteT ?_
          refine ⟨_, rfl, wd, _, rfl, DGet.k (k := Sum.inr "left") e, _, _, by rw [el]; rfl, rfl, _, DPut.k (k := Sum.inr "left") e (by show 8 < sizeLine; decide), ?_⟩
          exact q _ (W.put (d' := { d with left := some (k - 1) }) rfl rfl rfl rfl fun j h => by cases h; omega) Gw.put
end
end K1
namespace Dk
open PySem PySem.Spec PyProof.Rows L2 Ow Po Dd
theorem DiskAt.gw {C : Addr} {H H' : Hp} {a x sA eA wA : Addr} {d : Ds} (D : DiskAt C H x sA eA wA d) (g : Gw a H H') (na : a ∉ [x, sA, eA, wA]) (nr : ∀ b xs, LI H b xs → xs.length = 64 → b ≠ a) (nt : ∀ b l, H b = some (.tup l) → b ≠ a) : DiskAt C H' x sA eA wA d := by
  simp only [List.mem_cons, List.not_mem_nil, or_false, not_or] at na
  obtain ⟨n1, n2, n3, n4⟩ := na
  obtain ⟨dx, ob⟩ := D.ob
  have k : ∀ b xs, LI H b xs → xs.length = 64 → LI H' b xs := fun b xs e l => g _ _ (nr b xs e l) e
  exact ⟨⟨dx, g _ _ (Ne.symm n1) ob⟩, D.s.keepR D.ok.st (fun o e => g _ _ (Ne.symm n2) e) k, D.e.keepR (seen64 d.ws d.st D.ok.st D.ok.ws) (fun o e => g _ _ (Ne.symm n3) e) k, D.w.keepR (fun j r m => (D.ok.ws j r m).2) (fun o e => g _ _ (Ne.symm n4) e) k (fun b o e => g _ _ (nt b o e) e), D.se, D.sw, D.ew, D.ok⟩
end Dk
namespace K1
open PySem PySem.Spec PyProof.Rows L2 Ow Po Dd Dk
theorem LastF.keepR {H H' : Hp} {a : Addr} {n : Nat} {f : Nat → List Int} (h : LastF H a n f) (h64 : ∀ i, i < n → (f i).length = 64) (ka : ∀ o, H a = some o → H' a = some o) (k : ∀ b xs, LI H b xs → xs.length = 64 → LI H' b xs) : LastF H' a n f := by
  obtain ⟨kvs, e, l, r⟩ := h.ex
  refine ⟨kvs, ka _ e, l, fun i hi => ?_⟩
  rcases r i hi with ⟨q, e1, e2⟩ | z
  · exact .inl ⟨q, e1, k _ _ e2 (h64 i hi)⟩
  · exact .inr z
/-- the world's own objects stay, and the rows and the pairs -/
theorem WorldAt.keepR {H H' : Hp} {wd la wl ct : Addr} {d : Ds} (W : WorldAt H wd la wl ct d) (ok : Okd d) (ka : ∀ b, b ∈ [wd, la, wl, ct] → ∀ o, H b = some o → H' b = some o) (k : ∀ b xs, LI H b xs → xs.length = 64 → LI H' b xs) (kt : ∀ b o, H b = some (.tup o) → H' b = some (.tup o)) : WorldAt H' wd la wl ct d :=
  ⟨ka wd (by simp) _ W.w, W.lastF.keepR ok.st (ka la (by simp)) k, W.waitF.keepR (fun j r m => (ok.ws j r m).2) (ka wl (by simp)) k kt, ka ct (by simp) _ W.cntF, W.ne, W.pos⟩
/-- the state that draws, the disk (that is d) and the world (that is e) -/
structure All (C : Addr) (H : Hp) (a sc x sA eA wA wd la wl ct : Addr) (d e : Ds) : Prop where
  S : St H a sc
  D : DiskAt C H x sA eA wA d
  W : WorldAt H wd la wl ct e
  ok : Okd e
  sep : ∀ b, b ∈ [a, sc, wd, la, wl, ct] → b ∉ [x, sA, eA, wA]
  sa : a ∉ [wd, la, wl, ct]
  sl : sc ≠ wl
  sk : sc ≠ ct
theorem All.here {C : Addr} {H : Hp} {a sc x sA eA wA wd la wl ct : Addr} {d e : Ds} (h : All C H a sc x sA eA wA wd la wl ct d e) : ∀ b, b ∈ [a, sc, wd, la, wl, ct] → H b ≠ none := fun b m => by
  obtain ⟨ns, ps, c, sd, e1, e2, _⟩ := h.S
  obtain ⟨kvs, e3, _⟩ := h.W.lastF.ex
  obtain ⟨ts, e4, _⟩ := h.W.waitF.ex
  have e5 := h.W.cntF
  have e6 := h.W.w
  simp only [List.mem_cons, List.not_mem_nil, or_false] at m
  rcases m with z | z | z | z | z | z <;> subst z <;> intro n
  · rw [e1] at n; cases n
  · rw [e2] at n; cases n
  · rw [e6] at n; cases n
  · rw [e3] at n; cases n
  · rw [e4] at n; cases n
  · rw [LI, n] at e5; cases e5
theorem All.same {C : Addr} {H H' : Hp} {a sc x sA eA wA wd la wl ct : Addr} {d e : Ds} (s : Same H H') (h : All C H a sc x sA eA wA wd la wl ct d e) : All C H' a sc x sA eA wA wd la wl ct d e :=
  ⟨h.S.same s, h.D.same s, h.W.keepR h.ok (fun b _ o q => s _ _ q) (fun b xs q _ => q.same s) (fun b o q => s _ _ q), h.ok, h.sep, h.sa, h.sl, h.sk⟩
theorem St.row {H : Hp} {a sc b : Addr} {xs : List V} (S : St H a sc) (e : H b = some (.lst xs)) (l : xs.length = 64) : b ≠ a := fun z => by
  obtain ⟨ns, ps, c, sd, e2, _⟩ := S
  rw [z, e2] at e
  cases e
  cases l
/-- a draw -/
theorem All.next {C : Addr} {H H' : Hp} {a sc x sA eA wA wd la wl ct : Addr} {d e : Ds} (h : All C H a sc x sA eA wA wd la wl ct d e) (S' : St H' a sc) (g : Gw a H H') : All C H' a sc x sA eA wA wd la wl ct d e := by
  have nr : ∀ b xs, LI H b xs → xs.length = 64 → b ≠ a := fun b xs q l => h.S.row q (by rw [List.length_map, l])
  have nt : ∀ b l, H b = some (.tup l) → b ≠ a := fun b l q z => by
    obtain ⟨ns, ps, c, sd, e2, _⟩ := h.S
    rw [z, e2] at q
    cases q
  exact ⟨S', h.D.gw g (h.sep a (by simp)) nr nt, h.W.keepR h.ok (fun b m o q => g _ _ (fun z => h.sa (z ▸ m)) q) (fun b xs q l => g _ _ (nr b xs q l) q) (fun b o q => g _ _ (nt b o q) q), h.ok, h.sep, h.sa, h.sl, h.sk⟩
/-- a method of the disk -/
theorem All.disk {C : Addr} {H H' : Hp} {a sc x sA eA wA wd la wl ct sA' eA' wA' : Addr} {d d' e : Ds} (h : All C H a sc x sA eA wA wd la wl ct d e) (D' : DiskAt C H' x sA' eA' wA' d') (nw : Nw [sA, eA, wA] [sA', eA', wA'] H) (bx : Bx [x, sA, eA, wA] H H') : All C H' a sc x sA' eA' wA' wd la wl ct d' e := by
  obtain ⟨dx, ob⟩ := h.D.ob
  obtain ⟨s1, f1, _⟩ := h.D.s.ex
  obtain ⟨s2, f2, _⟩ := h.D.e.ex
  obtain ⟨s3, f3, _⟩ := h.D.w.ex
  have own : ∀ b, b ∈ [a, sc, wd, la, wl, ct] → ∀ o, H b = some o → H' b = some o := fun b m o q => bx b o (h.sep b m) q
  have row : ∀ b xs, LI H b xs → xs.length = 64 → LI H' b xs := fun b xs q l => bx b _ (fun m => by
    simp only [List.mem_cons, List.not_mem_nil, or_false] at m
    rcases m with z | z | z | z
    · rw [z, LI, ob] at q; cases q
    · exact row_ne q l f1 z
    · exact row_ne q l f2 z
    · exact row_ne q l f3 z) q
  have tup : ∀ b o, H b = some (.tup o) → H' b = some (.tup o) := fun b o q => bx b _ (fun m => by
    simp only [List.mem_cons, List.not_mem_nil, or_false] at m
    rcases m with z | z | z | z
    · rw [z, ob] at q; cases q
    · rw [z, f1] at q; cases q
    · rw [z, f2] at q; cases q
    · rw [z, f3] at q; cases q) q
  obtain ⟨ns, ps, c, sd, e1, e2, r⟩ := h.S
  refine ⟨⟨ns, ps, c, sd, own a (by simp) _ e1, own sc (by simp) _ e2, r⟩, D', h.W.keepR h.ok (fun b m o q => own b (by simp only [List.mem_cons, List.not_mem_nil, or_false] at m ⊢; exact .inr (.inr m)) o q) row tup, h.ok, fun b m m2 => ?_, h.sa, h.sl, h.sk⟩
  have hb := h.here b m
  have sp := h.sep b m
  simp only [List.mem_cons, List.not_mem_nil, or_false, not_or] at m2 sp
  have no : ∀ b', b' ∈ [sA', eA', wA'] → b = b' → False := fun b' mb z => by
    subst z
    rcases nw b mb with y | y
    · simp only [List.mem_cons, List.not_mem_nil, or_false] at y
      rcases y with y | y | y
      · exact sp.2.1 y
      · exact sp.2.2.1 y
      · exact sp.2.2.2 y
    · exact hb y
  rcases m2 with z | z | z | z
  · exact sp.1 z
  · exact no sA' (by simp) z
  · exact no eA' (by simp) z
  · exact no wA' (by simp) z
/-- an own object of the world is written anew -/
theorem All.world {C : Addr} {H H' : Hp} {a sc x sA eA wA wd la wl wl' ct p : Addr} {d e e' : Ds} (h : All C H a sc x sA eA wA wd la wl ct d e) (mp : p ∈ [wd, la, wl, ct]) (g : Gw p H H') (W' : WorldAt H' wd la wl' ct e') (ok' : Okd e') (nw : wl' = wl ∨ H wl' = none) : All C H' a sc x sA eA wA wd la wl' ct d e' := by
  obtain ⟨ns, ps, c, sd, e1, e2, r⟩ := h.S
  obtain ⟨kvs, e3, _⟩ := h.W.lastF.ex
  obtain ⟨ts, e4, _⟩ := h.W.waitF.ex
  have e5 := h.W.cntF
  have e6 := h.W.w
  have hh := h.here
  obtain ⟨dx, ob⟩ := h.D.ob
  obtain ⟨s1, f1, _⟩ := h.D.s.ex
  obtain ⟨s2, f2, _⟩ := h.D.e.ex
  obtain ⟨s3, f3, _⟩ := h.D.w.ex
  have nr : ∀ b xs, LI H b xs → xs.length = 64 → b ≠ p := fun b xs q l => by
    simp only [List.mem_cons, List.not_mem_nil, or_false] at mp
    rcases mp with z | z | z | z <;> rw [z]
    · intro y
      rw [y, LI, e6] at q
      cases q
    · intro y
      rw [y, LI, e3] at q
      cases q
    · exact row_ne q l e4
    · intro y
      rw [LI, y, e5] at q
      injection q with q
      injection q with q
      have := congrArg List.length q
      rw [List.length_map, List.length_map, l] at this
      cases this
  have nt : ∀ b l, H b = some (.tup l) → b ≠ p := fun b l q => by
    simp only [List.mem_cons, List.not_mem_nil, or_false] at mp
    rcases mp with z | z | z | z <;> rw [z] <;> intro y <;> rw [y] at q
    · rw [e6] at q; cases q
    · rw [e3] at q; cases q
    · rw [e4] at q; cases q
    · rw [e5] at q; cases q
  have hp : a ≠ p := fun z => h.sa (z ▸ mp)
  have hs : sc ≠ p := by
    simp only [List.mem_cons, List.not_mem_nil, or_false] at mp
    rcases mp with z | z | z | z <;> rw [z]
    · intro y
      rw [y, e6] at e2
      cases e2
    · intro y
      rw [y, e3] at e2
      cases e2
    · exact h.sl
    · exact h.sk
  have mp2 : p ∈ [a, sc, wd, la, wl, ct] := by
    simp only [List.mem_cons, List.not_mem_nil, or_false] at mp ⊢
    exact .inr (.inr mp)
  refine ⟨⟨ns, ps, c, sd, g _ _ hp e1, g _ _ hs e2, r⟩, h.D.gw g (h.sep p mp2) nr nt, W', ok', fun b m => ?_, fun m => ?_, ?_, h.sk⟩
  · by_cases z : b = wl'
    · rcases nw with y | y
      · exact h.sep b (by rw [z, y]; simp)
      · intro m2
        simp only [List.mem_cons, List.not_mem_nil, or_false] at m2
        rw [← z] at y
        rcases m2 with m2 | m2 | m2 | m2 <;> rw [m2] at y
        · rw [ob] at y; cases y
        · rw [f1] at y; cases y
        · rw [f2] at y; cases y
        · rw [f3] at y; cases y
    · refine h.sep b ?_
      simp only [List.mem_cons, List.not_mem_nil, or_false] at m ⊢
      rcases m with m | m | m | m | m | m
      · exact .inl m
      · exact .inr (.inl m)
      · exact .inr (.inr (.inl m))
      · exact .inr (.inr (.inr (.inl m)))
      · exact absurd m z
      · exact .inr (.inr (.inr (.inr (.inr m))))
  · have := h.sa
    simp only [List.mem_cons, List.not_mem_nil, or_false, not_or] at m this
    rcases m with m | m | m | m
    · exact this.1 m
    · exact this.2.1 m
    · rcases nw with y | y
      · exact this.2.2.1 (m.trans y)
      · rw [← m, e1] at y
        cases y
    · exact this.2.2.2 m
  · rcases nw with y | y
    · rw [y]
      exact h.sl
    · intro z
      rw [← z, e2] at y
      cases y
/-- what is none of all changes -/
theorem All.off {C : Addr} {H H' : Hp} {a sc x sA eA wA wd la wl ct p : Addr} {d e : Ds} (h : All C H a sc x sA eA wA wd la wl ct d e) (g : Gw p H H') (n1 : p ∉ [a, sc, wd, la, wl, ct]) (n2 : p ∉ [x, sA, eA, wA]) (nr : ∀ b xs, LI H b xs → xs.length = 64 → b ≠ p) (nt : ∀ b l, H b = some (.tup l) → b ≠ p) : All C H' a sc x sA eA wA wd la wl ct d e := by
  have k : ∀ b xs, LI H b xs → xs.length = 64 → LI H' b xs := fun b xs q l => g _ _ (nr b xs q l) q
  simp only [List.mem_cons, List.not_mem_nil, or_false, not_or] at n1
  obtain ⟨ns, ps, c, sd, e1, e2, r⟩ := h.S
  exact ⟨⟨ns, ps, c, sd, g _ _ (Ne.symm n1.1) e1, g _ _ (Ne.symm n1.2.1) e2, r⟩, h.D.gw g n2 nr nt, h.W.keepR h.ok (fun b m o q => g _ _ (fun z => by
    rw [z] at m
    simp only [List.mem_cons, List.not_mem_nil, or_false] at m
    rcases m with m | m | m | m
    · exact n1.2.2.1 m
    · exact n1.2.2.2.1 m
    · exact n1.2.2.2.2.1 m
    · exact n1.2.2.2.2.2 m) q) k (fun b o q => g _ _ (nt b o q) q), h.ok, h.sep, h.sa, h.sl, h.sk⟩
theorem All.free {C : Addr} {H : Hp} {a sc x sA eA wA wd la wl ct p : Addr} {d e : Ds} (h : All C H a sc x sA eA wA wd la wl ct d e) (n : H p = none) : p ∉ [a, sc, wd, la, wl, ct] ∧ p ∉ [x, sA, eA, wA] := by
  refine ⟨fun m => h.here p m n, fun m => ?_⟩
  obtain ⟨dx, ob⟩ := h.D.ob
  obtain ⟨s1, f1, _⟩ := h.D.s.ex
  obtain ⟨s2, f2, _⟩ := h.D.e.ex
  obtain ⟨s3, f3, _⟩ := h.D.w.ex
  simp only [List.mem_cons, List.not_mem_nil, or_false] at m
  rcases m with m | m | m | m <;> rw [m] at n
  · rw [ob] at n; cases n
  · rw [f1] at n; cases n
  · rw [f2] at n; cases n
  · rw [f3] at n; cases n
/-- a place of what lasts -/
theorem All.last {C : Addr} {H : Hp} {a sc x sA eA wA wd la wl ct : Addr} {d e : Ds} {i : Nat} {q : Addr} {r : List Int} (h : All C H a sc x sA eA wA wd la wl ct d e) (hi : i < e.n) (lq : LI H q r) (l64 : r.length = 64) :
    ∃ kvs, H la = some (.dK kvs) ∧ kvs.length ≤ e.n ∧ All C (upd H la (.dK (putK kvs (.inl (i : Nat)) (.ref q)))) a sc x sA eA wA wd la wl ct d { e with st := fun k => if k = i then r else e.st k } := by
  obtain ⟨kvs, e1, l1, L⟩ := h.W.lastF.put hi lq
  obtain ⟨ts, e4, l4, r4⟩ := h.W.waitF.ex
  have nl : ∀ {b : Addr} {l : List V}, H b = some (.lst l) → b ≠ la := fun q z => by rw [z, e1] at q; cases q
  refine ⟨kvs, e1, l1, h.world (p := la) (by simp) Gw.put ⟨by rw [upd_ne h.W.ne]; exact h.W.w, L, ⟨ts, by rw [upd_ne (nl e4)]; exact e4, l4, fun i t j q e f => ?_⟩, by rw [LI, upd_ne (nl h.W.cntF)]; exact h.W.cntF, h.W.ne, h.W.pos⟩ ⟨h.ok.n0, h.ok.n1, fun k hk => ?_, h.ok.ws, h.ok.off⟩ (.inl rfl)⟩
  · obtain ⟨p, g1, g2⟩ := r4 i t j q e f
    exact ⟨p, by rw [upd_ne (fun z => by rw [z, e1] at g1; cases g1)]; exact g1, by rw [LI, upd_ne (nl g2)]; exact g2⟩
  · show (if k = i then r else e.st k).length = 64
    split
    · exact l64
    · exact h.ok.st k hk
end K1
namespace K1
open PySem PySem.Spec PyProof.Rows L2 Ow Po Dd Dk
abbrev s_law_fail : Stmt := topS 20
abbrev N_law_fail : List Str := ["state", "world", "disk", "number"]
theorem sc_law_fail : FnScope N_law_fail ["state", "world", "disk"] (defScope s_law_fail) := ⟨rfl, rfl, rfl, by decide +kernel, rfl, by decide +kernel, by decide +kernel⟩
/-- what a deed leaves -/
def Deed (C a sc x wd la ct : Addr) (d : Ds) (q : Hp → Prop) : Prop := ∀ H' sA' eA' wA' wl' d', All C H' a sc x sA' eA' wA' wd la wl' ct d' d' → d'.n = d.n → d'.ws.length ≤ d.ws.length + 1 → q H'
def spDeed (C : Addr) : Sp := fun vs H Q _ => ∃ (a sc x sA eA wA wd la wl ct : Addr) (d : Ds), vs = [.ref a, .ref wd, .ref x] ∧ All C H a sc x sA eA wA wd la wl ct d d ∧ d.ws.length < 900 ∧ Deed C a sc x wd la ct d fun H' => Q (.bl true) H'
/-- a word of the world -/
theorem All.word {C : Addr} {H : Hp} {a sc x sA eA wA wd la wl ct : Addr} {d e e' : Ds} (h : All C H a sc x sA eA wA wd la wl ct d e) (n : e'.n = e.n) (st : e'.st = e.st) (ws : e'.ws = e.ws) (c : [e'.cr, e'.cw, e'.cl, e'.cs] = [e.cr, e.cw, e.cl, e.cs]) (pos : ∀ k, e'.left = some k → 0 ≤ k) (off : e'.on = false → e'.left = none) :
    All C (upd H wd (.dK (keysW la wl ct e'))) a sc x sA eA wA wd la wl ct d e' := by
  have ew := h.W.w
  obtain ⟨ns, ps, cc, sd, e1, e2, r⟩ := h.S
  have nl : ∀ {b : Addr} {l : List V}, H b = some (.lst l) → b ≠ wd := fun q z => by rw [z, ew] at q; cases q
  refine ⟨⟨ns, ps, cc, sd, by rw [upd_ne (nl e1)]; exact e1, by rw [upd_ne (nl e2)]; exact e2, r⟩, h.D.gw Gw.put (h.sep wd (by simp)) (fun b xs q _ => nl q) (fun b l q z => by rw [z, ew] at q; cases q), h.W.put n st ws c pos, ⟨by rw [n]; exact h.ok.n0, by rw [n]; exact h.ok.n1, by rw [n, st]; exact h.ok.st, by rw [n, ws]; exact h.ok.ws, off⟩, h.sep, h.sa, h.sl, h.sk⟩
section
variable {P : Program} {w : World} {K : PySem.W.Frag} {mg : Str → Option Value} {base : Heap}
theorem ok_lfail {f C CP : Addr} {fd : FuncData} (F : Fun K "_law_fail" "_law_fail" s_law_fail f fd) (T0 : Bl mg) (XPowerOff : ExK K mg CP "PowerOff") (D_law_next : Kn P w K mg base 1 "_law_next" ["state", "limit"] spNext) (Dfailafter : Kmx P w K mg base C 1 "fail_after" ["self", "operations"] (spAfter C CP)) :
    FnOk P w K mg base CX0 2 f fd ["state", "world", "disk"] (spDeed C) := by
  refine F.ok sc_law_fail (fun vs H Q E h => ?_) (fun cdv A outer s H vs Q E hr h => ?_)
  · obtain ⟨a, sc, x, _, _, _, wd, _, _, _, d, rfl, _⟩ := h
    rfl
  · obtain ⟨a, sc, x, sA, eA, wA, wd, la, wl, ct, d, rfl, h, hw, q⟩ := h
    have hu := hu_of hr
    refine ⟨_, (pss_cons (ps_set (i := 3) sc_law_fail.nd rfl (.inl rfl) (pe_kn D_law_next hr (pa_cons (pv 0) (pa_cons pe_int pa_nil))))
      (pss_cons (ps_try_only rfl rfl ⟨rfl, by decide, .inl XPowerOff.g⟩ takes0 (fun W pn xe tk _ => (pss_one (ps_expr (pe_mx Dfailafter hr tk (pv 2) (pa_cons (pv 3) pa_nil))))) (fun a oe cls d pn _ _ => (pss_one (ps_ret (pe_not (pe_dget hu (pv 1) pe_str (fun _ _ => rfl)))))))
      (pss_cons (ps_if (pt_not (pt_val (pe_dget (hu_of hr) (pv 1) pe_str (fun _ _ => rfl)))) (pss_one (ps_ret pe_bl)) pss_nil)
      (pss_cons (ps_asg (pv 3) (pg_sub (pv 1) pe_str (set_dict (hu_of hr))))
      (pss_one (ps_ret pe_bl)))))), ?_⟩
    refine ⟨_, rfl, a, sc, 7, rfl, h.S, by decide, by decide, fun H1 r S1 g1 r0 r1 => ?_⟩
    have h1 := h.next S1 g1
    obtain ⟨dx, ob⟩ := h1.D.ob
    refine ⟨_, rfl, x, dx, _, rfl, ob, rfl, _, rfl, x, sA, eA, wA, d, r, rfl, h1.D, fun on H2 D2 g2 => ?_, fun off => ?_⟩
    · have h2 := h1.disk D2 (nw_refl _ _) (bx_of_gw List.mem_cons_self g2)
      refine ⟨_, rfl, wd, _, rfl, DGet.k (k := Sum.inr "on") h2.W.w, _, rfl, ?_⟩
      rw [on]
      refine iteF ?_
      refine ⟨_, rfl, _, rfl, wd, _, rfl, DPut.k (k := Sum.inr "left") h2.W.w (by show 8 < sizeLine; decide), ?_⟩
      have h3 := h2.word (e' := { d with left := some r }) rfl rfl rfl rfl (fun k z => by cases z; exact r0) (fun z => by rw [on] at z; cases z)
      exact q _ _ _ _ _ _ h3 rfl (Nat.le_succ _)
    · refine ⟨true, XPowerOff.te, fun _ a' ha' => ?_, fun q => nomatch q⟩
      refine ⟨_, rfl, wd, _, rfl, DGet.k (k := Sum.inr "on") h1.W.w, _, rfl, ?_⟩
      rw [off]
      exact q _ _ _ _ _ _ h1 rfl (Nat.le_succ _)
end
end K1
namespace K1
open PySem PySem.Spec PyProof.Rows L2 Ow Po Dd Dk
abbrev s_law_sync : Stmt := topS 19
abbrev N_law_sync : List Str := ["world", "disk", "due", "done", "index", "data"]
theorem sc_law_sync : FnScope N_law_sync ["world", "disk"] (defScope s_law_sync) := ⟨rfl, rfl, rfl, by decide +kernel, rfl, by decide +kernel, by decide +kernel⟩
theorem oper_ok {d : Ds} (ok : Okd d) : Okd (operF d).1 := by
  obtain ⟨k1, k2, k3⟩ := oper_keep d
  refine ⟨by rw [k1]; exact ok.n0, by rw [k1]; exact ok.n1, by rw [k1, k3]; exact ok.st, by rw [k1, k2]; exact ok.ws, ?_⟩
  unfold operF
  split
  · exact ok.off
  · rename_i z
    split
    · exact ok.off
    · split
      · exact fun _ => rfl
      · exact fun y => absurd y z
/-- behind _law_operate -/
theorem All.oper {C : Addr} {H H' : Hp} {a sc x sA eA wA wd la wl ct : Addr} {d e : Ds} (h : All C H a sc x sA eA wA wd la wl ct d e) (W' : WorldAt H' wd la wl ct (operF e).1) (g : Gw wd H H') : All C H' a sc x sA eA wA wd la wl ct d (operF e).1 :=
  h.world (p := wd) (by simp) g W' (oper_ok h.ok) (.inl rfl)
theorem All.kinds {C : Addr} {H : Hp} {a sc x sA eA wA wd la wl ct : Addr} {d e : Ds} (h : All C H a sc x sA eA wA wd la wl ct d e) : wd ≠ ct ∧ wd ≠ wl ∧ la ≠ ct ∧ la ≠ wl ∧ wl ≠ ct := by
  obtain ⟨kvs, e3, _⟩ := h.W.lastF.ex
  obtain ⟨ts, e4, _⟩ := h.W.waitF.ex
  have e5 := h.W.cntF
  have e6 := h.W.w
  refine ⟨fun z => ?_, fun z => ?_, fun z => ?_, fun z => ?_, fun z => ?_⟩
  · rw [← z, LI, e6] at e5; cases e5
  · rw [← z, e6] at e4; cases e4
  · rw [← z, LI, e3] at e5; cases e5
  · rw [← z, e3] at e4; cases e4
  · rw [← z, LI, e4] at e5
    cases ts with
    | nil => cases e5
    | cons t ts => cases e5
theorem cnt_far {H : Hp} {b ct : Addr} {xs : List Int} {r w l s : Int} (e : LI H b xs) (l64 : xs.length = 64) (e5 : LI H ct [r, w, l, s]) : b ≠ ct := by
  intro z
  rw [LI, z, e5] at e
  injection e with e
  injection e with e
  have := congrArg List.length e
  rw [List.length_map, List.length_map, l64] at this
  cases this
/-- the counts -/
theorem All.cnt {C : Addr} {H : Hp} {a sc x sA eA wA wd la wl ct : Addr} {d e : Ds} (h : All C H a sc x sA eA wA wd la wl ct d e) (r w l s : Int) : All C (upd H ct (.lst ([r, w, l, s].map V.int))) a sc x sA eA wA wd la wl ct d { e with cr := r, cw := w, cl := l, cs := s } := by
  obtain ⟨k1, k2, k3, k4, k5⟩ := h.kinds
  have e5 := h.W.cntF
  have k : ∀ b xs, LI H b xs → xs.length = 64 → LI (upd H ct (.lst ([r, w, l, s].map V.int))) b xs := fun b xs q z => by
    rw [LI, upd_ne (cnt_far q z e5)]
    exact q
  exact h.world (p := ct) (by simp) Gw.put ⟨by rw [upd_ne k1]; exact h.W.w, h.W.lastF.keepR h.ok.st (fun o q => by rw [upd_ne k3]; exact q) k, h.W.waitF.keepR (fun j r m => (h.ok.ws j r m).2) (fun o q => by rw [upd_ne k5]; exact q) k (fun b o q => by rw [upd_ne (fun z => by rw [z, e5] at q; cases q)]; exact q), upd_same, h.W.ne, h.W.pos⟩ ⟨h.ok.n0, h.ok.n1, h.ok.st, h.ok.ws, h.ok.off⟩ (.inl rfl)
/-- nothing waits any more -/
theorem All.wait0g {C : Addr} {H H' : Hp} {a sc x sA eA wA wd la wl ct p : Addr} {d e : Ds} (h : All C H a sc x sA eA wA wd la wl ct d e) (np : H p = none) (e' : Ds) (g : Gw wd H H') (ep : H' p = some (.lst [])) (ew : H' wd = some (.dK (keysW la p ct e'))) (n : e'.n = e.n) (st : e'.st = e.st) (ws : e'.ws = []) (c : [e'.cr, e'.cw, e'.cl, e'.cs] = [e.cr, e.cw, e.cl, e.cs]) (pos : ∀ k, e'.left = some k → 0 ≤ k) (off : e'.on = false → e'.left = none) :
    All C H' a sc x sA eA wA wd la p ct d e' := by
  obtain ⟨k1, k2, k3, k4, k5⟩ := h.kinds
  have e6 := h.W.w
  have nl : ∀ {b : Addr} {l : List V}, H b = some (.lst l) → b ≠ wd := fun q z => by rw [z, e6] at q; cases q
  refine h.world (p := wd) (by simp) g ⟨ew, ?_, ?_, ?_, h.W.ne, pos⟩ ⟨by rw [n]; exact h.ok.n0, by rw [n]; exact h.ok.n1, by rw [n, st]; exact h.ok.st, by rw [ws]; exact fun j r m => (nomatch m), off⟩ (.inr np)
  · rw [n, st]
    exact h.W.lastF.keepR h.ok.st (fun o q => g _ _ h.W.ne.symm q) (fun b xs q _ => g _ _ (nl q) q)
  · rw [ws]
    exact ⟨[], ep, rfl, fun i t j r q => by simp at q⟩
  · rw [c]
    exact g _ _ k1.symm h.W.cntF
theorem All.wait0 {C : Addr} {H : Hp} {a sc x sA eA wA wd la wl ct p : Addr} {d e : Ds} (h : All C H a sc x sA eA wA wd la wl ct d e) (np : H p = none) (e' : Ds) (n : e'.n = e.n) (st : e'.st = e.st) (ws : e'.ws = []) (c : [e'.cr, e'.cw, e'.cl, e'.cs] = [e.cr, e.cw, e.cl, e.cs]) (pos : ∀ k, e'.left = some k → 0 ≤ k) (off : e'.on = false → e'.left = none) :
    All C (upd (upd H p (.lst [])) wd (.dK (keysW la p ct e'))) a sc x sA eA wA wd la p ct d e' :=
  h.wait0g np e' ((Gw.new np).trans Gw.put) (by rw [upd_ne (fun z => by have e6 := h.W.w; rw [← z, np] at e6; cases e6), upd_same]) upd_same n st ws c pos off
def spLSync (C : Addr) : Sp := fun vs H Q _ => ∃ (a sc x sA eA wA wd la wl ct : Addr) (d : Ds), vs = [.ref wd, .ref x] ∧ All C H a sc x sA eA wA wd la wl ct d d ∧ d.ws.length < 900 ∧ Deed C a sc x wd la ct d fun H' => Q (.bl true) H'
section
variable {P : Program} {w : World} {K : PySem.W.Frag} {mg : Str → Option Value} {base : Heap}
theorem ok_lsync {f C CP : Addr} {fd : FuncData} (F : Fun K "_law_sync" "_law_sync" s_law_sync f fd) (T0 : Bl mg) (XPowerOff : ExK K mg CP "PowerOff") (D_law_operate : Kn P w K mg base 1 "_law_operate" ["world"] spLOper) (Dsync : Kmx P w K mg base C 3 "sync" ["self"] (spSync C CP)) :
    FnOk P w K mg base CX0 4 f fd ["world", "disk"] (spLSync C) := by
  refine F.ok sc_law_sync (fun vs H Q E h => ?_) (fun cdv A outer s H vs Q E hr h => ?_)
  · obtain ⟨a, sc, x, _, _, _, wd, _, _, _, d, rfl, _⟩ := h
    rfl
  · obtain ⟨a, sc, x, sA, eA, wA, wd, la, wl, ct, d, rfl, h, hw, q⟩ := h
    have hu := hu_of hr
    refine ⟨_, (pss_cons (ps_set (i := 2) sc_law_sync.nd rfl (.inl rfl) (pe_kn D_law_operate hr (pa_cons (pv 0) pa_nil)))
      (pss_cons (ps_try_only rfl rfl ⟨rfl, by decide, .inl XPowerOff.g⟩ takes0 (fun W pn xe tk _ => (pss_one (ps_set (i := 3) sc_law_sync.nd rfl (.inl rfl) (pe_cmpR op_isN (pe_mx0 Dsync hr tk (pv 1)) pe_non (nomark _))))) (fun a oe cls d pn _ _ => (pss_one (ps_ret (pe_not (pv 2))))))
      (pss_cons (ps_for PassesOwn.never rfl (pi_list (pe_dget (hu_of hr) (pv 0) pe_str (fun _ _ => rfl))) (pg_tup rfl (pgs_cons (pg_name (i := 4) sc_law_sync.nd rfl (.inl rfl)) (pgs_cons (pg_name (i := 5) sc_law_sync.nd rfl (.inl rfl)) pgs_nil))) (pss_one (ps_asg (pv 5) (pg_sub (pe_dget (hu_of hr) (pv 0) pe_str (fun _ _ => rfl)) (pv 4) (set_dict (hu_of hr))))))
      (pss_cons (ps_asg (pe_lst pa_nil) (pg_sub (pv 0) pe_str (set_dict (hu_of hr))))
      (pss_cons (ps_augS (pe_dget (hu_of hr) (pv 0) pe_str (fun _ _ => rfl)) pe_int pget_list pe_int ip_add set_list)
      (pss_one (ps_ret (pe_and (pv 3) (pe_one (pv 2)))))))))), ?_⟩
    refine ⟨_, rfl, wd, la, wl, ct, d, rfl, h.W, fun H1 W1 g1 => ?_⟩
    have h1 := h.oper W1 g1
    obtain ⟨dx, ob⟩ := h1.D.ob
    have k1 : (operF d).1.n = d.n := (oper_keep d).1
    have k2 : (operF d).1.ws = d.ws := (oper_keep d).2.1
    refine ⟨_, rfl, x, dx, _, rfl, ob, rfl, x, sA, eA, wA, d, rfl, h1.D, fun ho H2 sA' eA' wA' D2 nw2 bx2 => ⟨rfl, ?_⟩, fun ho H2 sA' eA' wA' D2 nw2 bx2 => ?_⟩
    · have h2 := h1.disk D2 nw2 bx2
      rw [ho]
      generalize (operF d).1 = d1 at h2 k1 k2
      obtain ⟨ts, et, lt, _⟩ := h2.W.waitF.ex
      refine ⟨_, rfl, wd, _, rfl, DGet.k (k := Sum.inr "waiting") h2.W.w, wl, rfl, ⟨_, SqL.of et⟩, for_list (xs := ts.map V.ref) (fun k σ H' => ∃ v4 v5, σ = [some (.ref wd), some (.ref x), some (.bl true), some (.bl true), v4, v5] ∧ All C H' a sc x sA' eA' wA' wd la wl ct (syncF d1) { d1 with st := seenF d1.st (d1.ws.take k) } ∧ H' wl = some (.lst (ts.map V.ref)))
        ⟨none, none, rfl, h2, et⟩ (fun _ _ _ _ ⟨_, _, _, _, e⟩ => SqL.of e) ?_ ?_⟩
      · rintro k v σ H3 ek ⟨v4, v5, rfl, h3, e3⟩
        obtain ⟨ts', et', lt', gt'⟩ := h3.W.waitF.ex
        rw [e3] at et'
        injection et' with et'
        injection et' with et'
        have et' := refs_inj et'
        subst et'
        have hk := (List.getElem?_eq_some_iff.mp ek).1
        rw [List.length_map] at hk
        have etk : ts[k]? = some ts[k] := List.getElem?_eq_getElem hk
        rw [List.getElem?_map, etk] at ek
        cases ek
        have ew : d1.ws[k]? = some (d1.ws[k]'(by rw [← lt]; exact hk)) := List.getElem?_eq_getElem _
        obtain ⟨⟨j, r⟩, ej⟩ : ∃ jr : Nat × List Int, d1.ws[k]'(by rw [← lt]; exact hk) = jr := ⟨_, rfl⟩
        rw [ej] at ew
        obtain ⟨p, ep, lp⟩ := gt' k _ j r etk ew
        obtain ⟨jn, r64⟩ := h3.ok.ws j r (List.mem_of_getElem? ew)
        obtain ⟨kvs, el, ll, h4⟩ := h3.last jn lp r64
        refine ⟨_, _, rfl, SqT.of ep, rfl, _, _, rfl, _, _, rfl, rfl, ?_⟩
        refine ⟨_, rfl, _, rfl, wd, _, rfl, DGet.k (k := Sum.inr "lasting") h3.W.w, _, rfl, la, _, rfl, DPut.k (k := Sum.inl (j : Int)) el (small (Nat.le_trans ll h3.ok.n1) (by decide)), _, _, rfl, ?_, ?_⟩
        · have z : d1.ws.take (k + 1) = d1.ws.take k ++ [(j, r)] := by
            rw [List.take_succ, ew]
            rfl
          rw [z, seen_snoc]
          exact h4
        · rw [upd_ne h3.kinds.2.2.2.1.symm]
          exact e3
      · rintro σ H3 ⟨v4, v5, rfl, h3, e3⟩
        rw [List.length_map, lt, List.take_length] at h3
        refine ⟨by show 0 ≤ sizeLine; decide, fun p np => ⟨_, rfl, wd, _, rfl, DPut.k (k := Sum.inr "waiting") (Same.new np _ _ h3.W.w) (by show 8 < sizeLine; decide), ?_⟩⟩
        have h4 := h3.wait0 np { d1 with st := seenF d1.st d1.ws, ws := [] } rfl rfl rfl rfl h3.W.pos h3.ok.off
        refine ⟨_, rfl, wd, _, rfl, DGet.k (k := Sum.inr "counts") h4.W.w, ct, _, 3, .int d1.cs, rfl, rfl, SqL.of h4.W.cntF, rfl, _, _, rfl, rfl, ct, _, 3, 3, rfl, rfl, h4.W.cntF, rfl, ?_⟩
        have h5 := h4.cnt d1.cr d1.cw d1.cl (d1.cs + 1)
        refine ⟨_, rfl, true, rfl, iteT ⟨_, rfl, ?_⟩⟩
        exact q _ _ _ _ _ (syncF d1) h5 k1 (Nat.zero_le _)
    · refine ⟨true, XPowerOff.te, fun _ a' ha' => ?_, fun q => nomatch q⟩
      refine ⟨_, rfl, _, rfl, ?_⟩
      rw [ho]
      exact q _ _ _ _ _ _ (h1.disk D2 nw2 bx2) k1 (by rw [k2]; exact Nat.le_succ _)
end
end K1
namespace K1
open PySem PySem.Spec PyProof.Rows L2 Ow Po Dd Dk
abbrev s_law_write : Stmt := topS 18
abbrev N_law_write : List Str := ["state", "world", "disk", "index", "data", "due", "passed", "done", "k"]
theorem sc_law_write : FnScope N_law_write ["state", "world", "disk"] (defScope s_law_write) := ⟨rfl, rfl, rfl, by decide +kernel, rfl, by decide +kernel, by decide +kernel⟩
theorem All.wait {C : Addr} {H : Hp} {a sc x sA eA wA wd la wl ct t D : Addr} {d e : Ds} {i : Nat} {r : List Int} {ts : List Addr} (h : All C H a sc x sA eA wA wd la wl ct d e) (nt : H t = none) (eD : LI H D r) (r64 : r.length = 64) (hi : i < e.n) (ew : H wl = some (.lst (ts.map V.ref))) (e' : Ds) (n : e'.n = e.n) (st : e'.st = e.st) (ws : e'.ws = e.ws ++ [(i, r)]) (c : [e'.cr, e'.cw, e'.cl, e'.cs] = [e.cr, e.cw, e.cl, e.cs]) (o : e'.on = e.on) (l : e'.left = e.left) (lo : e'.lost = e.lost) :
    All C (upd (upd H t (.tup [.int (i : Nat), .ref D])) wl (.lst (ts.map V.ref ++ [.ref t]))) a sc x sA eA wA wd la wl ct d e' := by
  obtain ⟨k1, k2, k3, k4, k5⟩ := h.kinds
  have g : Gw wl H (upd (upd H t (.tup [.int (i : Nat), .ref D])) wl (.lst (ts.map V.ref ++ [.ref t]))) := (Gw.new nt).trans Gw.put
  have k : ∀ b xs, LI H b xs → xs.length = 64 → LI (upd (upd H t (.tup [.int (i : Nat), .ref D])) wl (.lst (ts.map V.ref ++ [.ref t]))) b xs := fun b xs q z => g _ _ (row_ne q z ew) q
  have tw : t ≠ wl := fun z => by rw [z, ew] at nt; cases nt
  refine h.world (p := wl) (by simp) g ⟨?_, ?_, ?_, ?_, h.W.ne, by rw [l]; exact h.W.pos⟩ ⟨by rw [n]; exact h.ok.n0, by rw [n]; exact h.ok.n1, by rw [n, st]; exact h.ok.st, fun j q m => ?_, by rw [o, l]; exact h.ok.off⟩ (.inl rfl)
  · have : keysW la wl ct e' = keysW la wl ct e := by unfold keysW; rw [n, o, l, lo]
    rw [this]
    exact g _ _ k2 h.W.w
  · rw [n, st]
    exact h.W.lastF.keepR h.ok.st (fun o q => g _ _ k4 q) k
  · rw [ws]
    obtain ⟨ts', e1, l1, r1⟩ := h.W.waitF.ex
    rw [ew] at e1
    injection e1 with e1
    injection e1 with e1
    have e1 := refs_inj e1
    subst e1
    refine ⟨ts ++ [t], by rw [upd_same, List.map_append]; rfl, by rw [List.length_append, List.length_append, l1]; rfl, fun j u m y f1 f2 => ?_⟩
    by_cases z : j < ts.length
    · rw [List.getElem?_append_left z] at f1
      rw [List.getElem?_append_left (by rw [← l1]; exact z)] at f2
      obtain ⟨q, g1, g2⟩ := r1 j u m y f1 f2
      exact ⟨q, g _ _ (fun z => by rw [z, ew] at g1; cases g1) g1, k _ _ g2 (h.ok.ws m y (List.mem_of_getElem? f2)).2⟩
    · have hj := (List.getElem?_eq_some_iff.mp f1).1
      rw [List.length_append, List.length_singleton] at hj
      have : j = ts.length := by omega
      subst this
      have a1 : t = u := by simpa using f1
      rw [l1] at f2
      have a2 : (i, r) = (m, y) := by simpa using f2
      cases a2
      subst a1
      exact ⟨D, by rw [upd_ne tw, upd_same], k _ _ eD r64⟩
  · rw [c]
    exact g _ _ k5.symm h.W.cntF
  · rw [ws] at m
    rw [n]
    rcases List.mem_append.mp m with m | m
    · exact h.ok.ws j q m
    · rw [List.mem_singleton] at m
      cases m
      exact ⟨hi, r64⟩
section
variable {P : Program} {w : World} {K : PySem.W.Frag} {mg : Str → Option Value} {base : Heap}
theorem ok_lwrite {f C CP : Addr} {fd : FuncData} (F : Fun K "_law_write" "_law_write" s_law_write f fd) (T0 : Bl mg) (XPowerOff : ExK K mg CP "PowerOff") (D_law_next : Kn P w K mg base 1 "_law_next" ["state", "limit"] spNext) (D_law_operate : Kn P w K mg base 1 "_law_operate" ["world"] spLOper) (Dwrite : Kmx P w K mg base C 3 "write" ["self", "index", "data"] (spWrite C CP)) :
    FnOk P w K mg base CX0 4 f fd ["state", "world", "disk"] (spDeed C) := by
  refine F.ok sc_law_write (fun vs H Q E h => ?_) (fun cdv A outer s H vs Q E hr h => ?_)
  · obtain ⟨a, sc, x, _, _, _, wd, _, _, _, d, rfl, _⟩ := h
    rfl
  · obtain ⟨a, sc, x, sA, eA, wA, wd, la, wl, ct, d, rfl, h, hw, q⟩ := h
    have hu := hu_of hr
    refine ⟨_, (pss_cons (ps_set (i := 3) sc_law_write.nd rfl (.inl rfl) (pe_ix ix_list (pe_lst (pa_cons pe_int (pa_cons pe_int (pa_cons (pe_op op_sub (pe_dget (hu_of hr) (pv 1) pe_str (fun _ _ => rfl)) pe_int) (pa_cons (pe_kn D_law_next hr (pa_cons (pv 0) (pa_cons (pe_dget (hu_of hr) (pv 1) pe_str (fun _ _ => rfl)) pa_nil))) pa_nil))))) (pe_kn D_law_next hr (pa_cons (pv 0) (pa_cons pe_int pa_nil))) (fun _ _ => rfl)))
      (pss_cons (ps_setLc (i := 4) (own := [("k", 8)]) (g := gName 8) (tt := tYes) rfl sc_law_write.nd rfl rfl (sw_true rfl rfl rfl (by decide +kernel)) (pi_range1 (by rfl) T0.range (pa_cons pe_int pa_nil)) (blkOk_by (own := [("k", 8)]) (N := N_law_write) (sc := defScope s_law_write) (by decide +kernel)) (fun _ _ _ _ _ => pg_name (i := 8) sc_law_write.nd rfl (Or.inl rfl)) (fun _ _ _ _ _ => pts_nil) (fun _ _ _ _ _ => (pe_op op_mod (pe_op op_add (pe_kn D_law_next hr (pa_cons (pv 0) (pa_cons pe_int pa_nil))) (pe_op op_mul pe_int (pv 8))) pe_int)))
      (pss_cons (ps_set (i := 5) sc_law_write.nd rfl (.inl rfl) (pe_kn D_law_operate hr (pa_cons (pv 1) pa_nil)))
      (pss_cons (ps_set (i := 6) sc_law_write.nd rfl (.inl rfl) (pe_callTy call_list_of (by rfl) T0.list (by decide +kernel) (pa_cons (pv 4) pa_nil)))
      (pss_cons (ps_try_only rfl rfl ⟨rfl, by decide, .inl XPowerOff.g⟩ takes0 (fun W pn xe tk _ => (pss_one (ps_set (i := 7) sc_law_write.nd rfl (.inl rfl) (pe_cmpR op_isN (pe_mx Dwrite hr tk (pv 2) (pa_cons (pv 3) (pa_cons (pv 6) pa_nil))) pe_non (nomark _))))) (fun a oe cls d pn _ _ => (pss_one (ps_ret (pe_not (pv 5))))))
      (pss_cons (ps_asg pe_int (pg_sub (pv 6) pe_int set_list))
      (pss_cons (ps_expr (pe_bm PySem.F.plainAttrs_list PySem.F.slot_list_append PySem.F.type_list_append mt_append (pe_dget (hu_of hr) (pv 1) pe_str (fun _ _ => rfl)) (pa_cons (pe_tup (pa_cons (pv 3) (pa_cons (pv 4) pa_nil))) pa_nil)))
      (pss_cons (ps_augS (pe_dget (hu_of hr) (pv 1) pe_str (fun _ _ => rfl)) (pe_op op_add pe_int (pe_callTy call_int1 (by rfl) T0.int (by decide +kernel) (pa_cons (pe_cmpR op_lt (pv 3) (pe_dget (hu_of hr) (pv 1) pe_str (fun _ _ => rfl)) (nomark _)) pa_nil))) pget_list pe_int ip_add set_list)
      (pss_one (ps_ret (pe_and (pv 7) (pe_one (pv 5))))))))))))), ?_⟩
    have n0 := h.ok.n0
    have n1 := h.ok.n1
    refine ⟨_, rfl, wd, _, rfl, DGet.k (k := Sum.inr "size") h.W.w, _, _, rfl, rfl, ?_⟩
    refine ⟨_, rfl, _, rfl, wd, _, rfl, DGet.k (k := Sum.inr "size") h.W.w, a, sc, (d.n : Nat), rfl, h.S, by omega, by omega, fun H1 r S1 g1 r0 r1 => ⟨by show 4 ≤ sizeLine; decide, fun l nl => ?_⟩⟩
    have h1 := (h.next S1 g1).same (Same.new (o := .lst [.int 0, .int 1, .int ((d.n : Nat) - 1), .int r]) nl)
    have la0 : l ≠ a := fun z => (h.next S1 g1).here a (by simp) (z ▸ nl)
    refine ⟨_, rfl, a, sc, 4, rfl, h1.S, by decide, by decide, fun H2 r' S2 g2 s0 s1 => ?_⟩
    have h2 := h1.next S2 g2
    have el : H2 l = some (.lst [.int 0, .int 1, .int ((d.n : Nat) - 1), .int r]) := g2 _ _ la0 upd_same
    obtain ⟨y, ey, my⟩ := at_in (xs := [V.int 0, .int 1, .int ((d.n : Nat) - 1), .int r]) s0 s1
    refine ⟨l, _, _, y, rfl, rfl, SqL.of el, ey, ?_⟩
    obtain ⟨i, rfl, hi⟩ : ∃ i : Nat, y = .int (i : Nat) ∧ i < d.n := by
      simp only [List.mem_cons, List.not_mem_nil, or_false] at my
      rcases my with z | z | z | z
      · exact ⟨0, z, by omega⟩
      · exact ⟨1, z, by omega⟩
      · exact ⟨d.n - 1, by rw [z]; congr 1; omega, by omega⟩
      · exact ⟨r.toNat, by rw [z]; congr 1; omega, by omega⟩
    refine ⟨_, rfl, by decide, by decide, fun D nD => ?_⟩
    obtain ⟨fr1, fr2⟩ := h2.free nD
    refine lc_it (walk_range (lo := 0) (n := 64)) (fun k H' => All C H' a sc x sA eA wA wd la wl ct d d ∧ ∃ xs : List Int, LI H' D xs ∧ xs.length = k) ⟨h2.same (Same.new nD), [], upd_same, rfl⟩ (fun _ _ _ _ => trivial) (fun k v H3 H3' hk ⟨h3, xs, eD, lx⟩ yy => ?_) fun H3 ⟨h3, xs, eD, lx⟩ => ?_
    · obtain ⟨rfl, rfl⟩ := yy
      refine ⟨rfl, ?_⟩
      refine ⟨_, rfl, a, sc, 256, rfl, h3.S, by decide, by decide, fun H4 r S4 g4 r0 r1 => ?_⟩
      have h4 := h3.next S4 g4
      have eD4 : LI H4 D xs := g4 _ _ (fun z => fr1 (by rw [z]; simp)) eD
      refine ⟨_, rfl, _, _, rfl, rfl, .inl ⟨by decide, by decide⟩, _, _, rfl, rfl, _, _, rfl, rfl, (by show (0 : Int) < 256; decide), _, eD4, by rw [List.length_map, lx]; exact small (Nat.le_of_lt hk) (by decide), h4.off Gw.put fr1 fr2 (fun b ys e l z => ?_) (fun b ys e z => by rw [z, eD4] at e; cases e), xs ++ [(r + 7 * (0 + (k : Int))) % 256], ?_, by rw [List.length_append, lx]; rfl⟩
      · rw [LI, z, eD4] at e
        injection e with e
        injection e with e
        have := congrArg List.length e
        rw [List.length_map, List.length_map, lx, l] at this
        omega
      · rw [LI, upd_same, List.map_append]
        rfl
    · refine ⟨_, rfl, wd, la, wl, ct, d, rfl, h3.W, fun H4 W4 g4 => ?_⟩
      have h4 := h3.oper W4 g4
      have eD4 : LI H4 D xs := g4 _ _ (fun z => fr1 (by rw [z]; simp)) eD
      have k1 : (operF d).1.n = d.n := (oper_keep d).1
      have k2 : (operF d).1.ws = d.ws := (oper_keep d).2.1
      refine ⟨_, rfl, D, _, rfl, .inl (SqL.of eD4), fun p np => ?_⟩
      have h5 := h4.same (Same.new (o := .lst (xs.map V.int)) np)
      obtain ⟨dx, ob⟩ := h5.D.ob
      obtain ⟨fp1, fp2⟩ := h4.free np
      have nrp : NoRow (upd H4 p (.lst (xs.map V.int))) sA eA wA p := by
        refine NoRow.same h4.D (NoRow.new h4.D np) (fun b o nb e _ => by rw [upd_ne nb]; exact e) (fun m => fp2 (by simp only [List.mem_cons, List.not_mem_nil, or_false] at m ⊢; exact .inr m)) (fun l z => by rw [np] at z; cases z)
      refine ⟨_, rfl, x, dx, _, rfl, ob, rfl, _, rfl, _, rfl, x, sA, eA, wA, d, i, p, xs, rfl, h5.D, hi, upd_same, lx, by omega, nrp, fun ho H6 D6 bx6 nr6 => ⟨rfl, ?_⟩, fun ho H6 sA' eA' wA' D6 nw6 bx6 => ?_⟩
      · rw [ho]
        generalize (operF d).1 = d1 at h4 h5 D6 k1 k2
        have ep6 : LI H6 p xs := bx6 _ _ fp2 upd_same
        have D7 := DiskAt.off D6 (o := .lst ((xs.map V.int).set 0 (.int 300))) nr6 fp2 (fun l z => by rw [ep6] at z; cases z)
        have bx7 : Bx [x, sA, eA, wA] H4 (upd H6 p (.lst ((xs.map V.int).set 0 (.int 300)))) := fun b o nb e => by
          rw [upd_ne (ne_of_none e np)]
          exact bx6 b o nb (Same.new np _ _ e)
        have h7 := h4.disk D7 (nw_refl _ _) bx7
        refine ⟨_, rfl, p, _, 0, 0, rfl, rfl, ep6, ixN_nat (j := 0) (by rw [List.length_map, lx]; decide), ?_⟩
        have eD7 : LI (upd H6 p (.lst ((xs.map V.int).set 0 (.int 300)))) D xs := bx7 _ _ fr2 eD4
        generalize (upd H6 p (.lst ((xs.map V.int).set 0 (.int 300)))) = H7 at h7 eD7 ⊢
        obtain ⟨ts, ew, lt, _⟩ := h7.W.waitF.ex
        refine ⟨_, rfl, wd, _, rfl, DGet.k (k := Sum.inr "waiting") h7.W.w, .inl ⟨rfl, _, SqL.of ew⟩, _, rfl, _, rfl, by show 2 ≤ sizeLine; decide, fun t nt => ⟨wl, _, _, rfl, rfl, Same.new nt _ _ ew, by rw [List.length_map, lt, k2]; exact small (Nat.le_of_lt hw) (by decide), ?_⟩⟩
        have h8 := h7.wait nt eD7 lx (i := i) (by rw [k1]; exact hi) ew { d1 with ws := d1.ws ++ [(i, xs)] } rfl rfl rfl rfl rfl rfl rfl
        refine ⟨_, rfl, wd, _, rfl, DGet.k (k := Sum.inr "counts") h8.W.w, _, rfl, _, rfl, wd, _, rfl, DGet.k (k := Sum.inr "low") h8.W.w, _, _, rfl, rfl, .inr ⟨_, rfl, _, _, rfl, rfl, ?_⟩⟩
        generalize upd (upd H7 t (.tup [.int (i : Nat), .ref D])) wl (.lst (ts.map V.ref ++ [.ref t])) = H8 at h8 ⊢
        have fin : ∀ H', All C H' a sc x sA eA wA wd la wl ct (writeF d1 i xs) (writeF d1 i xs) → Q (.bl true) H' := fun H' h' => q _ _ _ _ _ _ h' (by unfold writeF; split <;> exact k1) (by unfold writeF; split <;> simp [k2])
        by_cases z : (i : Int) < lowF d1.n
        · have ez : writeF d1 i xs = { d1 with ws := d1.ws ++ [(i, xs)], cl := d1.cl + 1 } := by unfold writeF; rw [if_pos z]
          rw [ez] at h8 fin
          rw [decide_eq_true (show (i : Int) < lowF d1.n from z)]
          refine ⟨ct, _, 2, .int d1.cl, rfl, rfl, SqL.of h8.W.cntF, rfl, _, _, rfl, rfl, ct, _, 2, 2, rfl, rfl, h8.W.cntF, rfl, ?_⟩
          refine ⟨_, rfl, true, rfl, iteT ⟨_, rfl, ?_⟩⟩
          exact fin _ (h8.cnt d1.cr d1.cw (d1.cl + 1) d1.cs)
        · have ez : writeF d1 i xs = { d1 with ws := d1.ws ++ [(i, xs)], cw := d1.cw + 1 } := by unfold writeF; rw [if_neg z]
          rw [ez] at h8 fin
          rw [decide_eq_false (show ¬ (i : Int) < lowF d1.n from z)]
          refine ⟨ct, _, 1, .int d1.cw, rfl, rfl, SqL.of h8.W.cntF, rfl, _, _, rfl, rfl, ct, _, 1, 1, rfl, rfl, h8.W.cntF, rfl, ?_⟩
          refine ⟨_, rfl, true, rfl, iteT ⟨_, rfl, ?_⟩⟩
          exact fin _ (h8.cnt d1.cr (d1.cw + 1) d1.cl d1.cs)
      · refine ⟨true, XPowerOff.te, fun _ a' ha' => ?_, fun q => nomatch q⟩
        refine ⟨_, rfl, _, rfl, ?_⟩
        rw [ho]
        exact q _ _ _ _ _ _ (h5.disk D6 nw6 bx6) k1 (by rw [k2]; exact Nat.le_succ _)
end
end K1
namespace K1
open PySem PySem.Spec PyProof.Rows L2 Ow Po Dd Dk
abbrev s_law_power : Stmt := topS 21
abbrev N_law_power : List Str := ["state", "world", "disk", "k", "kept"]
theorem sc_law_power : FnScope N_law_power ["state", "world", "disk"] (defScope s_law_power) := ⟨rfl, rfl, rfl, by decide +kernel, rfl, by decide +kernel, by decide +kernel⟩
abbrev s_law_deed : Stmt := topS 22
abbrev N_law_deed : List Str := ["state", "world", "disk", "pick", "count"]
theorem sc_law_deed : FnScope N_law_deed ["state", "world", "disk"] (defScope s_law_deed) := ⟨rfl, rfl, rfl, by decide +kernel, rfl, by decide +kernel, by decide +kernel⟩
theorem bl_far {H : Hp} {b D : Addr} {xs : List Int} {bs : List Bool} (e : LI H b xs) (l64 : xs.length = 64) (e5 : H D = some (.lst (bs.map V.bl))) : b ≠ D := by
  intro z
  rw [LI, z, e5] at e
  injection e with e
  injection e with e
  cases xs with
  | nil => cases l64
  | cons x xs =>
    cases bs with
    | nil => cases e
    | cons y bs => cases e
theorem powerE (d : Ds) (bs : List Bool) (ok : Okd d) : powerF d bs = { d with lost := d.lost + (if d.on then 1 else 0), st := keptF d.st (d.ws.zip bs), ws := [], on := true, left := none } := by
  unfold powerF downF
  cases e : d.on with
  | true =>
    rw [if_pos rfl]
    rfl
  | false =>
    rw [if_neg (by decide)]
    have := ok.off e
    cases d
    cases this
    simp
section
variable {P : Program} {w : World} {K : PySem.W.Frag} {mg : Str → Option Value} {base : Heap}
theorem ok_lpower {f C : Addr} {fd : FuncData} (F : Fun K "_law_power" "_law_power" s_law_power f fd) (T0 : Bl mg) (D_law_next : Kn P w K mg base 1 "_law_next" ["state", "limit"] spNext) (Dpower : Kmt P w K mg base C 2 "power" ["self", "kept"] (spPower C)) :
    FnOk P w K mg base CX0 3 f fd ["state", "world", "disk"] (spDeed C) := by
  refine F.ok sc_law_power (fun vs H Q E h => ?_) (fun cdv A outer s H vs Q E hr h => ?_)
  · obtain ⟨a, sc, x, _, _, _, wd, _, _, _, d, rfl, _⟩ := h
    rfl
  · obtain ⟨a, sc, x, sA, eA, wA, wd, la, wl, ct, d, rfl, h, hw, q⟩ := h
    refine ⟨_, (pss_cons (ps_setLc (i := 4) (own := [("k", 3)]) (g := gName 3) (tt := tYes) rfl sc_law_power.nd rfl rfl (sw_true rfl rfl rfl (by decide +kernel)) (pi_range1 (by rfl) T0.range (pa_cons (pe_kn D_law_next hr (pa_cons (pv 0) (pa_cons (pe_op op_add (pe_callB call_len_seq (by rfl) T0.len PySem.boot_len (pa_cons (pe_dget (hu_of hr) (pv 1) pe_str (fun _ _ => rfl)) pa_nil)) pe_int) pa_nil))) pa_nil)) (blkOk_by (own := [("k", 3)]) (N := N_law_power) (sc := defScope s_law_power) (by decide +kernel)) (fun _ _ _ _ _ => pg_name (i := 3) sc_law_power.nd rfl (Or.inl rfl)) (fun _ _ _ _ _ => pts_nil) (fun _ _ _ _ _ => (pe_cmpR op_eq (pe_kn D_law_next hr (pa_cons (pv 0) (pa_cons pe_int pa_nil))) pe_int (nomark _))))
      (pss_cons (ps_expr (pe_mt Dpower hr (pv 2) (pa_cons (pv 4) pa_nil)))
      (pss_cons (ps_daug (hu_of hr) (pv 1) pe_str (pe_callTy call_int1 (by rfl) T0.int (by decide +kernel) (pa_cons (pe_dget (hu_of hr) (pv 1) pe_str (fun _ _ => rfl)) pa_nil)) in_add (fun _ _ _ => rfl))
      (pss_cons (ps_for PassesOwn.never rfl (pi_range1 (by rfl) T0.range (pa_cons (pe_callB (call_min2 rfl) (by rfl) T0.min (by decide +kernel) (pa_cons (pe_callB call_len_seq (by rfl) T0.len PySem.boot_len (pa_cons (pv 4) pa_nil)) (pa_cons (pe_callB call_len_seq (by rfl) T0.len PySem.boot_len (pa_cons (pe_dget (hu_of hr) (pv 1) pe_str (fun _ _ => rfl)) pa_nil)) pa_nil))) pa_nil)) (pg_name (i := 3) sc_law_power.nd rfl (.inl rfl)) (pss_one (ps_if (pt_val (pe_ix ix_list (pv 4) (pv 3) (fun _ _ => rfl))) (pss_one (ps_asg (pe_ix ix_tup (pe_ix ix_list (pe_dget (hu_of hr) (pv 1) pe_str (fun _ _ => rfl)) (pv 3) (fun _ _ => rfl)) pe_int (fun _ _ => rfl)) (pg_sub (pe_dget (hu_of hr) (pv 1) pe_str (fun _ _ => rfl)) (pe_ix ix_tup (pe_ix ix_list (pe_dget (hu_of hr) (pv 1) pe_str (fun _ _ => rfl)) (pv 3) (fun _ _ => rfl)) pe_int (fun _ _ => rfl)) (set_dict (hu_of hr))))) pss_nil)))
      (pss_cons (ps_expr (pe_bm PySem.F.plainAttrs_dict PySem.F.slot_dict_update PySem.F.type_dict_update mtd_update (pv 1) (pa_cons (pe_disp (pps_cons pe_str (pe_lst pa_nil) (pps_cons pe_str pe_bl (pps_cons pe_str pe_non pps_nil))) (by rfl) (by rfl) (fun z => by cases z) (by decide)) pa_nil)))
      (pss_one (ps_ret pe_bl))))))), ?_⟩
    obtain ⟨ts, ew, lt, _⟩ := h.W.waitF.ex
    refine ⟨_, rfl, _, rfl, wd, _, rfl, DGet.k (k := Sum.inr "waiting") h.W.w, wl, _, rfl, .inl (SqL.of ew), _, _, rfl, rfl, a, sc, _, rfl, h.S, by rw [List.length_map, lt]; omega, by rw [List.length_map, lt]; omega, fun H1 r S1 g1 r0 r1 => ?_⟩
    rw [List.length_map, lt] at r1
    have h1 := h.next S1 g1
    refine ⟨_, rfl, by omega, by omega, fun D nD => ?_⟩
    obtain ⟨fr1, fr2⟩ := h1.free nD
    refine lc_it (walk_range (lo := 0) (n := r.toNat)) (fun k H' => All C H' a sc x sA eA wA wd la wl ct d d ∧ ∃ bs : List Bool, H' D = some (.lst (bs.map V.bl)) ∧ bs.length = k) ⟨h1.same (Same.new nD), [], upd_same, rfl⟩ (fun _ _ _ _ => trivial) (fun k v H3 H3' hk ⟨h3, bs, eD, lx⟩ yy => ?_) fun H3 ⟨h3, bs, eD, lx⟩ => ?_
    · obtain ⟨rfl, rfl⟩ := yy
      refine ⟨rfl, ?_⟩
      refine ⟨_, rfl, a, sc, 2, rfl, h3.S, by decide, by decide, fun H4 r' S4 g4 s0 s1 => ?_⟩
      have h4 := h3.next S4 g4
      have eD4 : H4 D = some (.lst (bs.map V.bl)) := g4 _ _ (fun z => fr1 (by rw [z]; simp)) eD
      refine ⟨rfl, _, eD4, by rw [List.length_map, lx]; exact small (m := 1000) (by omega) (by decide), h4.off Gw.put fr1 fr2 (fun b ys e l => bl_far e l eD4) (fun b ys e z => by rw [z, eD4] at e; cases e), bs ++ [decide (V.int r' = V.int 1)], ?_, by rw [List.length_append, lx]; rfl⟩
      rw [upd_same, List.map_append]
      rfl
    · obtain ⟨dx, ob⟩ := h3.D.ob
      refine ⟨_, rfl, x, dx, _, rfl, ob, rfl, _, rfl, x, sA, eA, wA, d, D, bs, rfl, h3.D, eD, fun z => fr2 (by rw [z]; simp), fun H4 sA' eA' wA' D4 nw4 bx4 => ?_⟩
      have h4 := h3.disk D4 nw4 bx4
      have eD4 := bx4 _ _ fr2 eD
      refine ⟨_, rfl, wd, _, rfl, DGet.k (k := Sum.inr "losses") h4.W.w, _, rfl, wd, _, rfl, DGet.k (k := Sum.inr "on") h4.W.w, .inr ⟨_, rfl, _, _, rfl, rfl, _, DPut.k (k := Sum.inr "losses") h4.W.w (by show 8 < sizeLine; decide), ?_⟩⟩
      have h5 : All C (upd H4 wd (.dK (putK (keysW la wl ct d) (.inr "losses") (.int (d.lost + (if d.on then 1 else 0)))))) a sc x sA' eA' wA' wd la wl ct (powerF d bs) { d with lost := d.lost + (if d.on then 1 else 0) } := h4.word (e' := { d with lost := d.lost + (if d.on then 1 else 0) }) rfl rfl rfl rfl h4.W.pos h4.ok.off
      have eD5 : (upd H4 wd (.dK (putK (keysW la wl ct d) (.inr "losses") (.int (d.lost + (if d.on then 1 else 0)))))) D = some (.lst (bs.map V.bl)) := by
        rw [upd_ne (fun z => fr1 (by rw [z]; simp))]
        exact eD4
      generalize (upd H4 wd (.dK (putK (keysW la wl ct d) (.inr "losses") (.int (d.lost + (if d.on then 1 else 0)))))) = H5 at h5 eD5 ⊢
      obtain ⟨ts, ew, lt, _⟩ := h5.W.waitF.ex
      refine ⟨_, rfl, D, _, rfl, .inl (SqL.of eD5), _, rfl, wd, _, rfl, DGet.k (k := Sum.inr "waiting") h5.W.w, wl, _, rfl, .inl (SqL.of ew), _, _, rfl, ?_⟩
      have hm : (if (((ts.map V.ref).length : Nat) : Int) < (((bs.map V.bl).length : Nat) : Int) then (((ts.map V.ref).length : Nat) : Int) else (((bs.map V.bl).length : Nat) : Int)) = ((d.ws.zip bs).length : Nat) := by
        rw [List.length_map, List.length_map, lt, List.length_zip]
        show (if ((d.ws.length : Nat) : Int) < _ then ((d.ws.length : Nat) : Int) else _) = _
        split <;> omega
      have hz : (d.ws.zip bs).length ≤ 1000 := by rw [List.length_zip]; omega
      refine ⟨_, congrArg (fun z => [V.int z]) hm, by omega, by omega, for_range (lo := 0) (n := (d.ws.zip bs).length) (fun k σ H' => ∃ v3, σ = [some (.ref a), some (.ref wd), some (.ref x), v3, some (.ref D)] ∧ All C H' a sc x sA' eA' wA' wd la wl ct (powerF d bs) { d with lost := d.lost + (if d.on then 1 else 0), st := keptF d.st ((d.ws.zip bs).take k) } ∧ H' wl = some (.lst (ts.map V.ref)) ∧ H' D = some (.lst (bs.map V.bl)))
        ⟨_, rfl, h5, ew, eD5⟩ ?_ ?_⟩
      · rintro k σ H6 hk ⟨v3, rfl, h6, e6, eD6⟩
        show gName 3 (V.int (0 + (k : Int))) _ _ _
        rw [Int.zero_add]
        rw [List.length_zip] at hk
        have hkb : k < bs.length := by omega
        have hkt : k < ts.length := by rw [lt]; show k < d.ws.length; omega
        have etk : ts[k]? = some ts[k] := List.getElem?_eq_getElem hkt
        have ebk : bs[k]? = some bs[k] := List.getElem?_eq_getElem hkb
        have et1 : (ts.map V.ref)[k]? = some (.ref ts[k]) := by rw [List.getElem?_map, etk]; rfl
        have eb1 : (bs.map V.bl)[k]? = some (.bl bs[k]) := by rw [List.getElem?_map, ebk]; rfl
        obtain ⟨ts', et', lt', gt'⟩ := h6.W.waitF.ex
        rw [e6] at et'
        injection et' with et'
        injection et' with et'
        have et' := refs_inj et'
        subst et'
        have ews : d.ws[k]? = some (d.ws[k]'(by omega)) := List.getElem?_eq_getElem _
        obtain ⟨⟨j, r⟩, ej⟩ : ∃ jr : Nat × List Int, d.ws[k]'(by omega) = jr := ⟨_, rfl⟩
        rw [ej] at ews
        obtain ⟨p, ep, lp⟩ := gt' k _ j r etk ews
        obtain ⟨jn, r64⟩ := h6.ok.ws j r (List.mem_of_getElem? ews)
        have etz : (d.ws.zip bs).take (k + 1) = (d.ws.zip bs).take k ++ [((j, r), bs[k])] := by
          have ez : (d.ws.zip bs)[k]? = some ((j, r), bs[k]) := List.getElem?_zip_eq_some.mpr ⟨ews, ebk⟩
          rw [List.take_succ, ez]
          rfl
        refine ⟨_, rfl, _, rfl, D, _, _, _, rfl, rfl, SqL.of eD6, atI_nat eb1, _, rfl, ?_⟩
        rw [etz, kept_snoc]
        cases bs[k] with
        | false =>
          refine iteF ⟨_, rfl, ?_, e6, eD6⟩
          rw [if_neg (by decide)]
          exact h6
        | true =>
          refine iteT ?_
          rw [if_pos rfl]
          obtain ⟨kvs, el, ll, h7⟩ := h6.last jn lp r64
          have k4 := h6.kinds.2.2.2.1
          refine ⟨_, rfl, wd, _, rfl, DGet.k (k := Sum.inr "waiting") h6.W.w, _, rfl, wl, _, _, _, rfl, rfl, SqL.of e6, atI_nat et1, _, _, 1, _, rfl, rfl, SqT.of ep, rfl, ?_⟩
          refine ⟨_, rfl, wd, _, rfl, DGet.k (k := Sum.inr "lasting") h6.W.w, ?_⟩
          refine ⟨_, rfl, wd, _, rfl, DGet.k (k := Sum.inr "waiting") h6.W.w, _, rfl, wl, _, _, _, rfl, rfl, SqL.of e6, atI_nat et1, _, _, 0, _, rfl, rfl, SqT.of ep, rfl, ?_⟩
          refine ⟨la, _, rfl, DPut.k (k := Sum.inl (j : Int)) el (small (Nat.le_trans ll h6.ok.n1) (by decide)), _, rfl, h7, by rw [upd_ne k4.symm]; exact e6, ?_⟩
          rw [upd_ne (fun z => fr1 (by rw [z]; simp))]
          exact eD6
      · rintro σ H6 ⟨v3, rfl, h6, e6, eD6⟩
        rw [List.take_length] at h6
        refine ⟨_, rfl, .inr (.inr (.inl ⟨rfl, .inl ⟨_, h6.W.w⟩⟩)), fun p np => ⟨by show 0 ≤ sizeLine; decide, fun l nl => ?_⟩⟩
        have pl : l ≠ p := fun z => by rw [z, upd_same] at nl; cases nl
        have nl6 : H6 l = none := by rw [upd_ne pl] at nl; exact nl
        have wp : wd ≠ p := fun z => by have := h6.W.w; rw [z, np] at this; cases this
        have wl2 : wd ≠ l := fun z => by have := h6.W.w; rw [z, nl6] at this; cases this
        refine ⟨by rw [upd_ne pl.symm]; exact upd_same, [(.inr "waiting", .ref l), (.inr "on", .bl true), (.inr "left", .non)], rfl, by show 3 ≤ 15; decide, ?_⟩
        refine ⟨wd, p, _, _, rfl, rfl, by rw [upd_ne wp, upd_ne wl2, upd_ne wp]; exact h6.W.w, upd_same, wp, by show 11 ≤ sizeLine; decide, ?_⟩
        have g6 : Gw wd H6 (upd (upd (upd (upd H6 p (.dK [])) l (.lst [])) p (.dK (mergeK [] [(.inr "waiting", .ref l), (.inr "on", .bl true), (.inr "left", .non)]))) wd (.dK (keysW la l ct (powerF d bs)))) := fun b o nb e => by
          rw [upd_ne nb, upd_ne (ne_of_none e np), upd_ne (ne_of_none e nl6), upd_ne (ne_of_none e np)]
          exact e
        have pe := powerE d bs h.ok
        have h8 := h6.wait0g nl6 (powerF d bs) g6 (by rw [upd_ne wl2.symm, upd_ne pl, upd_same]) upd_same (by rw [pe]) (by rw [pe]) (by rw [pe]) (by rw [pe]) (fun k z => by rw [pe] at z; cases z) (fun z => by rw [pe] at z; cases z)
        have ek : mergeK (keysW la wl ct { d with lost := d.lost + (if d.on then 1 else 0), st := keptF d.st (d.ws.zip bs) }) (mergeK [] [(.inr "waiting", .ref l), (.inr "on", .bl true), (.inr "left", .non)]) = keysW la l ct (powerF d bs) := by
          rw [pe]
          rfl
        rw [ek]
        exact q _ _ _ _ _ _ h8 (by rw [pe]) (by rw [pe]; exact Nat.zero_le _)
theorem ok_ldeed {f C : Addr} {fd : FuncData} (F : Fun K "_law_deed" "_law_deed" s_law_deed f fd) (T0 : Bl mg) (D_law_next : Kn P w K mg base 1 "_law_next" ["state", "limit"] spNext) (D_law_write : Kn P w K mg base 4 "_law_write" ["state", "world", "disk"] (spDeed C)) (D_law_sync : Kn P w K mg base 4 "_law_sync" ["world", "disk"] (spLSync C)) (D_law_fail : Kn P w K mg base 2 "_law_fail" ["state", "world", "disk"] (spDeed C)) (D_law_power : Kn P w K mg base 3 "_law_power" ["state", "world", "disk"] (spDeed C)) (Dnote : Kmt P w K mg base C 1 "note_reads" ["self", "count"] (spNote C)) :
    FnOk P w K mg base CX0 5 f fd ["state", "world", "disk"] (spDeed C) := by
  refine F.ok sc_law_deed (fun vs H Q E h => ?_) (fun cdv A outer s H vs Q E hr h => ?_)
  · obtain ⟨a, sc, x, _, _, _, wd, _, _, _, d, rfl, _⟩ := h
    rfl
  · obtain ⟨a, sc, x, sA, eA, wA, wd, la, wl, ct, d, rfl, h, hw, q⟩ := h
    refine ⟨_, (pss_cons (ps_set (i := 3) sc_law_deed.nd rfl (.inl rfl) (pe_kn D_law_next hr (pa_cons (pv 0) (pa_cons pe_int pa_nil))))
      (pss_cons (ps_if (pt_cmpR op_lt (pv 3) pe_int (nomark _)) (pss_one (ps_ret (pe_kn D_law_write hr (pa_cons (pv 0) (pa_cons (pv 1) (pa_cons (pv 2) pa_nil)))))) pss_nil)
      (pss_cons (ps_if (pt_cmpR op_lt (pv 3) pe_int (nomark _)) (pss_one (ps_ret (pe_kn D_law_sync hr (pa_cons (pv 1) (pa_cons (pv 2) pa_nil))))) pss_nil)
      (pss_cons (ps_if (pt_cmpR op_eq (pv 3) pe_int (nomark _)) (pss_one (ps_ret (pe_kn D_law_fail hr (pa_cons (pv 0) (pa_cons (pv 1) (pa_cons (pv 2) pa_nil)))))) pss_nil)
      (pss_cons (ps_if (pt_cmpR op_eq (pv 3) pe_int (nomark _)) (pss_one (ps_ret (pe_kn D_law_power hr (pa_cons (pv 0) (pa_cons (pv 1) (pa_cons (pv 2) pa_nil)))))) pss_nil)
      (pss_cons (ps_set (i := 4) sc_law_deed.nd rfl (.inl rfl) (pe_kn D_law_next hr (pa_cons (pv 0) (pa_cons pe_int pa_nil))))
      (pss_cons (ps_augS (pe_dget (hu_of hr) (pv 1) pe_str (fun _ _ => rfl)) pe_int pget_list (pv 4) ip_add set_list)
      (pss_one (ps_ret (pe_cmpR op_isN (pe_mt Dnote hr (pv 2) (pa_cons (pv 4) pa_nil)) pe_non (nomark _))))))))))), ?_⟩
    refine ⟨_, rfl, a, sc, 12, rfl, h.S, by decide, by decide, fun H1 r S1 g1 r0 r1 => ?_⟩
    have h1 := h.next S1 g1
    refine ⟨_, rfl, _, _, rfl, rfl, _, rfl, ite2 (fun _ => ?_) (fun _ => ?_)⟩
    · exact ⟨_, rfl, _, rfl, _, rfl, a, sc, x, sA, eA, wA, wd, la, wl, ct, d, rfl, h1, hw, q⟩
    refine ⟨_, rfl, _, _, rfl, rfl, _, rfl, ite2 (fun _ => ?_) (fun _ => ?_)⟩
    · exact ⟨_, rfl, _, rfl, a, sc, x, sA, eA, wA, wd, la, wl, ct, d, rfl, h1, hw, q⟩
    refine ⟨_, rfl, rfl, _, rfl, ite2 (fun _ => ?_) (fun _ => ?_)⟩
    · exact ⟨_, rfl, _, rfl, _, rfl, a, sc, x, sA, eA, wA, wd, la, wl, ct, d, rfl, h1, hw, q⟩
    refine ⟨_, rfl, rfl, _, rfl, ite2 (fun _ => ?_) (fun _ => ?_)⟩
    · exact ⟨_, rfl, _, rfl, _, rfl, a, sc, x, sA, eA, wA, wd, la, wl, ct, d, rfl, h1, hw, q⟩
    refine ⟨_, rfl, a, sc, 9, rfl, h1.S, by decide, by decide, fun H2 c S2 g2 c0 c1 => ?_⟩
    have h2 := h1.next S2 g2
    refine ⟨_, rfl, wd, _, rfl, DGet.k (k := Sum.inr "counts") h2.W.w, ct, _, 0, .int d.cr, rfl, rfl, SqL.of h2.W.cntF, rfl, _, rfl, _, _, rfl, rfl, ct, _, 0, 0, rfl, rfl, h2.W.cntF, rfl, ?_⟩
    have h3 := h2.cnt (d.cr + c) d.cw d.cl d.cs
    obtain ⟨dx, ob⟩ := h3.D.ob
    refine ⟨_, rfl, x, dx, _, rfl, ob, rfl, _, rfl, x, sA, eA, wA, d, c, rfl, h3.D, fun H4 D4 g4 => ⟨rfl, ?_⟩⟩
    exact q _ _ _ _ _ { d with cr := d.cr + c } (h3.disk D4 (nw_refl _ _) (bx_of_gw List.mem_cons_self g4)) rfl (Nat.le_succ _)
end
end K1
namespace K1
open PySem PySem.Spec PyProof.Rows L2 Ow Po Dd Dk
abbrev s_law_is_right : Stmt := topS 23
abbrev N_law_is_right : List Str := ["state", "world", "disk", "told", "due", "seen", "index", "data", "asked"]
theorem sc_law_is_right : FnScope N_law_is_right ["state", "world", "disk"] (defScope s_law_is_right) := ⟨rfl, rfl, rfl, by decide +kernel, rfl, by decide +kernel, by decide +kernel⟩
theorem range_getD {α : Type} (xs : List α) (y : α) : (List.range xs.length).map (fun i => xs.getD i y) = xs := by
  apply List.ext_getElem?
  intro i
  by_cases h : i < xs.length
  · simp [h]
  · rw [List.getElem?_eq_none (by simp; omega), List.getElem?_eq_none (by omega)]
/-- the waiting ones, put in one after another -/
def SeenR (H : Hp) (n : Nat) (kvs : List (Key × V)) (st : Nat → List Int) (ws : List (Nat × List Int)) : Prop := ∀ i, i < n → (∃ q, valV kvs (.inl (i : Nat)) = some (.ref q) ∧ LI H q (seenF st ws i)) ∨ (valV kvs (.inl (i : Nat)) = none ∧ seenF st ws i = st i)
theorem SeenR.same {H H' : Hp} {n : Nat} {kvs : List (Key × V)} {st : Nat → List Int} {ws : List (Nat × List Int)} (h : SeenR H n kvs st ws) (k : ∀ b xs, LI H b xs → LI H' b xs) : SeenR H' n kvs st ws := fun i hi => by
  rcases h i hi with ⟨q, e1, e2⟩ | z
  · exact .inl ⟨q, e1, k _ _ e2⟩
  · exact .inr z
theorem SeenR.put {H : Hp} {n : Nat} {kvs : List (Key × V)} {st : Nat → List Int} {ws : List (Nat × List Int)} {j : Nat} {r : List Int} {q : Addr} (h : SeenR H n kvs st ws) (lq : LI H q r) : SeenR H n (putK kvs (.inl (j : Nat)) (.ref q)) st (ws ++ [(j, r)]) := fun i hi => by
  rw [valV_put, seen_snoc]
  show (∃ q', (if (Sum.inl (i : Int) : Key) = Sum.inl (j : Int) then _ else _) = _ ∧ LI H q' (if i = j then r else seenF st ws i)) ∨ (_ ∧ (if i = j then r else seenF st ws i) = st i)
  by_cases z : i = j
  · rw [z, if_pos rfl, if_pos rfl]
    exact .inl ⟨q, rfl, lq⟩
  · rw [if_neg (fun y => z (by injection y with y; omega)), if_neg z]
    exact h i hi
def spRight (C : Addr) : Sp := fun vs H Q _ => ∃ (a sc x sA eA wA wd la wl ct : Addr) (d : Ds), vs = [.ref a, .ref wd, .ref x] ∧ All C H a sc x sA eA wA wd la wl ct d d ∧ d.ws.length < 900 ∧ ∀ H', All C H' a sc x sA eA wA wd la wl ct d d → Q (.bl true) H'
section
variable {P : Program} {w : World} {K : PySem.W.Frag} {mg : Str → Option Value} {base : Heap}
theorem li_dp {H : Hp} {a : Addr} {xs : List Int} (h : LI H a xs) : Dp K H (.ref a) (.list (xs.map PyData.int)) := .lst (SqL.of h) (intsD xs)
theorem ok_ints {xs : List Int} (h : xs.length ≤ 10000) : okD 2 (.list (xs.map PyData.int)) = true := by
  show (decide ((xs.map PyData.int).length ≤ 10000) && (xs.map PyData.int).all (okD 1)) = true
  rw [List.length_map, decide_eq_true h, Bool.true_and, List.all_eq_true]
  intro d m
  obtain ⟨i, _, e⟩ := List.mem_map.mp m
  rw [← e]
  rfl
theorem ok_lright {f C : Addr} {fd : FuncData} (F : Fun K "_law_is_right" "_law_is_right" s_law_is_right f fd) (T0 : Bl mg) (D_law_next : Kn P w K mg base 1 "_law_next" ["state", "limit"] spNext) (D_law_same : Kn P w K mg base 3 "_law_same" ["actual", "expected"] (spSame K 2)) (Dsize : Kmt P w K mg base C 1 "size" ["self"] (spGet C fun d => .int (d.n : Nat))) (Dpending : Kmt P w K mg base C 1 "pending" ["self"] (spGet C fun d => .int (d.ws.length : Nat))) (Dcounts : Kmt P w K mg base C 1 "counts" ["self"] (spCounts C)) (Dison : Kmt P w K mg base C 1 "is_on" ["self"] (spGet C fun d => .bl d.on)) (Dlosses : Kmt P w K mg base C 1 "losses" ["self"] (spGet C fun d => .int d.lost)) (Dread : Kmt P w K mg base C 1 "read" ["self", "index"] (spRead C)) :
    FnOk P w K mg base CX0 4 f fd ["state", "world", "disk"] (spRight C) := by
  refine F.ok sc_law_is_right (fun vs H Q E h => ?_) (fun cdv A outer s H vs Q E hr h => ?_)
  · obtain ⟨a, sc, x, _, _, _, wd, _, _, _, d, rfl, _⟩ := h
    rfl
  · obtain ⟨a, sc, x, sA, eA, wA, wd, la, wl, ct, d, rfl, h, hw, q⟩ := h
    refine ⟨_, (pss_cons (ps_set (i := 3) sc_law_is_right.nd rfl (.inl rfl) (pe_lst (pa_cons (pe_mt0 Dsize hr (pv 2)) (pa_cons (pe_mt0 Dpending hr (pv 2)) (pa_cons (pe_mt0 Dcounts hr (pv 2)) (pa_cons (pe_mt0 Dison hr (pv 2)) (pa_cons (pe_mt0 Dlosses hr (pv 2)) pa_nil)))))))
      (pss_cons (ps_set (i := 4) sc_law_is_right.nd rfl (.inl rfl) (pe_lst (pa_cons (pe_dget (hu_of hr) (pv 1) pe_str (fun _ _ => rfl)) (pa_cons (pe_callB call_len_seq (by rfl) T0.len PySem.boot_len (pa_cons (pe_dget (hu_of hr) (pv 1) pe_str (fun _ _ => rfl)) pa_nil)) (pa_cons (pe_callTy call_tuple_of (by rfl) T0.tuple (by decide +kernel) (pa_cons (pe_dget (hu_of hr) (pv 1) pe_str (fun _ _ => rfl)) pa_nil)) (pa_cons (pe_dget (hu_of hr) (pv 1) pe_str (fun _ _ => rfl)) (pa_cons (pe_dget (hu_of hr) (pv 1) pe_str (fun _ _ => rfl)) pa_nil)))))))
      (pss_cons (ps_if (pt_not (pt_val (pe_kn D_law_same hr (pa_cons (pv 3) (pa_cons (pv 4) pa_nil))))) (pss_one (ps_ret pe_bl)) pss_nil)
      (pss_cons (ps_set (i := 5) sc_law_is_right.nd rfl (.inl rfl) pe_dnewK)
      (pss_cons (ps_for PassesOwn.never rfl (pi_list (pe_dget (hu_of hr) (pv 1) pe_str (fun _ _ => rfl))) (pg_tup rfl (pgs_cons (pg_name (i := 6) sc_law_is_right.nd rfl (.inl rfl)) (pgs_cons (pg_name (i := 7) sc_law_is_right.nd rfl (.inl rfl)) pgs_nil))) (pss_one (ps_asg (pv 7) (pg_sub (pv 5) (pv 6) (set_dict (hu_of hr))))))
      (pss_cons (ps_set (i := 8) sc_law_is_right.nd rfl (.inl rfl) (pe_op op_cat (pe_lc (own := [("index", 6), ("data", 7)]) (g := gTup K 2 (gCons (gName 6) (gCons (gName 7) gNil))) (tt := tYes) rfl sc_law_is_right.nd (pi_list (pe_dget (hu_of hr) (pv 1) pe_str (fun _ _ => rfl))) (blkOk_by (own := [("index", 6), ("data", 7)]) (N := N_law_is_right) (sc := defScope s_law_is_right) (by decide +kernel)) (fun _ _ _ _ _ => pg_tup rfl (pgs_cons (pg_name (i := 6) sc_law_is_right.nd rfl (Or.inl rfl)) (pgs_cons (pg_name (i := 7) sc_law_is_right.nd rfl (Or.inl rfl)) pgs_nil))) (fun _ _ _ _ _ => pts_nil) (fun _ _ _ _ _ => (pv 6))) (pe_lst (pa_cons (pe_kn D_law_next hr (pa_cons (pv 0) (pa_cons (pe_dget (hu_of hr) (pv 1) pe_str (fun _ _ => rfl)) pa_nil))) (pa_cons pe_int (pa_cons pe_int pa_nil))))))
      (pss_cons (ps_for PassesOwn.never rfl (pi_list (pv 8)) (pg_name (i := 6) sc_law_is_right.nd rfl (.inl rfl)) (pss_cons (ps_set (i := 7) sc_law_is_right.nd rfl (.inl rfl) (pe_dget2 (hu_of hr) (pv 5) (pv 6) (pe_dget2 (hu_of hr) (pe_dget (hu_of hr) (pv 1) pe_str (fun _ _ => rfl)) (pv 6) (pe_op op_rep (pe_lst (pa_cons pe_int pa_nil)) pe_int) ⟨by rfl, by rfl, by rfl, by rfl⟩) ⟨by rfl, by rfl, by rfl, by rfl⟩))
      (pss_cons (ps_set (i := 3) sc_law_is_right.nd rfl (.inl rfl) (pe_mt Dread hr (pv 2) (pa_cons (pv 6) pa_nil)))
      (pss_cons (ps_if (pt_not (pt_val (pe_kn D_law_same hr (pa_cons (pv 3) (pa_cons (pv 7) pa_nil))))) (pss_one (ps_ret pe_bl)) pss_nil)
      (pss_one (ps_asg pe_int (pg_sub (pv 3) pe_int set_list)))))))
      (pss_one (ps_ret pe_bl))))))))), ?_⟩
    obtain ⟨dx, ob⟩ := h.D.ob
    refine ⟨_, rfl, x, dx, _, rfl, ob, rfl, x, sA, eA, wA, d, rfl, h.D, ?_⟩
    refine ⟨_, rfl, x, dx, _, rfl, ob, rfl, x, sA, eA, wA, d, rfl, h.D, ?_⟩
    refine ⟨_, rfl, x, dx, _, rfl, ob, rfl, x, sA, eA, wA, d, rfl, h.D, fun t nt => ?_⟩
    have s1 : Same H (upd H t (.tup [.int d.cr, .int d.cw, .int d.cl, .int d.cs])) := Same.new nt
    have e1 : (upd H t (.tup [.int d.cr, .int d.cw, .int d.cl, .int d.cs])) t = some (.tup [.int d.cr, .int d.cw, .int d.cl, .int d.cs]) := upd_same
    generalize (upd H t (.tup [.int d.cr, .int d.cw, .int d.cl, .int d.cs])) = H1 at s1 e1 ⊢
    have h1 := h.same s1
    refine ⟨_, rfl, x, dx, _, rfl, s1 _ _ ob, rfl, x, sA, eA, wA, d, rfl, h1.D, ?_⟩
    refine ⟨_, rfl, x, dx, _, rfl, s1 _ _ ob, rfl, x, sA, eA, wA, d, rfl, h1.D, by show 5 ≤ sizeLine; decide, fun l nl => ?_⟩
    have s2 : Same H1 (upd H1 l (.lst [.int (d.n : Nat), .int (d.ws.length : Nat), .ref t, .bl d.on, .int d.lost])) := Same.new nl
    have e2 : (upd H1 l (.lst [.int (d.n : Nat), .int (d.ws.length : Nat), .ref t, .bl d.on, .int d.lost])) l = some (.lst [.int (d.n : Nat), .int (d.ws.length : Nat), .ref t, .bl d.on, .int d.lost]) := upd_same
    generalize (upd H1 l (.lst [.int (d.n : Nat), .int (d.ws.length : Nat), .ref t, .bl d.on, .int d.lost])) = H2 at s2 e2 ⊢
    have h2 := h1.same s2
    obtain ⟨ts, ew, lt, _⟩ := h2.W.waitF.ex
    refine ⟨_, rfl, wd, _, rfl, DGet.k (k := Sum.inr "size") h2.W.w, _, rfl, wd, _, rfl, DGet.k (k := Sum.inr "waiting") h2.W.w, wl, _, rfl, .inl (SqL.of ew), ?_⟩
    rw [List.length_map, lt]
    refine ⟨_, rfl, wd, _, rfl, DGet.k (k := Sum.inr "counts") h2.W.w, ct, _, rfl, .inl ⟨SqL.of h2.W.cntF, fun u nu => ?_⟩⟩
    have s3 : Same H2 (upd H2 u (.tup ([d.cr, d.cw, d.cl, d.cs].map V.int))) := Same.new nu
    have e3 : (upd H2 u (.tup ([d.cr, d.cw, d.cl, d.cs].map V.int))) u = some (.tup ([d.cr, d.cw, d.cl, d.cs].map V.int)) := upd_same
    generalize (upd H2 u (.tup ([d.cr, d.cw, d.cl, d.cs].map V.int))) = H3 at s3 e3 ⊢
    have h3 := h2.same s3
    refine ⟨_, rfl, wd, _, rfl, DGet.k (k := Sum.inr "on") h3.W.w, _, rfl, wd, _, rfl, DGet.k (k := Sum.inr "losses") h3.W.w, by show 5 ≤ sizeLine; decide, fun m nm => ?_⟩
    have s4 : Same H3 (upd H3 m (.lst [.int (d.n : Nat), .int (d.ws.length : Nat), .ref u, .bl d.on, .int d.lost])) := Same.new nm
    have e4 : (upd H3 m (.lst [.int (d.n : Nat), .int (d.ws.length : Nat), .ref u, .bl d.on, .int d.lost])) m = some (.lst [.int (d.n : Nat), .int (d.ws.length : Nat), .ref u, .bl d.on, .int d.lost]) := upd_same
    generalize (upd H3 m (.lst [.int (d.n : Nat), .int (d.ws.length : Nat), .ref u, .bl d.on, .int d.lost])) = H4 at s4 e4 ⊢
    have h4 := h3.same s4
    have dt : Dp K H4 (.ref t) (.tuple ([d.cr, d.cw, d.cl, d.cs].map PyData.int)) := .tup (SqT.of (s4 _ _ (s3 _ _ (s2 _ _ e1)))) (intsD [d.cr, d.cw, d.cl, d.cs])
    have du : Dp K H4 (.ref u) (.tuple ([d.cr, d.cw, d.cl, d.cs].map PyData.int)) := .tup (SqT.of (s4 _ _ e3)) (intsD [d.cr, d.cw, d.cl, d.cs])
    refine ⟨_, rfl, _, rfl, _, _, .list [.int (d.n : Nat), .int (d.ws.length : Nat), .tuple ([d.cr, d.cw, d.cl, d.cs].map PyData.int), .bool d.on, .int d.lost], rfl, .lst (SqL.of (s4 _ _ (s3 _ _ e2))) (.cons (.int _) (.cons (.int _) (.cons dt (.cons (.bl _) (.cons (.int _) .nil))))), .lst (SqL.of e4) (.cons (.int _) (.cons (.int _) (.cons du (.cons (.bl _) (.cons (.int _) .nil))))), rfl, fun H5 s5 => ⟨_, rfl, iteF ?_⟩⟩
    have h5 := h4.same s5
    refine fun sd nsd => ?_
    obtain ⟨fr1, fr2⟩ := h5.free nsd
    obtain ⟨ts, ew, lt, _⟩ := h5.W.waitF.ex
    have s6 : Same H5 (upd H5 sd (.dK [])) := Same.new nsd
    refine ⟨_, rfl, wd, _, rfl, DGet.k (k := Sum.inr "waiting") (s6 _ _ h5.W.w), wl, rfl, ⟨_, SqL.of (s6 _ _ ew)⟩, for_list (xs := ts.map V.ref) (fun k σ H' => ∃ v6 v7, σ = [some (.ref a), some (.ref wd), some (.ref x), some (.ref l), some (.ref m), some (.ref sd), v6, v7, none] ∧ All C H' a sc x sA eA wA wd la wl ct d d ∧ H' wl = some (.lst (ts.map V.ref)) ∧ ∃ kvs, H' sd = some (.dK kvs) ∧ KyN d.n kvs ∧ SeenR H' d.n kvs d.st (d.ws.take k))
      ⟨none, none, rfl, h5.same s6, s6 _ _ ew, [], upd_same, KyN.nil _, fun i _ => .inr ⟨rfl, rfl⟩⟩ (fun _ _ _ _ ⟨_, _, _, _, e, _⟩ => SqL.of e) ?_ ?_⟩
    · rintro k v σ H6 ek ⟨v6, v7, rfl, h6, e6, kvs, ed, ky, sr⟩
      obtain ⟨ts', et', lt', gt'⟩ := h6.W.waitF.ex
      rw [e6] at et'
      injection et' with et'
      injection et' with et'
      have et' := refs_inj et'
      subst et'
      have hk := (List.getElem?_eq_some_iff.mp ek).1
      rw [List.length_map] at hk
      have etk : ts[k]? = some ts[k] := List.getElem?_eq_getElem hk
      rw [List.getElem?_map, etk] at ek
      cases ek
      have ews : d.ws[k]? = some (d.ws[k]'(by rw [← lt]; exact hk)) := List.getElem?_eq_getElem _
      obtain ⟨⟨j, r⟩, ej⟩ : ∃ jr : Nat × List Int, d.ws[k]'(by rw [← lt]; exact hk) = jr := ⟨_, rfl⟩
      rw [ej] at ews
      obtain ⟨p, ep, lp⟩ := gt' k _ j r etk ews
      obtain ⟨jn, r64⟩ := h6.ok.ws j r (List.mem_of_getElem? ews)
      refine ⟨_, _, rfl, SqT.of ep, rfl, _, _, rfl, _, _, rfl, rfl, ?_⟩
      have nl : ∀ b xs, LI H6 b xs → b ≠ sd := fun b xs q z => by rw [z, LI, ed] at q; cases q
      refine ⟨_, rfl, _, rfl, _, rfl, sd, _, rfl, DPut.k (k := Sum.inl (j : Int)) ed (small (Nat.le_trans ky.len h6.ok.n1) (by decide)), _, _, rfl, h6.off Gw.put fr1 fr2 (fun b xs q _ => nl b xs q) (fun b l q z => by rw [z, ed] at q; cases q), ?_, _, upd_same, ky.put jn, ?_⟩
      · rw [upd_ne (fun z => by rw [z, ed] at e6; cases e6)]
        exact e6
      · have z : d.ws.take (k + 1) = d.ws.take k ++ [(j, r)] := by
          rw [List.take_succ, ews]
          rfl
        rw [z]
        exact (sr.put lp).same fun b xs q => by
          rw [LI, upd_ne (nl b xs q)]
          exact q
    · rintro σ H6 ⟨v6, v7, rfl, h6, e6, kvs, ed, ky, sr⟩
      rw [List.length_map, lt, List.take_length] at sr
      obtain ⟨ts', et', lt', gt'⟩ := h6.W.waitF.ex
      rw [e6] at et'
      injection et' with et'
      injection et' with et'
      have et' := refs_inj et'
      subst et'
      refine ⟨_, rfl, wd, _, rfl, DGet.k (k := Sum.inr "waiting") h6.W.w, wl, rfl, ⟨_, SqL.of e6⟩, fun D nD => ?_⟩
      refine lc_mk (walk_list (K := K) (a := wl) (xs := ts.map V.ref)) (fun i => (d.ws.map fun p => V.int ((p.1 : Nat) : Int)).getD i .non) (by rw [List.length_map, lt]; exact small (Nat.le_of_lt hw) (by decide)) nD (fun H' s' => SqL.of (s' _ _ e6)) (fun k v H7 H7' N hk s7 yy fin => ?_) fun H7 s7 eD => ?_
      · obtain ⟨rfl, ek⟩ := yy
        rw [List.length_map] at hk
        have etk : ts[k]? = some ts[k] := List.getElem?_eq_getElem hk
        rw [List.getElem?_map, etk] at ek
        cases ek
        have ews : d.ws[k]? = some (d.ws[k]'(by rw [← lt]; exact hk)) := List.getElem?_eq_getElem _
        obtain ⟨⟨j, r⟩, ej⟩ : ∃ jr : Nat × List Int, d.ws[k]'(by rw [← lt]; exact hk) = jr := ⟨_, rfl⟩
        rw [ej] at ews
        obtain ⟨p, ep, lp⟩ := gt' k _ j r etk ews
        refine ⟨_, _, rfl, SqT.of (s7 _ _ ep), rfl, _, _, rfl, _, _, rfl, rfl, rfl, _, rfl, ?_⟩
        have fin := fin _ (Same.refl _)
        rw [List.getD_eq_getElem?_getD, List.getElem?_map, ews] at fin
        exact fin
      · have h7 := h6.same s7
        rw [List.length_map, show ts.length = (d.ws.map fun p => V.int ((p.1 : Nat) : Int)).length by rw [List.length_map, lt], range_getD] at eD
        have n0 := h7.ok.n0
        have n1 := h7.ok.n1
        refine ⟨_, rfl, _, rfl, wd, _, rfl, DGet.k (k := Sum.inr "size") h7.W.w, a, sc, (d.n : Nat), rfl, h7.S, by omega, by omega, fun H8 r S8 g8 r0 r1 => ⟨by show 3 ≤ sizeLine; decide, fun b nb => ?_⟩⟩
        have h8 := h7.next S8 g8
        have ed8 : H8 sd = some (.dK kvs) := g8 _ _ (fun z => fr1 (by rw [z]; simp)) (s7 _ _ ed)
        have nla : ∀ {c : Addr} {xs : List Int}, LI H7 c xs → LI H8 c xs ∨ c = a := fun {c xs} q => by
          by_cases z : c = a
          · exact .inr z
          · exact .inl (g8 _ _ z q)
        have sr8 : SeenR H8 d.n kvs d.st d.ws := fun i hi => by
          rcases sr i hi with ⟨p, e1, e2⟩ | z
          · have e64 := seen64 d.ws d.st h6.ok.st h6.ok.ws i hi
            exact .inl ⟨p, e1, g8 _ _ (h7.S.row (e2.same s7) (by rw [List.length_map]; exact e64)) (e2.same s7)⟩
          · exact .inr z
        have aD : D ≠ a := fun z => h6.here a (by simp) (z ▸ nD)
        have eD8 := g8 _ _ aD eD
        refine ⟨D, b, _, _, rfl, rfl, Same.new nb _ _ eD8, upd_same, by rw [List.length_map]; exact Nat.le_of_lt (small (m := 1000) (by show d.ws.length + 3 ≤ 1000; omega) (by decide)), fun p np => ?_⟩
        have s9 := (Same.new (o := .lst [.int r, .int 0, .int 1]) nb).trans (Same.new (o := .lst ((d.ws.map fun p => V.int ((p.1 : Nat) : Int)) ++ [.int r, .int 0, .int 1])) np)
        have h9 := h8.same s9
        have ep9 : (upd (upd H8 b (.lst [.int r, .int 0, .int 1])) p (.lst ((d.ws.map fun p => V.int ((p.1 : Nat) : Int)) ++ [.int r, .int 0, .int 1]))) p = some (.lst ((d.ws.map fun p => V.int ((p.1 : Nat) : Int)) ++ [.int r, .int 0, .int 1])) := upd_same
        have ed9 := s9 _ _ ed8
        have sr9 := sr8.same fun b xs q => q.same s9
        generalize (upd (upd H8 b (.lst [.int r, .int 0, .int 1])) p (.lst ((d.ws.map fun p => V.int ((p.1 : Nat) : Int)) ++ [.int r, .int 0, .int 1]))) = H9 at s9 h9 ep9 ed9 sr9 ⊢
        have hin : ∀ v, v ∈ (d.ws.map fun p => V.int ((p.1 : Nat) : Int)) ++ [.int r, .int 0, .int 1] → ∃ i : Nat, v = .int (i : Nat) ∧ i < d.n := fun v mv => by
          rcases List.mem_append.mp mv with mv | mv
          · obtain ⟨⟨j, r⟩, m1, m2⟩ := List.mem_map.mp mv
            exact ⟨j, m2.symm, (h9.ok.ws j r m1).1⟩
          · simp only [List.mem_cons, List.not_mem_nil, or_false] at mv
            rcases mv with z | z | z
            · exact ⟨r.toNat, by rw [z]; congr 1; omega, by omega⟩
            · exact ⟨0, z, by omega⟩
            · exact ⟨1, z, by omega⟩
        refine ⟨_, rfl, p, rfl, ⟨_, SqL.of ep9⟩, for_list (xs := (d.ws.map fun p => V.int ((p.1 : Nat) : Int)) ++ [.int r, .int 0, .int 1]) (fun k σ H' => ∃ v3 v6 v7, σ = [some (.ref a), some (.ref wd), some (.ref x), v3, some (.ref m), some (.ref sd), v6, v7, some (.ref p)] ∧ Same H9 H')
          ⟨_, _, _, rfl, Same.refl _⟩ (fun _ _ _ _ ⟨_, _, _, _, s⟩ => SqL.of (s _ _ ep9)) ?_ ?_⟩
        · rintro k v σ H10 ek ⟨v3, v6, v7, rfl, s10⟩
          obtain ⟨i, rfl, hi⟩ := hin v (List.mem_of_getElem? ek)
          have h10 := h9.same s10
          have sr10 := sr9.same fun b xs q => q.same s10
          obtain ⟨kl, el, kyl, gl⟩ := h10.W.lastF.ex
          refine ⟨_, rfl, sd, rfl, .inl ⟨_, .inl (s10 _ _ ed9)⟩, _, rfl, ?_⟩
          refine ⟨_, rfl, wd, _, rfl, DGet.k (k := Sum.inr "lasting") h10.W.w, la, rfl, .inl ⟨_, .inl el⟩, _, rfl, ?_⟩
          refine ⟨by show 1 ≤ sizeLine; decide, fun l1 nl1 => ⟨l1, 64, _, rfl, rfl, upd_same, by decide, by decide, by decide, fun l2 nl2 => ?_⟩⟩
          have s11 := (Same.new (o := .lst [.int 0]) nl1).trans (Same.new (o := .lst (List.replicate (64 : Int).toNat [V.int 0]).flatten) nl2)
          have el2 : (upd (upd H10 l1 (.lst [.int 0])) l2 (.lst (List.replicate (64 : Int).toNat [V.int 0]).flatten)) l2 = some (.lst (List.replicate (64 : Int).toNat [V.int 0]).flatten) := upd_same
          generalize (upd (upd H10 l1 (.lst [.int 0])) l2 (.lst (List.replicate (64 : Int).toNat [V.int 0]).flatten)) = H11 at s11 el2 ⊢
          refine ⟨_, DGet.k (k := Sum.inl (i : Int)) (s11 _ _ el), _, DGet.k (k := Sum.inl (i : Int)) (s11 _ _ (s10 _ _ ed9)), ?_⟩
          have hv : ∃ c, (valV kvs (.inl (i : Int))).getD ((valV kl (.inl (i : Int))).getD (.ref l2)) = .ref c ∧ LI H11 c (seenF d.st d.ws i) := by
            rcases sr10 i hi with ⟨c, f1, f2⟩ | ⟨f1, f2⟩
            · exact ⟨c, by rw [f1]; rfl, f2.same s11⟩
            · rw [f1, f2]
              rcases gl i hi with ⟨c, f1, f2⟩ | ⟨f1, f2⟩
              · exact ⟨c, by rw [f1]; rfl, f2.same s11⟩
              · refine ⟨l2, by rw [f1]; rfl, ?_⟩
                rw [f2, LI, el2]
                exact congrArg (fun z => some (HO.lst z)) (repl0 64)
          obtain ⟨c, ec, lc⟩ := hv
          rw [ec]
          have h11 := h10.same s11
          obtain ⟨dx, ob⟩ := h11.D.ob
          have e64 := seen64 d.ws d.st h11.ok.st h11.ok.ws i hi
          refine ⟨_, rfl, x, dx, _, rfl, ob, rfl, _, rfl, x, sA, eA, wA, d, i, rfl, h11.D, hi, fun l3 nl3 => ?_⟩
          have s12 : Same H11 (upd H11 l3 (.lst ((seenF d.st d.ws i).map V.int))) := Same.new nl3
          have el3 : LI (upd H11 l3 (.lst ((seenF d.st d.ws i).map V.int))) l3 (seenF d.st d.ws i) := upd_same
          generalize (upd H11 l3 (.lst ((seenF d.st d.ws i).map V.int))) = H12 at s12 el3 ⊢
          refine ⟨_, rfl, _, rfl, _, _, _, rfl, li_dp el3, li_dp (lc.same s12), ok_ints (by rw [e64]; decide), fun H13 s13 => ⟨_, rfl, iteF ?_⟩⟩
          refine ⟨_, rfl, l3, _, 5, 5, rfl, rfl, el3.same s13, ixN_nat (j := 5) (by rw [List.length_map, e64]; decide), _, _, _, rfl, ?_⟩
          exact Same.over (((s10.trans s11).trans s12).trans s13) (by
            cases z : H9 l3 with
            | none => rfl
            | some o => rw [s11 _ _ (s10 _ _ z)] at nl3; cases nl3)
        · rintro σ H10 ⟨v3, v6, v7, rfl, s10⟩
          exact q _ (h9.same s10)
end
end K1
/-! a suite for a known exception; nothing raised -/
namespace Ow
open PySem PySem.Spec PyProof.Rows L2
theorem PSs.when {X : Cx} {ss : List Stmt} {t : TS} {p : Prop} (h : p → PSs X ss t) : PSs X ss (fun D σ H => p ∧ t D σ H) := ⟨fun pins s σ H D I ⟨hp, q⟩ => (h hp).run pins s σ H D I q⟩
theorem zc_of {cls : Value} {d : Option Addr} {oe : Obj} {D : Addr} (h : cls = .ref D ∧ d = none) (z : Zc cls d oe) : Zc (.ref D) none oe := by
  obtain ⟨h1, h2⟩ := h
  subst h1 h2
  exact z
theorem takesN {X : Cx} : Takes X (fun _ _ _ _ => False) := fun _ _ ⟨_, _, _, _, _, _, _, _, _, _, _, _, _, _, _, _, w⟩ => w.elim
theorem pe_cls {X : Cx} {x : Str} {C : Addr} {pos : Pos} (gl : Gl X x) (h : X.mg x = some (.ref C)) (hd : (x == ("__debug__" : Str)) = false := by decide) : PE X (.Name x pos) (tC (.ref C)) := pe_glob (v := .ref C) gl h rfl (hd := hd)
end Ow
namespace K1
open PySem PySem.Spec PyProof.Rows L2 Ow Po Dd Dk
abbrev s_law_refused : Stmt := topS 16
abbrev N_law_refused : List Str := ["size", "e"]
theorem sc_law_refused : FnScope N_law_refused ["size"] (defScope s_law_refused) := ⟨rfl, rfl, rfl, by decide +kernel, rfl, by decide +kernel, by decide +kernel⟩
abbrev slaw : Stmt := topS 24
abbrev Nlaw : List Str := ["script", "state", "size", "disk", "world", "k", "index", "data", "other", "written"]
theorem sclaw : FnScope Nlaw ["script"] (defScope slaw) := ⟨rfl, rfl, rfl, by decide +kernel, rfl, by decide +kernel, by decide +kernel⟩
structure ExcI (K : PySem.W.Frag) (CI CS : Addr) : Prop where
  c : ExcC K CI
  own : PySem.W.kitOne K (.ref CI) (.ref CI) = some true
  ver : PySem.W.kitOne K (.ref CI) (.type "ValueError") = some true
  te : PySem.W.exmOne K (.ref CI) (.ref CS) = some true
def spRefused (K : PySem.W.Frag) : Sp := fun vs H Q _ => ∃ (v : V) (d : PyData), vs = [v] ∧ Dp K H v d ∧ sizeD d = none ∧ ∀ H', Same H H' → Q (.bl true) H'
def spLaw (K : PySem.W.Frag) : Sp := fun vs H Q _ => ∃ (a : Addr) (ns : List Int), vs = [.ref a] ∧ SqL K H a (ns.map V.int) ∧ ns.length ≤ 63 ∧ ∀ H', Q (.bl true) H'
section
variable {P : Program} {w : World} {K : PySem.W.Frag} {mg : Str → Option Value} {base : Heap}
theorem ok_lrefused {f C CI CS : Addr} {fd : FuncData} (F : Fun K "_law_refused" "_law_refused" s_law_refused f fd) (T0 : Bl mg) (gDisk : mg "Disk" = some (.ref C)) (gShelfError : mg "ShelfError" = some (.ref CS)) (XInvalidArgument : ExK K mg CI "InvalidArgument") (XI : ExcI K CI CS) (DDisk : Kmkx P w K mg base C 2 ["self", "sectors"] (spInit K C CI)) :
    FnOk P w K mg base CX0 4 f fd ["size"] (spRefused K) := by
  refine F.ok sc_law_refused (fun vs H Q E h => ?_) (fun cdv A outer s H vs Q E hr h => ?_)
  · obtain ⟨v, d, rfl, _⟩ := h
    rfl
  · obtain ⟨v, d, rfl, hd, e, q⟩ := h
    refine ⟨_, (pss_cons (ps_try_as (i := 1) rfl rfl sc_law_refused.nd rfl rfl ⟨rfl, by decide, .inl gShelfError⟩ takes0 (fun W pn xe tk _ => (pss_one (ps_expr (pe_mkx DDisk gDisk hr tk (pa_cons (pv 0) pa_nil))))) (fun a oe cls d pn hz hf => PSs.when (p := cls = .ref CI ∧ d = none) fun hh => (pss_one (ps_ret (pe_and (pe_callB (call_isE XI.c (zc_of hh hz) hf) (by rfl) T0.isinstance (by decide +kernel) (pa_cons (pv 1) (pa_cons (pe_cls (by rfl) XInvalidArgument.g) pa_nil))) (pe_one (pe_callB (call_isE XI.c (zc_of hh hz) hf) (by rfl) T0.isinstance (by decide +kernel) (pa_cons (pv 1) (pa_cons (pe_ty "ValueError" (by rfl) T0.verr (by decide +kernel)) pa_nil)))))))))
      (pss_one (ps_ret pe_bl))), ?_⟩
    refine ⟨_, rfl, fun x dx nx nd ne => ⟨x, dx, v, d, rfl, upd_same, ?_, fun n en => ?_, fun _ => ?_⟩⟩
    · exact dp_same ((Same.new nd).trans (Same.new (by rw [upd_ne ne.symm]; exact nx))) hd
    · rw [e] at en
      cases en
    · refine ⟨true, XI.te, fun _ a na => ⟨⟨rfl, rfl⟩, ?_⟩, fun q => nomatch q⟩
      refine ⟨_, rfl, .ref CI, .ref CI, true, rfl, fun u h => h, XI.own, _, rfl, iteT ?_⟩
      refine ⟨_, rfl, .ty "ValueError", .type "ValueError", true, rfl, fun u h => h, XI.ver, ?_⟩
      exact q _ ((Same.new nd).trans (Same.new (by rw [upd_ne ne.symm]; exact nx)))
theorem ok_law {f C CI : Addr} {fd : FuncData} (F : Fun K "law" "law" slaw f fd) (T0 : Bl mg) (gDisk : mg "Disk" = some (.ref C)) (DDisk : Kmkx P w K mg base C 2 ["self", "sectors"] (spInit K C CI)) (Dread : Kmt P w K mg base C 1 "read" ["self", "index"] (spRead C)) (D_law_next : Kn P w K mg base 1 "_law_next" ["state", "limit"] spNext) (D_law_same : Kn P w K mg base 3 "_law_same" ["actual", "expected"] (spSame K 2)) (D_law_refused : Kn P w K mg base 4 "_law_refused" ["size"] (spRefused K)) (D_law_is_right : Kn P w K mg base 4 "_law_is_right" ["state", "world", "disk"] (spRight C)) (D_law_deed : Kn P w K mg base 5 "_law_deed" ["state", "world", "disk"] (spDeed C)) :
    FnOk P w K mg base CX0 6 f fd ["script"] (spLaw K) := by
  refine F.ok sclaw (fun vs H Q E h => ?_) (fun cdv A outer s H vs Q E hr h => ?_)
  · obtain ⟨a, ns, rfl, _⟩ := h
    rfl
  · obtain ⟨a0, ns, rfl, hs, hl, q⟩ := h
    refine ⟨_, (pss_cons (ps_set (i := 1) sclaw.nd rfl (.inl rfl) (pe_lst (pa_cons (pe_callTy call_list_of (by rfl) T0.list (by decide +kernel) (pa_cons (pv 0) pa_nil)) (pa_cons pe_int (pa_cons pe_int (pa_cons pe_int pa_nil))))))
      (pss_cons (ps_for PassesOwn.never rfl (pi_list (pe_lst (pa_cons (pe_op op_sub pe_int (pe_kn D_law_next hr (pa_cons (pv 1) (pa_cons pe_int pa_nil)))) (pa_cons (pe_op op_add pe_int (pe_kn D_law_next hr (pa_cons (pv 1) (pa_cons pe_int pa_nil)))) (pa_cons pe_bl (pa_cons pe_str (pa_cons pe_non (pa_cons (pe_lst (pa_cons pe_int pa_nil)) pa_nil)))))))) (pg_name (i := 2) sclaw.nd rfl (.inl rfl)) (pss_one (ps_if (pt_not (pt_val (pe_kn D_law_refused hr (pa_cons (pv 2) pa_nil)))) (pss_one (ps_ret pe_bl)) pss_nil)))
      (pss_cons (ps_set (i := 2) sclaw.nd rfl (.inl rfl) (pe_ix ix_list (pe_lst (pa_cons pe_int (pa_cons pe_int (pa_cons pe_int (pa_cons (pe_op op_add pe_int (pe_kn D_law_next hr (pa_cons (pv 1) (pa_cons pe_int pa_nil)))) pa_nil))))) (pe_kn D_law_next hr (pa_cons (pv 1) (pa_cons pe_int pa_nil))) (fun _ _ => rfl)))
      (pss_cons (ps_set (i := 3) sclaw.nd rfl (.inl rfl) (pe_mkx DDisk gDisk hr takesN (pa_cons (pv 2) pa_nil)))
      (pss_cons (ps_set (i := 4) sclaw.nd rfl (.inl rfl) (pe_disp (pps_cons pe_str (pv 2) (pps_cons pe_str (pe_op op_sub (pv 2) (pe_op op_fdiv (pe_op op_sub (pv 2) pe_int) pe_int)) (pps_cons pe_str pe_dnewK (pps_cons pe_str (pe_lst pa_nil) (pps_cons pe_str pe_bl (pps_cons pe_str pe_non pps_nil)))))) (by rfl) (by rfl) (fun z => by cases z) (by decide)))
      (pss_cons (ps_expr (pe_bm PySem.F.plainAttrs_dict PySem.F.slot_dict_update PySem.F.type_dict_update mtd_update (pv 4) (pa_cons (pe_disp (pps_cons pe_str pe_int (pps_cons pe_str (pe_lst (pa_cons pe_int (pa_cons pe_int (pa_cons pe_int (pa_cons pe_int pa_nil))))) pps_nil)) (by rfl) (by rfl) (fun z => by cases z) (by decide)) pa_nil)))
      (pss_cons (ps_for PassesOwn.never rfl (pi_range1 (by rfl) T0.range (pa_cons (pe_kn D_law_next hr (pa_cons (pv 1) (pa_cons pe_int pa_nil))) pa_nil)) (pg_name (i := 5) sclaw.nd rfl (.inl rfl)) (pss_one (ps_if (PW.pt (pw_or (pt_not (pt_val (pe_kn D_law_is_right hr (pa_cons (pv 1) (pa_cons (pv 4) (pa_cons (pv 3) pa_nil)))))) (pw_or1 (pt_not (pt_val (pe_kn D_law_deed hr (pa_cons (pv 1) (pa_cons (pv 4) (pa_cons (pv 3) pa_nil))))))))) (pss_one (ps_ret pe_bl)) pss_nil)))
      (pss_cons (ps_for PassesOwn.never rfl (pi_range1 (by rfl) T0.range (pa_cons (pv 2) pa_nil)) (pg_name (i := 6) sclaw.nd rfl (.inl rfl)) (pss_cons (ps_set (i := 7) sclaw.nd rfl (.inl rfl) (pe_dget2 (hu_of hr) (pe_dget (hu_of hr) (pv 4) pe_str (fun _ _ => rfl)) (pv 6) (pe_op op_rep (pe_lst (pa_cons pe_int pa_nil)) pe_int) ⟨by rfl, by rfl, by rfl, by rfl⟩))
      (pss_cons (ps_for PassesOwn.never rfl (pi_list (pe_dget (hu_of hr) (pv 4) pe_str (fun _ _ => rfl))) (pg_tup rfl (pgs_cons (pg_name (i := 8) sclaw.nd rfl (.inl rfl)) (pgs_cons (pg_name (i := 9) sclaw.nd rfl (.inl rfl)) pgs_nil))) (pss_one (ps_if (pt_cmpR op_eq (pv 8) (pv 6) (nomark _)) (pss_one (ps_set (i := 7) sclaw.nd rfl (.inl rfl) (pv 9))) pss_nil)))
      (pss_one (ps_if (pt_not (pt_val (pe_kn D_law_same hr (pa_cons (pe_mt Dread hr (pv 3) (pa_cons (pv 6) pa_nil)) (pa_cons (pv 7) pa_nil))))) (pss_one (ps_ret pe_bl)) pss_nil)))))
      (pss_one (ps_ret (pe_kn D_law_is_right hr (pa_cons (pv 1) (pa_cons (pv 4) (pa_cons (pv 3) pa_nil)))))))))))))), ?_⟩
    refine ⟨_, rfl, a0, _, rfl, .inl hs, fun sc n1 => ⟨by show 4 ≤ sizeLine; decide, fun st n2 => ?_⟩⟩
    have S0 : St (upd (upd H sc (.lst (ns.map V.int))) st (.lst [.ref sc, .int 0, .int 0, .int 1])) st sc := ⟨ns, 0, 0, 1, upd_same, Same.new n2 _ _ upd_same, ne_of_none upd_same n2, hl, by decide, by decide, by decide⟩
    generalize (upd (upd H sc (.lst (ns.map V.int))) st (.lst [.ref sc, .int 0, .int 0, .int 1])) = H0 at S0 ⊢
    refine ⟨_, rfl, st, sc, 70, rfl, S0, by decide, by decide, fun H1 r1 S1 g1 a1 b1 => ⟨_, _, rfl, rfl, ?_⟩⟩
    refine ⟨_, rfl, st, sc, 70, rfl, S1, by decide, by decide, fun H2 r2 S2 g2 a2 b2 => ⟨_, _, rfl, rfl, ?_⟩⟩
    refine ⟨by show 1 ≤ sizeLine; decide, fun l1 nl1 => ⟨by show 6 ≤ sizeLine; decide, fun L nL => ?_⟩⟩
    have el1 : (upd (upd H2 l1 (.lst [.int 60])) L (.lst [.int (59 - r1), .int (401 + r2), .bl true, .str "60", .non, .ref l1])) l1 = some (.lst [.int 60]) := Same.new nL _ _ upd_same
    have eL : (upd (upd H2 l1 (.lst [.int 60])) L (.lst [.int (59 - r1), .int (401 + r2), .bl true, .str "60", .non, .ref l1])) L = some (.lst [.int (59 - r1), .int (401 + r2), .bl true, .str "60", .non, .ref l1]) := upd_same
    have S3 := S2.same ((Same.new (o := .lst [.int 60]) nl1).trans (Same.new (o := .lst [.int (59 - r1), .int (401 + r2), .bl true, .str "60", .non, .ref l1]) nL))
    generalize (upd (upd H2 l1 (.lst [.int 60])) L (.lst [.int (59 - r1), .int (401 + r2), .bl true, .str "60", .non, .ref l1])) = H3 at el1 eL S3 ⊢
    have bad : ∀ v, v ∈ [V.int (59 - r1), .int (401 + r2), .bl true, .str "60", .non, .ref l1] → ∃ d, (∀ H', Same H3 H' → Dp K H' v d) ∧ sizeD d = none := fun v m => by
      simp only [List.mem_cons, List.not_mem_nil, or_false] at m
      rcases m with z | z | z | z | z | z <;> rw [z]
      · exact ⟨.int (59 - r1), fun _ _ => .int _, if_neg (by omega)⟩
      · refine ⟨.int (401 + r2), fun _ _ => .int _, ?_⟩
        show (if 60 ≤ 401 + r2 then (if 401 + r2 ≤ 400 then some (401 + r2).toNat else none) else none) = none
        rw [if_pos (by omega), if_neg (by omega)]
      · exact ⟨.bool true, fun _ _ => .bl _, rfl⟩
      · exact ⟨.str "60", fun _ _ => .str _, rfl⟩
      · exact ⟨.none, fun _ _ => .non, rfl⟩
      · exact ⟨.list [.int 60], fun H' s => .lst (SqL.of (s _ _ el1)) (.cons (.int _) .nil), rfl⟩
    refine ⟨L, rfl, ⟨_, SqL.of eL⟩, for_list (xs := [.int (59 - r1), .int (401 + r2), .bl true, .str "60", .non, .ref l1]) (fun k σ H' => ∃ v2, σ = [some (.ref a0), some (.ref st), v2, none, none, none, none, none, none, none] ∧ Same H3 H')
      ⟨none, rfl, Same.refl _⟩ (fun _ _ _ _ ⟨_, _, s⟩ => SqL.of (s _ _ eL)) ?_ ?_⟩
    · rintro k v σ H4 ek ⟨v2, rfl, s4⟩
      obtain ⟨d, dp, e⟩ := bad v (List.mem_of_getElem? ek)
      exact ⟨_, rfl, v, d, rfl, dp _ s4, e, fun H5 s5 => ⟨_, rfl, iteF ⟨_, rfl, s4.trans s5⟩⟩⟩
    · rintro σ H4 ⟨v2, rfl, s4⟩
      have S4 := S3.same s4
      refine ⟨_, rfl, st, sc, 341, rfl, S4, by decide, by decide, fun H5 r S5 g5 a5 b5 => ⟨_, _, rfl, rfl, by show 4 ≤ sizeLine; decide, fun l nl => ?_⟩⟩
      have S6 := S5.same (Same.new (o := .lst [.int 60, .int 61, .int 400, .int (60 + r)]) nl)
      have la0 : l ≠ st := fun z => by
        obtain ⟨_, _, _, _, e, _⟩ := S5
        rw [z, e] at nl
        cases nl
      refine ⟨_, rfl, st, sc, 4, rfl, S6, by decide, by decide, fun H7 r' S7 g7 a7 b7 => ?_⟩
      have el : H7 l = some (.lst [.int 60, .int 61, .int 400, .int (60 + r)]) := g7 _ _ la0 upd_same
      obtain ⟨y, ey, my⟩ := at_in (xs := [V.int 60, .int 61, .int 400, .int (60 + r)]) a7 b7
      refine ⟨l, _, _, y, rfl, rfl, SqL.of el, ey, ?_⟩
      obtain ⟨n, rfl, n0, n1⟩ : ∃ n : Nat, y = .int (n : Nat) ∧ 60 ≤ n ∧ n ≤ 400 := by
        simp only [List.mem_cons, List.not_mem_nil, or_false] at my
        rcases my with z | z | z | z
        · exact ⟨60, z, by omega, by omega⟩
        · exact ⟨61, z, by omega, by omega⟩
        · exact ⟨400, z, by omega, by omega⟩
        · exact ⟨(60 + r).toNat, by rw [z]; congr 1; omega, by omega, by omega⟩
      have en : sizeD (.int (n : Nat)) = some n := by
        show (if 60 ≤ ((n : Nat) : Int) then (if ((n : Nat) : Int) ≤ 400 then some ((n : Nat) : Int).toNat else none) else none) = some n
        rw [if_pos (by omega), if_pos (by omega)]
        rfl
      refine ⟨_, rfl, fun x dx nx nd ne => ⟨x, dx, _, .int (n : Nat), rfl, upd_same, .int _, fun n' e' H8 sA eA wA D8 nw8 g8 => ⟨rfl, ?_⟩, fun z => by rw [en] at z; cases z⟩⟩
      rw [en] at e'
      cases e'
      have s7 : Same H7 (upd (upd H7 dx (.own x)) x (.ins C dx [])) := (Same.new nd).trans (Same.new (by rw [upd_ne ne.symm]; exact nx))
      have S8 : St H8 st sc := by
        obtain ⟨ns, ps, c, sd, e1, e2, r⟩ := S7
        exact ⟨ns, ps, c, sd, g8 _ _ (ne_of_none e1 nx) (s7 _ _ e1), g8 _ _ (ne_of_none e2 nx) (s7 _ _ e2), r⟩
      have far : ∀ b, H7 b ≠ none → b ∉ [x, sA, eA, wA] := fun b hb m => by
        obtain ⟨o, eo⟩ : ∃ o, H7 b = some o := by
          cases z : H7 b with
          | none => exact absurd z hb
          | some o => exact ⟨o, rfl⟩
        have no : ∀ b', b' ∈ [sA, eA, wA] → b = b' → False := fun b' m z => by
          rcases nw8 b' m with y | y
          · cases y
          · rw [← z, s7 _ _ eo] at y
            cases y
        simp only [List.mem_cons, List.not_mem_nil, or_false] at m
        rcases m with z | z | z | z
        · exact ne_of_none eo nx z
        · exact no sA (by simp) z
        · exact no eA (by simp) z
        · exact no wA (by simp) z
      have fa : st ∉ [x, sA, eA, wA] ∧ sc ∉ [x, sA, eA, wA] := by
        obtain ⟨ns, ps, c, sd, e1, e2, r⟩ := S7
        exact ⟨far st (by rw [e1]; intro z; cases z), far sc (by rw [e2]; intro z; cases z)⟩
      have hD : ∀ b, H8 b = none → b ∉ [x, sA, eA, wA] := fun b n m => by
        obtain ⟨dx, ob⟩ := D8.ob
        obtain ⟨s1, f1, _⟩ := D8.s.ex
        obtain ⟨s2, f2, _⟩ := D8.e.ex
        obtain ⟨s3, f3, _⟩ := D8.w.ex
        simp only [List.mem_cons, List.not_mem_nil, or_false] at m
        rcases m with m | m | m | m <;> rw [m] at n
        · rw [ob] at n; cases n
        · rw [f1] at n; cases n
        · rw [f2] at n; cases n
        · rw [f3] at n; cases n
      -- the world
      refine fun wd nwd => ⟨_, rfl, _, rfl, _, rfl, _, _, rfl, rfl, _, _, rfl, rfl, ⟨by decide, by decide⟩, _, _, rfl, rfl, fun la nla => ⟨by show 0 ≤ sizeLine; decide, fun wl nwl => ?_⟩⟩
      have q1 : la ≠ wd := fun z => by rw [z, upd_same] at nla; cases nla
      have nla8 : H8 la = none := by rw [upd_ne q1] at nla; exact nla
      have q2 : wl ≠ la := fun z => by rw [z, upd_same] at nwl; cases nwl
      have q3 : wl ≠ wd := fun z => by rw [z, upd_ne q1.symm, upd_same] at nwl; cases nwl
      have nwl8 : H8 wl = none := by rw [upd_ne q2, upd_ne q3] at nwl; exact nwl
      refine ⟨by rw [upd_ne q3.symm, upd_ne q1.symm]; exact upd_same, [(.inr "size", .int (n : Nat)), (.inr "low", .int ((n : Nat) - ((n : Nat) - 2) / 2)), (.inr "lasting", .ref la), (.inr "waiting", .ref wl), (.inr "on", .bl true), (.inr "left", .non)], rfl, by show 6 ≤ 15; decide, ?_⟩
      have kn : mergeK [] [((.inr "size" : Key), V.int (n : Nat)), (.inr "low", .int ((n : Nat) - ((n : Nat) - 2) / 2)), (.inr "lasting", .ref la), (.inr "waiting", .ref wl), (.inr "on", .bl true), (.inr "left", .non)] = [((.inr "size" : Key), V.int (n : Nat)), (.inr "low", .int ((n : Nat) - ((n : Nat) - 2) / 2)), (.inr "lasting", .ref la), (.inr "waiting", .ref wl), (.inr "on", .bl true), (.inr "left", .non)] := rfl
      rw [kn]
      have sw : Same H8 (upd (upd (upd (upd H8 wd (.dK [])) la (.dK [])) wl (.lst [])) wd (.dK [((.inr "size" : Key), V.int (n : Nat)), (.inr "low", .int ((n : Nat) - ((n : Nat) - 2) / 2)), (.inr "lasting", .ref la), (.inr "waiting", .ref wl), (.inr "on", .bl true), (.inr "left", .non)])) := fun b o e => by
        rw [upd_ne (ne_of_none e nwd), upd_ne (ne_of_none e nwl8), upd_ne (ne_of_none e nla8), upd_ne (ne_of_none e nwd)]
        exact e
      have ew : (upd (upd (upd (upd H8 wd (.dK [])) la (.dK [])) wl (.lst [])) wd (.dK [((.inr "size" : Key), V.int (n : Nat)), (.inr "low", .int ((n : Nat) - ((n : Nat) - 2) / 2)), (.inr "lasting", .ref la), (.inr "waiting", .ref wl), (.inr "on", .bl true), (.inr "left", .non)])) wd = some (.dK [((.inr "size" : Key), V.int (n : Nat)), (.inr "low", .int ((n : Nat) - ((n : Nat) - 2) / 2)), (.inr "lasting", .ref la), (.inr "waiting", .ref wl), (.inr "on", .bl true), (.inr "left", .non)]) := upd_same
      have ela : (upd (upd (upd (upd H8 wd (.dK [])) la (.dK [])) wl (.lst [])) wd (.dK [((.inr "size" : Key), V.int (n : Nat)), (.inr "low", .int ((n : Nat) - ((n : Nat) - 2) / 2)), (.inr "lasting", .ref la), (.inr "waiting", .ref wl), (.inr "on", .bl true), (.inr "left", .non)])) la = some (.dK []) := by
        rw [upd_ne q1, upd_ne q2.symm, upd_same]
      have ewl : (upd (upd (upd (upd H8 wd (.dK [])) la (.dK [])) wl (.lst [])) wd (.dK [((.inr "size" : Key), V.int (n : Nat)), (.inr "low", .int ((n : Nat) - ((n : Nat) - 2) / 2)), (.inr "lasting", .ref la), (.inr "waiting", .ref wl), (.inr "on", .bl true), (.inr "left", .non)])) wl = some (.lst []) := by
        rw [upd_ne q3, upd_same]
      generalize (upd (upd (upd (upd H8 wd (.dK [])) la (.dK [])) wl (.lst [])) wd (.dK [((.inr "size" : Key), V.int (n : Nat)), (.inr "low", .int ((n : Nat) - ((n : Nat) - 2) / 2)), (.inr "lasting", .ref la), (.inr "waiting", .ref wl), (.inr "on", .bl true), (.inr "left", .non)])) = Hw at sw ew ela ewl ⊢
      refine ⟨_, rfl, .inr (.inr (.inl ⟨rfl, .inl ⟨_, ew⟩⟩)), fun u nu => ⟨by show 4 ≤ sizeLine; decide, fun ct nct => ?_⟩⟩
      have q4 : ct ≠ u := fun z => by rw [z, upd_same] at nct; cases nct
      have nctw : Hw ct = none := by rw [upd_ne q4] at nct; exact nct
      have q5 : wd ≠ u := ne_of_none ew nu
      have q6 : wd ≠ ct := ne_of_none ew nctw
      refine ⟨by rw [upd_ne q4.symm]; exact upd_same, [(.inr "losses", .int 0), (.inr "counts", .ref ct)], rfl, by show 2 ≤ 15; decide, ?_⟩
      refine ⟨wd, u, _, _, rfl, rfl, by rw [upd_ne q5, upd_ne q6, upd_ne q5]; exact ew, upd_same, q5, by show 8 ≤ sizeLine; decide, ?_⟩
      have km : mergeK [((.inr "size" : Key), V.int (n : Nat)), (.inr "low", .int ((n : Nat) - ((n : Nat) - 2) / 2)), (.inr "lasting", .ref la), (.inr "waiting", .ref wl), (.inr "on", .bl true), (.inr "left", .non)] (mergeK [] [(.inr "losses", .int 0), (.inr "counts", .ref ct)]) = keysW la wl ct (newF n) := rfl
      rw [km]
      have gf : Gw wd Hw (upd (upd (upd (upd Hw u (.dK [])) ct (.lst [.int 0, .int 0, .int 0, .int 0])) u (.dK (mergeK [] [(.inr "losses", .int 0), (.inr "counts", .ref ct)]))) wd (.dK (keysW la wl ct (newF n)))) := fun b o nb e => by
        rw [upd_ne nb, upd_ne (ne_of_none e nu), upd_ne (ne_of_none e nctw), upd_ne (ne_of_none e nu)]
        exact e
      have efw : (upd (upd (upd (upd Hw u (.dK [])) ct (.lst [.int 0, .int 0, .int 0, .int 0])) u (.dK (mergeK [] [(.inr "losses", .int 0), (.inr "counts", .ref ct)]))) wd (.dK (keysW la wl ct (newF n)))) wd = some (.dK (keysW la wl ct (newF n))) := upd_same
      have efc : (upd (upd (upd (upd Hw u (.dK [])) ct (.lst [.int 0, .int 0, .int 0, .int 0])) u (.dK (mergeK [] [(.inr "losses", .int 0), (.inr "counts", .ref ct)]))) wd (.dK (keysW la wl ct (newF n)))) ct = some (.lst [.int 0, .int 0, .int 0, .int 0]) := by
        rw [upd_ne q6.symm, upd_ne q4, upd_same]
      generalize (upd (upd (upd (upd Hw u (.dK [])) ct (.lst [.int 0, .int 0, .int 0, .int 0])) u (.dK (mergeK [] [(.inr "losses", .int 0), (.inr "counts", .ref ct)]))) wd (.dK (keysW la wl ct (newF n)))) = Hf at gf efw efc ⊢
      have sf : Same H8 Hf := fun b o e => gf b o (ne_of_none e nwd) (sw b o e)
      have A0 : All C Hf st sc x sA eA wA wd la wl ct (newF n) (newF n) := by
        have nct8 : H8 ct = none := Same.free sw nctw
        obtain ⟨ns, ps, c, sd, e1, e2, e3, e4⟩ := S8
        refine ⟨⟨ns, ps, c, sd, sf _ _ e1, sf _ _ e2, e3, e4⟩, D8.same sf, ⟨efw, ⟨[], gf _ _ q1 ela, KyN.nil _, fun i hi => .inr ⟨rfl, rfl⟩⟩, ⟨[], gf _ _ q3 ewl, rfl, fun i t j r z => by simp at z⟩, efc, q1.symm, fun k z => by cases z⟩, D8.ok, fun b m => ?_, fun m => ?_, fun z => ?_, fun z => ?_⟩
        · simp only [List.mem_cons, List.not_mem_nil, or_false] at m
          rcases m with z | z | z | z | z | z <;> rw [z]
          · exact fa.1
          · exact fa.2
          · exact hD _ nwd
          · exact hD _ nla8
          · exact hD _ nwl8
          · exact hD _ nct8
        · simp only [List.mem_cons, List.not_mem_nil, or_false] at m
          rcases m with z | z | z | z <;> rw [z] at e1
          · rw [nwd] at e1; cases e1
          · rw [nla8] at e1; cases e1
          · rw [nwl8] at e1; cases e1
          · rw [nct8] at e1; cases e1
        · rw [z, nwl8] at e2; cases e2
        · rw [z, nct8] at e2; cases e2
      refine ⟨_, rfl, st, sc, 61, rfl, A0.S, by decide, by decide, fun H9 r S9 g9 a9 b9 => ?_⟩
      have A9 := A0.next S9 g9
      refine ⟨_, rfl, by omega, by omega, for_range (lo := 0) (n := r.toNat) (fun k σ H' => ∃ v5 sA eA wA wl d, σ = [some (.ref a0), some (.ref st), some (.int (n : Nat)), some (.ref x), some (.ref wd), v5, none, none, none, none] ∧ All C H' st sc x sA eA wA wd la wl ct d d ∧ d.n = n ∧ d.ws.length ≤ k)
        ⟨none, _, _, _, _, _, rfl, A9, rfl, Nat.le_refl _⟩ ?_ ?_⟩
      · rintro k σ H10 hk ⟨v5, sA, eA, wA, wl, d, rfl, h, hn, hw⟩
        refine ⟨_, rfl, _, rfl, _, rfl, st, sc, x, sA, eA, wA, wd, la, wl, ct, d, rfl, h, by omega, fun H11 h11 => ⟨_, rfl, iteF ?_⟩⟩
        refine ⟨_, rfl, _, rfl, _, rfl, st, sc, x, sA, eA, wA, wd, la, wl, ct, d, rfl, h11, by omega, fun H12 sA' eA' wA' wl' d' h12 hn2 hw2 => ⟨_, rfl, iteF ?_⟩⟩
        exact ⟨_, _, _, _, _, _, rfl, h12, by rw [hn2, hn], by omega⟩
      · rintro σ H10 ⟨v5, sA, eA, wA, wl, d, rfl, h, hn, hw⟩
        have hw : d.ws.length < 900 := by omega
        subst hn
        obtain ⟨ts, et, lt, gt⟩ := h.W.waitF.ex
        refine ⟨_, rfl, _, rfl, by omega, by omega, for_range (lo := 0) (n := d.n) (fun k σ H' => ∃ v6 v7 v8 v9, σ = [some (.ref a0), some (.ref st), some (.int (d.n : Nat)), some (.ref x), some (.ref wd), v5, v6, v7, v8, v9] ∧ Same H10 H')
          ⟨_, _, _, _, rfl, Same.refl _⟩ ?_ ?_⟩
        · rintro i σ H11 hi ⟨v6, v7, v8, v9, rfl, s11⟩
          show gName 6 (V.int (0 + (i : Int))) _ _ _
          rw [Int.zero_add]
          have h11 := h.same s11
          obtain ⟨kl, el, kyl, gl⟩ := h11.W.lastF.ex
          refine ⟨_, rfl, wd, _, rfl, DGet.k (k := Sum.inr "lasting") h11.W.w, la, rfl, .inl ⟨_, .inl el⟩, _, rfl, ?_⟩
          refine ⟨by show 1 ≤ sizeLine; decide, fun l1 nl1 => ⟨l1, 64, _, rfl, rfl, upd_same, by decide, by decide, by decide, fun l2 nl2 => ?_⟩⟩
          have s12 := (Same.new (o := .lst [.int 0]) nl1).trans (Same.new (o := .lst (List.replicate (64 : Int).toNat [V.int 0]).flatten) nl2)
          have el2 : (upd (upd H11 l1 (.lst [.int 0])) l2 (.lst (List.replicate (64 : Int).toNat [V.int 0]).flatten)) l2 = some (.lst (List.replicate (64 : Int).toNat [V.int 0]).flatten) := upd_same
          generalize (upd (upd H11 l1 (.lst [.int 0])) l2 (.lst (List.replicate (64 : Int).toNat [V.int 0]).flatten)) = H12 at s12 el2 ⊢
          refine ⟨_, DGet.k (k := Sum.inl (i : Int)) (s12 _ _ el), ?_⟩
          have hv : ∃ c, (valV kl (.inl (i : Int))).getD (.ref l2) = .ref c ∧ LI H12 c (d.st i) := by
            rcases gl i hi with ⟨c, f1, f2⟩ | ⟨f1, f2⟩
            · exact ⟨c, by rw [f1]; rfl, f2.same s12⟩
            · refine ⟨l2, by rw [f1]; rfl, ?_⟩
              rw [f2, LI, el2]
              exact congrArg (fun z => some (HO.lst z)) (repl0 64)
          obtain ⟨c, ec, lc⟩ := hv
          rw [ec]
          have h12 := h11.same s12
          have so := s11.trans s12
          refine ⟨_, rfl, wd, _, rfl, DGet.k (k := Sum.inr "waiting") h12.W.w, wl, rfl, ⟨_, SqL.of (so _ _ et)⟩, for_list (xs := ts.map V.ref) (fun k σ H' => ∃ v8 v9 c, σ = [some (.ref a0), some (.ref st), some (.int (d.n : Nat)), some (.ref x), some (.ref wd), v5, some (.int (i : Nat)), some (.ref c), v8, v9] ∧ H' = H12 ∧ LI H12 c (seenF d.st (d.ws.take k) i))
            ⟨_, _, c, rfl, rfl, lc⟩ (fun _ _ _ _ ⟨_, _, _, _, e, _⟩ => by rw [e]; exact SqL.of (so _ _ et)) ?_ ?_⟩
          · rintro k v σ H13 ek ⟨v8, v9, c, rfl, rfl, lc⟩
            have hk := (List.getElem?_eq_some_iff.mp ek).1
            rw [List.length_map] at hk
            have etk : ts[k]? = some ts[k] := List.getElem?_eq_getElem hk
            rw [List.getElem?_map, etk] at ek
            cases ek
            have ews : d.ws[k]? = some (d.ws[k]'(by rw [← lt]; exact hk)) := List.getElem?_eq_getElem _
            obtain ⟨⟨j, r⟩, ej⟩ : ∃ jr : Nat × List Int, d.ws[k]'(by rw [← lt]; exact hk) = jr := ⟨_, rfl⟩
            rw [ej] at ews
            obtain ⟨p, ep, lp⟩ := gt k _ j r etk ews
            have z : d.ws.take (k + 1) = d.ws.take k ++ [(j, r)] := by
              rw [List.take_succ, ews]
              rfl
            rw [z, seen_snoc]
            refine ⟨_, _, rfl, SqT.of (so _ _ ep), rfl, _, _, rfl, _, _, rfl, rfl, ?_⟩
            refine ⟨_, rfl, _, rfl, rfl, _, rfl, ?_⟩
            show if decide (V.int j = V.int i) = true then _ else _
            rw [eqV0]
            by_cases y : j = i
            · rw [decide_eq_true (by omega)]
              refine iteT ⟨_, rfl, _, _, p, rfl, rfl, ?_⟩
              show LI _ p (if i = j then r else _)
              rw [if_pos y.symm]
              exact lp.same so
            · rw [decide_eq_false (by omega)]
              refine iteF ⟨_, _, c, rfl, rfl, ?_⟩
              show LI _ c (if i = j then r else _)
              rw [if_neg (fun z => y z.symm)]
              exact lc
          · rintro σ H13 ⟨v8, v9, c, rfl, rfl, lc⟩
            rw [List.length_map, lt, List.take_length] at lc
            obtain ⟨dx, ob⟩ := h12.D.ob
            have e64 := seen64 d.ws d.st h12.ok.st h12.ok.ws i hi
            refine ⟨_, rfl, x, dx, _, rfl, ob, rfl, _, rfl, x, sA, eA, wA, d, i, rfl, h12.D, hi, fun l3 nl3 => ?_⟩
            have s13 : Same H13 (upd H13 l3 (.lst ((seenF d.st d.ws i).map V.int))) := Same.new nl3
            have el3 : LI (upd H13 l3 (.lst ((seenF d.st d.ws i).map V.int))) l3 (seenF d.st d.ws i) := upd_same
            refine ⟨_, rfl, _, _, _, rfl, li_dp el3, li_dp (lc.same s13), ok_ints (by rw [e64]; decide), fun H14 s14 => ⟨_, rfl, iteF ?_⟩⟩
            exact ⟨_, _, _, _, rfl, (so.trans s13).trans s14⟩
        · rintro σ H11 ⟨v6, v7, v8, v9, rfl, s11⟩
          exact ⟨_, rfl, _, rfl, _, rfl, st, sc, x, sA, eA, wA, wd, la, wl, ct, d, rfl, h.same s11, hw, fun H' _ => q _⟩
end
end K1
namespace K1
open PySem PySem.Spec PyProof.Rows L2 Ow Po Dd Dk
theorem kn_of {P : Program} {w : World} {K : PySem.W.Frag} {mg : Str → Option Value} {base : Heap} {k : Nat} {x qual : Str} {st : Stmt} {f : Addr} {fd : FuncData} {ps : List Str} {sp : Sp}
    (F : Fun K x qual st f fd) (g : mg x = some (.ref f)) (b : Binds K fd ps []) (ok : FnOk P w K mg base CX0 k f fd ps sp) : Kn P w K mg base k x ps sp := ⟨⟨f, fd, ok, g, F.kp, b⟩⟩
theorem all_mk {l : PySem.W.OpenLaw} {w : World} {K : PySem.W.Frag} {h : Heap} {mg : Str → Option Value} {fa : Addr} (X : K.In h) (G : h.Ns mainGlobals mg) (hfa : mg "law" = some (.ref fa))
    {f1 : Addr} {od1 an1 : Option Addr} {sl1 : Array (Option Value)} {oc1 kV1 dc1 pm1 cd1 ct1 : Value}
    {f2 : Addr} {od2 an2 : Option Addr} {sl2 : Array (Option Value)} {oc2 kV2 dc2 pm2 cd2 ct2 : Value}
    {f3 : Addr} {od3 an3 : Option Addr} {sl3 : Array (Option Value)} {oc3 kV3 dc3 pm3 cd3 ct3 : Value}
    {f4 : Addr} {od4 an4 : Option Addr} {sl4 : Array (Option Value)} {oc4 kV4 dc4 pm4 cd4 ct4 : Value}
    {f5 : Addr} {od5 an5 : Option Addr} {sl5 : Array (Option Value)} {oc5 kV5 dc5 pm5 cd5 ct5 : Value}
    {f6 : Addr} {od6 an6 : Option Addr} {sl6 : Array (Option Value)} {oc6 kV6 dc6 pm6 cd6 ct6 : Value}
    {f7 : Addr} {od7 an7 : Option Addr} {sl7 : Array (Option Value)} {oc7 kV7 dc7 pm7 cd7 ct7 : Value}
    {f8 : Addr} {od8 an8 : Option Addr} {sl8 : Array (Option Value)} {oc8 kV8 dc8 pm8 cd8 ct8 : Value}
    {f9 : Addr} {od9 an9 : Option Addr} {sl9 : Array (Option Value)} {oc9 kV9 dc9 pm9 cd9 ct9 : Value}
    {f10 : Addr} {od10 an10 : Option Addr} {sl10 : Array (Option Value)} {oc10 kV10 dc10 pm10 cd10 ct10 : Value}
    {f11 : Addr} {od11 an11 : Option Addr} {sl11 : Array (Option Value)} {oc11 kV11 dc11 pm11 cd11 ct11 : Value}
    {f12 : Addr} {od12 an12 : Option Addr} {sl12 : Array (Option Value)} {oc12 kV12 dc12 pm12 cd12 ct12 : Value}
    {f13 : Addr} {od13 an13 : Option Addr} {sl13 : Array (Option Value)} {oc13 kV13 dc13 pm13 cd13 ct13 : Value}
    (a1 : PySem.W.nsIn K mainGlobals "region_start" = some (some (.ref f1)))
    (l1 : K.lookup f1 = some ⟨oc1, od1, .func (PySem.W.fnOf "region_start" "region_start" (defArgs sregion_start) (defBody sregion_start) (defScope sregion_start) .none kV1 dc1 pm1 an1 cd1 ct1), sl1⟩) (c1 : PySem.W.codeIn K cd1 "region_start" = true) (k1 : PySem.W.keepIn K (.ref f1) = true)
    (a2 : PySem.W.nsIn K mainGlobals "is_size" = some (some (.ref f2)))
    (l2 : K.lookup f2 = some ⟨oc2, od2, .func (PySem.W.fnOf "is_size" "is_size" (defArgs sis_size) (defBody sis_size) (defScope sis_size) .none kV2 dc2 pm2 an2 cd2 ct2), sl2⟩) (c2 : PySem.W.codeIn K cd2 "is_size" = true) (k2 : PySem.W.keepIn K (.ref f2) = true)
    (a3 : PySem.W.nsIn K mainGlobals "_law_next" = some (some (.ref f3)))
    (l3 : K.lookup f3 = some ⟨oc3, od3, .func (PySem.W.fnOf "_law_next" "_law_next" (defArgs s_law_next) (defBody s_law_next) (defScope s_law_next) .none kV3 dc3 pm3 an3 cd3 ct3), sl3⟩) (c3 : PySem.W.codeIn K cd3 "_law_next" = true) (k3 : PySem.W.keepIn K (.ref f3) = true)
    (a4 : PySem.W.nsIn K mainGlobals "_law_same" = some (some (.ref f4)))
    (l4 : K.lookup f4 = some ⟨oc4, od4, .func (PySem.W.fnOf "_law_same" "_law_same" (defArgs s_law_same) (defBody s_law_same) (defScope s_law_same) .none kV4 dc4 pm4 an4 cd4 ct4), sl4⟩) (c4 : PySem.W.codeIn K cd4 "_law_same" = true) (k4 : PySem.W.keepIn K (.ref f4) = true)
    (a5 : PySem.W.nsIn K mainGlobals "_law_refused" = some (some (.ref f5)))
    (l5 : K.lookup f5 = some ⟨oc5, od5, .func (PySem.W.fnOf "_law_refused" "_law_refused" (defArgs s_law_refused) (defBody s_law_refused) (defScope s_law_refused) .none kV5 dc5 pm5 an5 cd5 ct5), sl5⟩) (c5 : PySem.W.codeIn K cd5 "_law_refused" = true) (k5 : PySem.W.keepIn K (.ref f5) = true)
    (a6 : PySem.W.nsIn K mainGlobals "_law_operate" = some (some (.ref f6)))
    (l6 : K.lookup f6 = some ⟨oc6, od6, .func (PySem.W.fnOf "_law_operate" "_law_operate" (defArgs s_law_operate) (defBody s_law_operate) (defScope s_law_operate) .none kV6 dc6 pm6 an6 cd6 ct6), sl6⟩) (c6 : PySem.W.codeIn K cd6 "_law_operate" = true) (k6 : PySem.W.keepIn K (.ref f6) = true)
    (a7 : PySem.W.nsIn K mainGlobals "_law_write" = some (some (.ref f7)))
    (l7 : K.lookup f7 = some ⟨oc7, od7, .func (PySem.W.fnOf "_law_write" "_law_write" (defArgs s_law_write) (defBody s_law_write) (defScope s_law_write) .none kV7 dc7 pm7 an7 cd7 ct7), sl7⟩) (c7 : PySem.W.codeIn K cd7 "_law_write" = true) (k7 : PySem.W.keepIn K (.ref f7) = true)
    (a8 : PySem.W.nsIn K mainGlobals "_law_sync" = some (some (.ref f8)))
    (l8 : K.lookup f8 = some ⟨oc8, od8, .func (PySem.W.fnOf "_law_sync" "_law_sync" (defArgs s_law_sync) (defBody s_law_sync) (defScope s_law_sync) .none kV8 dc8 pm8 an8 cd8 ct8), sl8⟩) (c8 : PySem.W.codeIn K cd8 "_law_sync" = true) (k8 : PySem.W.keepIn K (.ref f8) = true)
    (a9 : PySem.W.nsIn K mainGlobals "_law_fail" = some (some (.ref f9)))
    (l9 : K.lookup f9 = some ⟨oc9, od9, .func (PySem.W.fnOf "_law_fail" "_law_fail" (defArgs s_law_fail) (defBody s_law_fail) (defScope s_law_fail) .none kV9 dc9 pm9 an9 cd9 ct9), sl9⟩) (c9 : PySem.W.codeIn K cd9 "_law_fail" = true) (k9 : PySem.W.keepIn K (.ref f9) = true)
    (a10 : PySem.W.nsIn K mainGlobals "_law_power" = some (some (.ref f10)))
    (l10 : K.lookup f10 = some ⟨oc10, od10, .func (PySem.W.fnOf "_law_power" "_law_power" (defArgs s_law_power) (defBody s_law_power) (defScope s_law_power) .none kV10 dc10 pm10 an10 cd10 ct10), sl10⟩) (c10 : PySem.W.codeIn K cd10 "_law_power" = true) (k10 : PySem.W.keepIn K (.ref f10) = true)
    (a11 : PySem.W.nsIn K mainGlobals "_law_deed" = some (some (.ref f11)))
    (l11 : K.lookup f11 = some ⟨oc11, od11, .func (PySem.W.fnOf "_law_deed" "_law_deed" (defArgs s_law_deed) (defBody s_law_deed) (defScope s_law_deed) .none kV11 dc11 pm11 an11 cd11 ct11), sl11⟩) (c11 : PySem.W.codeIn K cd11 "_law_deed" = true) (k11 : PySem.W.keepIn K (.ref f11) = true)
    (a12 : PySem.W.nsIn K mainGlobals "_law_is_right" = some (some (.ref f12)))
    (l12 : K.lookup f12 = some ⟨oc12, od12, .func (PySem.W.fnOf "_law_is_right" "_law_is_right" (defArgs s_law_is_right) (defBody s_law_is_right) (defScope s_law_is_right) .none kV12 dc12 pm12 an12 cd12 ct12), sl12⟩) (c12 : PySem.W.codeIn K cd12 "_law_is_right" = true) (k12 : PySem.W.keepIn K (.ref f12) = true)
    (a13 : PySem.W.nsIn K mainGlobals "law" = some (some (.ref f13)))
    (l13 : K.lookup f13 = some ⟨oc13, od13, .func (PySem.W.fnOf "law" "law" (defArgs slaw) (defBody slaw) (defScope slaw) .none kV13 dc13 pm13 an13 cd13 ct13), sl13⟩) (c13 : PySem.W.codeIn K cd13 "law" = true) (k13 : PySem.W.keepIn K (.ref f13) = true)
    {C : Addr}
    (aC : PySem.W.nsIn K mainGlobals "Disk" = some (some (.ref C)))
    (pg : PySem.W.plainGet K C Str.empty = true) (hd : PySem.W.hasDictIn K C = true) (po : PySem.W.plainOver K C = true) (sa : PySem.W.findIn K (.ref C) "__setattr__" = some (some (.builtin "object.__setattr__"))) (mk : PySem.W.makesIn K C = true) (kc : PySem.W.keepIn K (.ref C) = true)
    (na1 : PySem.W.findIn K (.ref C) "stored" = some none) (na2 : PySem.W.findIn K (.ref C) "seen" = some none) (na3 : PySem.W.findIn K (.ref C) "waiting" = some none) (na4 : PySem.W.findIn K (.ref C) "reads" = some none) (na5 : PySem.W.findIn K (.ref C) "writes" = some none) (na6 : PySem.W.findIn K (.ref C) "logs" = some none) (na7 : PySem.W.findIn K (.ref C) "syncs" = some none) (na8 : PySem.W.findIn K (.ref C) "powered" = some none) (na9 : PySem.W.findIn K (.ref C) "lost" = some none) (na10 : PySem.W.findIn K (.ref C) "allowed" = some none) (na11 : PySem.W.findIn K (.ref C) "holder" = some none)
    {fMI : Addr} {odMI anMI : Option Addr} {slMI : Array (Option Value)} {ocMI kVMI dcMI pmMI cdMI ctMI : Value}
    (aMI : PySem.W.findIn K (.ref C) "__init__" = some (some (.ref fMI))) (iMI : PySem.W.isFn K (.ref fMI) = true)
    (lMI : K.lookup fMI = some ⟨ocMI, odMI, .func (PySem.W.fnOf "__init__" "Disk.__init__" (defArgs sDisk_init) (defBody sDisk_init) (defScope sDisk_init) .none kVMI dcMI pmMI anMI cdMI ctMI), slMI⟩) (cMI : PySem.W.codeIn K cdMI "Disk.__init__" = true) (kMI : PySem.W.keepIn K (.ref fMI) = true)
    {fMS : Addr} {odMS anMS : Option Addr} {slMS : Array (Option Value)} {ocMS kVMS dcMS pmMS cdMS ctMS : Value}
    (aMS : PySem.W.findIn K (.ref C) "size" = some (some (.ref fMS))) (iMS : PySem.W.isFn K (.ref fMS) = true)
    (lMS : K.lookup fMS = some ⟨ocMS, odMS, .func (PySem.W.fnOf "size" "Disk.size" (defArgs sDisk_size) (defBody sDisk_size) (defScope sDisk_size) .none kVMS dcMS pmMS anMS cdMS ctMS), slMS⟩) (cMS : PySem.W.codeIn K cdMS "Disk.size" = true) (kMS : PySem.W.keepIn K (.ref fMS) = true)
    {fMR : Addr} {odMR anMR : Option Addr} {slMR : Array (Option Value)} {ocMR kVMR dcMR pmMR cdMR ctMR : Value}
    (aMR : PySem.W.findIn K (.ref C) "read" = some (some (.ref fMR))) (iMR : PySem.W.isFn K (.ref fMR) = true)
    (lMR : K.lookup fMR = some ⟨ocMR, odMR, .func (PySem.W.fnOf "read" "Disk.read" (defArgs sDisk_read) (defBody sDisk_read) (defScope sDisk_read) .none kVMR dcMR pmMR anMR cdMR ctMR), slMR⟩) (cMR : PySem.W.codeIn K cdMR "Disk.read" = true) (kMR : PySem.W.keepIn K (.ref fMR) = true)
    {fMP : Addr} {odMP anMP : Option Addr} {slMP : Array (Option Value)} {ocMP kVMP dcMP pmMP cdMP ctMP : Value}
    (aMP : PySem.W.findIn K (.ref C) "pending" = some (some (.ref fMP))) (iMP : PySem.W.isFn K (.ref fMP) = true)
    (lMP : K.lookup fMP = some ⟨ocMP, odMP, .func (PySem.W.fnOf "pending" "Disk.pending" (defArgs sDisk_pending) (defBody sDisk_pending) (defScope sDisk_pending) .none kVMP dcMP pmMP anMP cdMP ctMP), slMP⟩) (cMP : PySem.W.codeIn K cdMP "Disk.pending" = true) (kMP : PySem.W.keepIn K (.ref fMP) = true)
    {fMC : Addr} {odMC anMC : Option Addr} {slMC : Array (Option Value)} {ocMC kVMC dcMC pmMC cdMC ctMC : Value}
    (aMC : PySem.W.findIn K (.ref C) "counts" = some (some (.ref fMC))) (iMC : PySem.W.isFn K (.ref fMC) = true)
    (lMC : K.lookup fMC = some ⟨ocMC, odMC, .func (PySem.W.fnOf "counts" "Disk.counts" (defArgs sDisk_counts) (defBody sDisk_counts) (defScope sDisk_counts) .none kVMC dcMC pmMC anMC cdMC ctMC), slMC⟩) (cMC : PySem.W.codeIn K cdMC "Disk.counts" = true) (kMC : PySem.W.keepIn K (.ref fMC) = true)
    {fMW : Addr} {odMW anMW : Option Addr} {slMW : Array (Option Value)} {ocMW kVMW dcMW pmMW cdMW ctMW : Value}
    (aMW : PySem.W.findIn K (.ref C) "write" = some (some (.ref fMW))) (iMW : PySem.W.isFn K (.ref fMW) = true)
    (lMW : K.lookup fMW = some ⟨ocMW, odMW, .func (PySem.W.fnOf "write" "Disk.write" (defArgs sDisk_write) (defBody sDisk_write) (defScope sDisk_write) .none kVMW dcMW pmMW anMW cdMW ctMW), slMW⟩) (cMW : PySem.W.codeIn K cdMW "Disk.write" = true) (kMW : PySem.W.keepIn K (.ref fMW) = true)
    {fMY : Addr} {odMY anMY : Option Addr} {slMY : Array (Option Value)} {ocMY kVMY dcMY pmMY cdMY ctMY : Value}
    (aMY : PySem.W.findIn K (.ref C) "sync" = some (some (.ref fMY))) (iMY : PySem.W.isFn K (.ref fMY) = true)
    (lMY : K.lookup fMY = some ⟨ocMY, odMY, .func (PySem.W.fnOf "sync" "Disk.sync" (defArgs sDisk_sync) (defBody sDisk_sync) (defScope sDisk_sync) .none kVMY dcMY pmMY anMY cdMY ctMY), slMY⟩) (cMY : PySem.W.codeIn K cdMY "Disk.sync" = true) (kMY : PySem.W.keepIn K (.ref fMY) = true)
    {fMN : Addr} {odMN anMN : Option Addr} {slMN : Array (Option Value)} {ocMN kVMN dcMN pmMN cdMN ctMN : Value}
    (aMN : PySem.W.findIn K (.ref C) "note_reads" = some (some (.ref fMN))) (iMN : PySem.W.isFn K (.ref fMN) = true)
    (lMN : K.lookup fMN = some ⟨ocMN, odMN, .func (PySem.W.fnOf "note_reads" "Disk.note_reads" (defArgs sDisk_note_reads) (defBody sDisk_note_reads) (defScope sDisk_note_reads) .none kVMN dcMN pmMN anMN cdMN ctMN), slMN⟩) (cMN : PySem.W.codeIn K cdMN "Disk.note_reads" = true) (kMN : PySem.W.keepIn K (.ref fMN) = true)
    {fMA : Addr} {odMA anMA : Option Addr} {slMA : Array (Option Value)} {ocMA kVMA dcMA pmMA cdMA ctMA : Value}
    (aMA : PySem.W.findIn K (.ref C) "fail_after" = some (some (.ref fMA))) (iMA : PySem.W.isFn K (.ref fMA) = true)
    (lMA : K.lookup fMA = some ⟨ocMA, odMA, .func (PySem.W.fnOf "fail_after" "Disk.fail_after" (defArgs sDisk_fail_after) (defBody sDisk_fail_after) (defScope sDisk_fail_after) .none kVMA dcMA pmMA anMA cdMA ctMA), slMA⟩) (cMA : PySem.W.codeIn K cdMA "Disk.fail_after" = true) (kMA : PySem.W.keepIn K (.ref fMA) = true)
    {fMV : Addr} {odMV anMV : Option Addr} {slMV : Array (Option Value)} {ocMV kVMV dcMV pmMV cdMV ctMV : Value}
    (aMV : PySem.W.findIn K (.ref C) "power" = some (some (.ref fMV))) (iMV : PySem.W.isFn K (.ref fMV) = true)
    (lMV : K.lookup fMV = some ⟨ocMV, odMV, .func (PySem.W.fnOf "power" "Disk.power" (defArgs sDisk_power) (defBody sDisk_power) (defScope sDisk_power) .none kVMV dcMV pmMV anMV cdMV ctMV), slMV⟩) (cMV : PySem.W.codeIn K cdMV "Disk.power" = true) (kMV : PySem.W.keepIn K (.ref fMV) = true)
    {fMO : Addr} {odMO anMO : Option Addr} {slMO : Array (Option Value)} {ocMO kVMO dcMO pmMO cdMO ctMO : Value}
    (aMO : PySem.W.findIn K (.ref C) "is_on" = some (some (.ref fMO))) (iMO : PySem.W.isFn K (.ref fMO) = true)
    (lMO : K.lookup fMO = some ⟨ocMO, odMO, .func (PySem.W.fnOf "is_on" "Disk.is_on" (defArgs sDisk_is_on) (defBody sDisk_is_on) (defScope sDisk_is_on) .none kVMO dcMO pmMO anMO cdMO ctMO), slMO⟩) (cMO : PySem.W.codeIn K cdMO "Disk.is_on" = true) (kMO : PySem.W.keepIn K (.ref fMO) = true)
    {fML : Addr} {odML anML : Option Addr} {slML : Array (Option Value)} {ocML kVML dcML pmML cdML ctML : Value}
    (aML : PySem.W.findIn K (.ref C) "losses" = some (some (.ref fML))) (iML : PySem.W.isFn K (.ref fML) = true)
    (lML : K.lookup fML = some ⟨ocML, odML, .func (PySem.W.fnOf "losses" "Disk.losses" (defArgs sDisk_losses) (defBody sDisk_losses) (defScope sDisk_losses) .none kVML dcML pmML anML cdML ctML), slML⟩) (cML : PySem.W.codeIn K cdML "Disk.losses" = true) (kML : PySem.W.keepIn K (.ref fML) = true)
    {fMT : Addr} {odMT anMT : Option Addr} {slMT : Array (Option Value)} {ocMT kVMT dcMT pmMT cdMT ctMT : Value}
    (aMT : PySem.W.findIn K (.ref C) "operate" = some (some (.ref fMT))) (iMT : PySem.W.isFn K (.ref fMT) = true)
    (lMT : K.lookup fMT = some ⟨ocMT, odMT, .func (PySem.W.fnOf "operate" "Disk.operate" (defArgs sDisk_operate) (defBody sDisk_operate) (defScope sDisk_operate) .none kVMT dcMT pmMT anMT cdMT ctMT), slMT⟩) (cMT : PySem.W.codeIn K cdMT "Disk.operate" = true) (kMT : PySem.W.keepIn K (.ref fMT) = true)
    {fMF : Addr} {odMF anMF : Option Addr} {slMF : Array (Option Value)} {ocMF kVMF dcMF pmMF cdMF ctMF : Value}
    (aMF : PySem.W.findIn K (.ref C) "fail" = some (some (.ref fMF))) (iMF : PySem.W.isFn K (.ref fMF) = true)
    (lMF : K.lookup fMF = some ⟨ocMF, odMF, .func (PySem.W.fnOf "fail" "Disk.fail" (defArgs sDisk_fail) (defBody sDisk_fail) (defScope sDisk_fail) .none kVMF dcMF pmMF anMF cdMF ctMF), slMF⟩) (cMF : PySem.W.codeIn K cdMF "Disk.fail" = true) (kMF : PySem.W.keepIn K (.ref fMF) = true)
    {CI : Addr} (xIg : PySem.W.nsIn K mainGlobals "InvalidArgument" = some (some (.ref CI))) (xIk : PySem.W.keepIn K (.ref CI) = true) (xIb : PySem.W.subIn K (.ref CI) (.type "BaseException") = some true) (xIt : PySem.W.typeIn K (.ref CI) = some (.type "type")) (xId : PySem.W.hasDictIn K CI = true) (xIs : PySem.W.subIn K (.ref CI) (.ref CI) = some true) (xIx : PySem.W.excIn K CI [.type "ValueError", .type "Exception", .type "BaseException", .type "object"] "ValueError.__new__" = true)
    {CP : Addr} (xPg : PySem.W.nsIn K mainGlobals "PowerOff" = some (some (.ref CP))) (xPk : PySem.W.keepIn K (.ref CP) = true) (xPb : PySem.W.subIn K (.ref CP) (.type "BaseException") = some true) (xPt : PySem.W.typeIn K (.ref CP) = some (.type "type")) (xPd : PySem.W.hasDictIn K CP = true) (xPs : PySem.W.subIn K (.ref CP) (.ref CP) = some true) (xPx : PySem.W.excIn K CP [.type "ValueError", .type "Exception", .type "BaseException", .type "object"] "ValueError.__new__" = true)
    {CS : Addr} (xSg : PySem.W.nsIn K mainGlobals "ShelfError" = some (some (.ref CS))) (xSb : PySem.W.subIn K (.ref CS) (.type "BaseException") = some true) (xSt : PySem.W.typeIn K (.ref CS) = some (.type "type")) (xSd : PySem.W.hasDictIn K CS = true) (xSs : PySem.W.subIn K (.ref CI) (.ref CS) = some true)
    (ig : PySem.W.findIn K (.ref CI) "__getattribute__" = some (some (.builtin "BaseException.__getattribute__"))) (ik : PySem.W.findIn K (.ref CI) "__getattr__" = some none) (ia : PySem.W.findIn K (.ref CI) "__class__" = some (some (.builtin "object.__class__"))) (inn : PySem.W.specialIn K (.builtin "object.__class__") "__get__" = some (some (.builtin "getset_descriptor.__get__"))) (it : PySem.W.takesIn K (.builtin "object.__class__") = some true) (im : PySem.W.mroIn K CI (.type "object") = some true) (iv : PySem.W.subIn K (.ref CI) (.type "ValueError") = some true)
    {t1 t2 t3 : Tok} (y1 : PySem.W.nsIn K mainGlobals "SECTOR_BYTES" = some (some (.int 64 t1))) (y2 : PySem.W.nsIn K mainGlobals "FEWEST_SECTORS" = some (some (.int 60 t2))) (y3 : PySem.W.nsIn K mainGlobals "MOST_SECTORS" = some (some (.int 400 t3)))
    (z1 : PySem.W.nsIn K mainGlobals "range" = some none) (z2 : PySem.W.nsIn K mainGlobals "len" = some none) (z3 : PySem.W.nsIn K mainGlobals "int" = some none) (z4 : PySem.W.nsIn K mainGlobals "list" = some none) (z5 : PySem.W.nsIn K mainGlobals "isinstance" = some none) (z6 : PySem.W.nsIn K mainGlobals "tuple" = some none) (z7 : PySem.W.nsIn K mainGlobals "bool" = some none) (z8 : PySem.W.nsIn K mainGlobals "str" = some none) (z9 : PySem.W.nsIn K mainGlobals "zip" = some none) (z10 : PySem.W.nsIn K mainGlobals "min" = some none) (z11 : PySem.W.nsIn K mainGlobals "ValueError" = some none) :
    ∃ fd : FuncData, (∀ (s : Shared) (v : Value), BindsTo s fd ⟨[v], []⟩ [("script", v)]) ∧ ∀ base : Heap, K.In base → base.Ns mainGlobals mg → FnOk l.prog w K mg base CX0 6 fa fd ["script"] (spLaw K) := by
  have e := hfa.symm.trans (PySem.W.mg_of X G a13)
  cases e
  have F1 := fun_mk (st := sregion_start) l1 c1 k1
  have b1 := F1.binds (ps := ["size"]) fun _ _ _ _ _ _ us hl => match us, hl with | [_], _ => rfl
  have g1 := PySem.W.mg_of X G a1
  have F2 := fun_mk (st := sis_size) l2 c2 k2
  have b2 := F2.binds (ps := ["value"]) fun _ _ _ _ _ _ us hl => match us, hl with | [_], _ => rfl
  have g2 := PySem.W.mg_of X G a2
  have F3 := fun_mk (st := s_law_next) l3 c3 k3
  have b3 := F3.binds (ps := ["state", "limit"]) fun _ _ _ _ _ _ us hl => match us, hl with | [_, _], _ => rfl
  have g3 := PySem.W.mg_of X G a3
  have F4 := fun_mk (st := s_law_same) l4 c4 k4
  have b4 := F4.binds (ps := ["actual", "expected"]) fun _ _ _ _ _ _ us hl => match us, hl with | [_, _], _ => rfl
  have g4 := PySem.W.mg_of X G a4
  have F5 := fun_mk (st := s_law_refused) l5 c5 k5
  have b5 := F5.binds (ps := ["size"]) fun _ _ _ _ _ _ us hl => match us, hl with | [_], _ => rfl
  have g5 := PySem.W.mg_of X G a5
  have F6 := fun_mk (st := s_law_operate) l6 c6 k6
  have b6 := F6.binds (ps := ["world"]) fun _ _ _ _ _ _ us hl => match us, hl with | [_], _ => rfl
  have g6 := PySem.W.mg_of X G a6
  have F7 := fun_mk (st := s_law_write) l7 c7 k7
  have b7 := F7.binds (ps := ["state", "world", "disk"]) fun _ _ _ _ _ _ us hl => match us, hl with | [_, _, _], _ => rfl
  have g7 := PySem.W.mg_of X G a7
  have F8 := fun_mk (st := s_law_sync) l8 c8 k8
  have b8 := F8.binds (ps := ["world", "disk"]) fun _ _ _ _ _ _ us hl => match us, hl with | [_, _], _ => rfl
  have g8 := PySem.W.mg_of X G a8
  have F9 := fun_mk (st := s_law_fail) l9 c9 k9
  have b9 := F9.binds (ps := ["state", "world", "disk"]) fun _ _ _ _ _ _ us hl => match us, hl with | [_, _, _], _ => rfl
  have g9 := PySem.W.mg_of X G a9
  have F10 := fun_mk (st := s_law_power) l10 c10 k10
  have b10 := F10.binds (ps := ["state", "world", "disk"]) fun _ _ _ _ _ _ us hl => match us, hl with | [_, _, _], _ => rfl
  have g10 := PySem.W.mg_of X G a10
  have F11 := fun_mk (st := s_law_deed) l11 c11 k11
  have b11 := F11.binds (ps := ["state", "world", "disk"]) fun _ _ _ _ _ _ us hl => match us, hl with | [_, _, _], _ => rfl
  have g11 := PySem.W.mg_of X G a11
  have F12 := fun_mk (st := s_law_is_right) l12 c12 k12
  have b12 := F12.binds (ps := ["state", "world", "disk"]) fun _ _ _ _ _ _ us hl => match us, hl with | [_, _, _], _ => rfl
  have g12 := PySem.W.mg_of X G a12
  have F13 := fun_mk (st := slaw) l13 c13 k13
  have T : Bl mg := ⟨PySem.W.mg_none_of X G z1, PySem.W.mg_none_of X G z2, PySem.W.mg_none_of X G z3, PySem.W.mg_none_of X G z4, PySem.W.mg_none_of X G z5, PySem.W.mg_none_of X G z6, PySem.W.mg_none_of X G z7, PySem.W.mg_none_of X G z8, PySem.W.mg_none_of X G z9, PySem.W.mg_none_of X G z10, PySem.W.mg_none_of X G z11⟩
  have Y := X
  have X : TxtD K mg C := ⟨⟨pg, hd, po, sa⟩, na1, na2, na3, na4, na5, na6, na7, na8, na9, na10, na11, PySem.W.mg_of X G aC⟩
  have FMI := fun_mk (st := sDisk_init) lMI cMI kMI
  have bMI := FMI.binds (ps := ["self", "sectors"]) fun _ _ _ _ _ _ us hl => match us, hl with | [_, _], _ => rfl
  have mMI : Mk K C fMI := ⟨mk, aMI, iMI, kc⟩
  have FMS := fun_mk (st := sDisk_size) lMS cMS kMS
  have bMS := FMS.binds (ps := ["self"]) fun _ _ _ _ _ _ us hl => match us, hl with | [_], _ => rfl
  have mMS : Meth K C "size" fMS := ⟨aMS, iMS, kMS⟩
  have FMR := fun_mk (st := sDisk_read) lMR cMR kMR
  have bMR := FMR.binds (ps := ["self", "index"]) fun _ _ _ _ _ _ us hl => match us, hl with | [_, _], _ => rfl
  have mMR : Meth K C "read" fMR := ⟨aMR, iMR, kMR⟩
  have FMP := fun_mk (st := sDisk_pending) lMP cMP kMP
  have bMP := FMP.binds (ps := ["self"]) fun _ _ _ _ _ _ us hl => match us, hl with | [_], _ => rfl
  have mMP : Meth K C "pending" fMP := ⟨aMP, iMP, kMP⟩
  have FMC := fun_mk (st := sDisk_counts) lMC cMC kMC
  have bMC := FMC.binds (ps := ["self"]) fun _ _ _ _ _ _ us hl => match us, hl with | [_], _ => rfl
  have mMC : Meth K C "counts" fMC := ⟨aMC, iMC, kMC⟩
  have FMW := fun_mk (st := sDisk_write) lMW cMW kMW
  have bMW := FMW.binds (ps := ["self", "index", "data"]) fun _ _ _ _ _ _ us hl => match us, hl with | [_, _, _], _ => rfl
  have mMW : Meth K C "write" fMW := ⟨aMW, iMW, kMW⟩
  have FMY := fun_mk (st := sDisk_sync) lMY cMY kMY
  have bMY := FMY.binds (ps := ["self"]) fun _ _ _ _ _ _ us hl => match us, hl with | [_], _ => rfl
  have mMY : Meth K C "sync" fMY := ⟨aMY, iMY, kMY⟩
  have FMN := fun_mk (st := sDisk_note_reads) lMN cMN kMN
  have bMN := FMN.binds (ps := ["self", "count"]) fun _ _ _ _ _ _ us hl => match us, hl with | [_, _], _ => rfl
  have mMN : Meth K C "note_reads" fMN := ⟨aMN, iMN, kMN⟩
  have FMA := fun_mk (st := sDisk_fail_after) lMA cMA kMA
  have bMA := FMA.binds (ps := ["self", "operations"]) fun _ _ _ _ _ _ us hl => match us, hl with | [_, _], _ => rfl
  have mMA : Meth K C "fail_after" fMA := ⟨aMA, iMA, kMA⟩
  have FMV := fun_mk (st := sDisk_power) lMV cMV kMV
  have bMV := FMV.binds (ps := ["self", "kept"]) fun _ _ _ _ _ _ us hl => match us, hl with | [_, _], _ => rfl
  have mMV : Meth K C "power" fMV := ⟨aMV, iMV, kMV⟩
  have FMO := fun_mk (st := sDisk_is_on) lMO cMO kMO
  have bMO := FMO.binds (ps := ["self"]) fun _ _ _ _ _ _ us hl => match us, hl with | [_], _ => rfl
  have mMO : Meth K C "is_on" fMO := ⟨aMO, iMO, kMO⟩
  have FML := fun_mk (st := sDisk_losses) lML cML kML
  have bML := FML.binds (ps := ["self"]) fun _ _ _ _ _ _ us hl => match us, hl with | [_], _ => rfl
  have mML : Meth K C "losses" fML := ⟨aML, iML, kML⟩
  have FMT := fun_mk (st := sDisk_operate) lMT cMT kMT
  have bMT := FMT.binds (ps := ["self"]) fun _ _ _ _ _ _ us hl => match us, hl with | [_], _ => rfl
  have mMT : Meth K C "operate" fMT := ⟨aMT, iMT, kMT⟩
  have FMF := fun_mk (st := sDisk_fail) lMF cMF kMF
  have bMF := FMF.binds (ps := ["self"]) fun _ _ _ _ _ _ us hl => match us, hl with | [_], _ => rfl
  have mMF : Meth K C "fail" fMF := ⟨aMF, iMF, kMF⟩
  have XI : ExK K mg CI "InvalidArgument" := ⟨xIx, PySem.W.mg_of Y G xIg, xIk, xIb, xIt, PySem.W.exm_ref xIb xId xIt xIs⟩
  have XP : ExK K mg CP "PowerOff" := ⟨xPx, PySem.W.mg_of Y G xPg, xPk, xPb, xPt, PySem.W.exm_ref xPb xPd xPt xPs⟩
  have gS := PySem.W.mg_of Y G xSg
  have XIs : ExcI K CI CS := ⟨⟨ig, ik, xIb, xId, ia, inn, it, im⟩, by unfold PySem.W.kitOne; rw [if_pos (beq_iff_eq.mpr rfl)], (by unfold PySem.W.kitOne PySem.W.kitCls; rw [if_neg (by intro z; cases beq_iff_eq.mp z)]; dsimp only; rw [if_pos (by decide +kernel)]; exact iv), PySem.W.exm_ref xSb xSd xSt xSs⟩
  have G0 : Gd mg := ⟨⟨t1, PySem.W.mg_of Y G y1⟩, ⟨t2, PySem.W.mg_of Y G y2⟩, ⟨t3, PySem.W.mg_of Y G y3⟩⟩
  refine ⟨PySem.W.fnOf "law" "law" (defArgs slaw) (defBody slaw) (defScope slaw) .none kV13 dc13 pm13 an13 cd13 ct13, fun s v => .of_eq rfl, fun base _ _ => ?_⟩
  have Dregion_start : Kn l.prog w K mg base 1 "region_start" ["size"] (spRs) := kn_of F1 g1 b1 (ok_rs F1)
  have Dis_size : Kn l.prog w K mg base 1 "is_size" ["value"] (spIsSize K) := kn_of F2 g2 b2 (ok_issize F2 T G0)
  have DK : Kmkx l.prog w K mg base C 2 ["self", "sectors"] (spInit K C CI) := ⟨⟨_, _, mMI, ok_init FMI T G0 X XI Dis_size, bMI⟩⟩
  have DF : Kmt l.prog w K mg base C 1 "fail" ["self"] (spFail C) := ⟨⟨_, _, mMF, ok_fail FMF X, bMF⟩, X.cl⟩
  have DT : Kmx l.prog w K mg base C 2 "operate" ["self"] (spOper C CP) := ⟨⟨_, _, mMT, ok_oper FMT X XP DF, bMT⟩, X.cl⟩
  have DS : Kmt l.prog w K mg base C 1 "size" ["self"] (spGet C fun d => .int (d.n : Nat)) := ⟨⟨_, _, mMS, ok_size FMS T X, bMS⟩, X.cl⟩
  have DP : Kmt l.prog w K mg base C 1 "pending" ["self"] (spGet C fun d => .int (d.ws.length : Nat)) := ⟨⟨_, _, mMP, ok_pending FMP T X, bMP⟩, X.cl⟩
  have DO : Kmt l.prog w K mg base C 1 "is_on" ["self"] (spGet C fun d => .bl d.on) := ⟨⟨_, _, mMO, ok_ison FMO X, bMO⟩, X.cl⟩
  have DL : Kmt l.prog w K mg base C 1 "losses" ["self"] (spGet C fun d => .int d.lost) := ⟨⟨_, _, mML, ok_losses FML X, bML⟩, X.cl⟩
  have DC : Kmt l.prog w K mg base C 1 "counts" ["self"] (spCounts C) := ⟨⟨_, _, mMC, ok_counts FMC X, bMC⟩, X.cl⟩
  have DR : Kmt l.prog w K mg base C 1 "read" ["self", "index"] (spRead C) := ⟨⟨_, _, mMR, ok_read FMR T X, bMR⟩, X.cl⟩
  have DN : Kmt l.prog w K mg base C 1 "note_reads" ["self", "count"] (spNote C) := ⟨⟨_, _, mMN, ok_note FMN X, bMN⟩, X.cl⟩
  have DA : Kmx l.prog w K mg base C 1 "fail_after" ["self", "operations"] (spAfter C CP) := ⟨⟨_, _, mMA, ok_after FMA X XP, bMA⟩, X.cl⟩
  have DW : Kmx l.prog w K mg base C 3 "write" ["self", "index", "data"] (spWrite C CP) := ⟨⟨_, _, mMW, ok_write FMW T X DT DS Dregion_start, bMW⟩, X.cl⟩
  have DY : Kmx l.prog w K mg base C 3 "sync" ["self"] (spSync C CP) := ⟨⟨_, _, mMY, ok_sync FMY T X DT, bMY⟩, X.cl⟩
  have DV : Kmt l.prog w K mg base C 2 "power" ["self", "kept"] (spPower C) := ⟨⟨_, _, mMV, ok_power FMV T X DF, bMV⟩, X.cl⟩
  have D_law_next : Kn l.prog w K mg base 1 "_law_next" ["state", "limit"] (spNext) := kn_of F3 g3 b3 (ok_next F3 T)
  have D_law_same : Kn l.prog w K mg base 3 "_law_same" ["actual", "expected"] (spSame K 2) := kn_of F4 g4 b4 (ok_same F4 T g4 b4 2)
  have D_law_refused : Kn l.prog w K mg base 4 "_law_refused" ["size"] (spRefused K) := kn_of F5 g5 b5 (ok_lrefused F5 T X.mgC gS XI XIs DK)
  have D_law_operate : Kn l.prog w K mg base 1 "_law_operate" ["world"] (spLOper) := kn_of F6 g6 b6 (ok_loper F6 T)
  have D_law_write : Kn l.prog w K mg base 4 "_law_write" ["state", "world", "disk"] (spDeed C) := kn_of F7 g7 b7 (ok_lwrite F7 T XP D_law_next D_law_operate DW)
  have D_law_sync : Kn l.prog w K mg base 4 "_law_sync" ["world", "disk"] (spLSync C) := kn_of F8 g8 b8 (ok_lsync F8 T XP D_law_operate DY)
  have D_law_fail : Kn l.prog w K mg base 2 "_law_fail" ["state", "world", "disk"] (spDeed C) := kn_of F9 g9 b9 (ok_lfail F9 T XP D_law_next DA)
  have D_law_power : Kn l.prog w K mg base 3 "_law_power" ["state", "world", "disk"] (spDeed C) := kn_of F10 g10 b10 (ok_lpower F10 T D_law_next DV)
  have D_law_deed : Kn l.prog w K mg base 5 "_law_deed" ["state", "world", "disk"] (spDeed C) := kn_of F11 g11 b11 (ok_ldeed F11 T D_law_next D_law_write D_law_sync D_law_fail D_law_power DN)
  have D_law_is_right : Kn l.prog w K mg base 4 "_law_is_right" ["state", "world", "disk"] (spRight C) := kn_of F12 g12 b12 (ok_lright F12 T D_law_next D_law_same DS DP DC DO DL DR)
  exact ok_law F13 T X.mgC DK DR D_law_next D_law_same D_law_refused D_law_is_right D_law_deed
end K1
open PySem PySem.W PyProof.Rows
set_option maxHeartbeats 0 in
theorem PySem.Challenge.cw_turnshelves_k30_disk_keeps_what_was_sync_holds : PySem.Challenge.rw_turnshelves_k30_disk_keeps_what_was_sync.Holds := by
  w_on; o_law; k_head; (case hw => w_witness2)
  k_fill
  refine L2.walk_of (l := PySem.Challenge.rw_turnshelves_k30_disk_keeps_what_was_sync) (n := 63) (k := 6) (x := "script") (CX := fun _ => L2.CX0) (sp := fun w => K1.spLaw _) rfl (by decide) rfl ⟨rfl, by decide, by decide⟩ (fun w h Y => PySem.W.kIn_of Y) ?F (fun _ _ a ns hl _ hS => ⟨a, ns, rfl, hS, hl, fun _ => rfl⟩) (fun _ _ _ _ _ h => h)
  case F =>
    intro w mg fa h KX G hmg
    refine' K1.all_mk KX G hmg ?a1 ?l1 ?c1 ?k1 ?a2 ?l2 ?c2 ?k2 ?a3 ?l3 ?c3 ?k3 ?a4 ?l4 ?c4 ?k4 ?a5 ?l5 ?c5 ?k5 ?a6 ?l6 ?c6 ?k6 ?a7 ?l7 ?c7 ?k7 ?a8 ?l8 ?c8 ?k8 ?a9 ?l9 ?c9 ?k9 ?a10 ?l10 ?c10 ?k10 ?a11 ?l11 ?c11 ?k11 ?a12 ?l12 ?c12 ?k12 ?a13 ?l13 ?c13 ?k13 ?aC ?pg ?hd ?po ?sa ?mk ?kc ?na1 ?na2 ?na3 ?na4 ?na5 ?na6 ?na7 ?na8 ?na9 ?na10 ?na11 ?aMI ?iMI ?lMI ?cMI ?kMI ?aMS ?iMS ?lMS ?cMS ?kMS ?aMR ?iMR ?lMR ?cMR ?kMR ?aMP ?iMP ?lMP ?cMP ?kMP ?aMC ?iMC ?lMC ?cMC ?kMC ?aMW ?iMW ?lMW ?cMW ?kMW ?aMY ?iMY ?lMY ?cMY ?kMY ?aMN ?iMN ?lMN ?cMN ?kMN ?aMA ?iMA ?lMA ?cMA ?kMA ?aMV ?iMV ?lMV ?cMV ?kMV ?aMO ?iMO ?lMO ?cMO ?kMO ?aML ?iML ?lML ?cML ?kML ?aMT ?iMT ?lMT ?cMT ?kMT ?aMF ?iMF ?lMF ?cMF ?kMF ?xIg ?xIk ?xIb ?xIt ?xId ?xIs ?xIx ?xPg ?xPk ?xPb ?xPt ?xPd ?xPs ?xPx ?xSg ?xSb ?xSt ?xSd ?xSs ?ig ?ik ?ia ?inn ?it ?im ?iv ?y1 ?y2 ?y3 ?z1 ?z2 ?z3 ?z4 ?z5 ?z6 ?z7 ?z8 ?z9 ?z10 ?z11
    (case a1 => k_is); (case l1 => k_is); (case c1 => k_is); (case k1 => k_is); (case a2 => k_is); (case l2 => k_is); (case c2 => k_is); (case k2 => k_is); (case a3 => k_is); (case l3 => k_is); (case c3 => k_is); (case k3 => k_is); (case a4 => k_is); (case l4 => k_is); (case c4 => k_is); (case k4 => k_is); (case a5 => k_is); (case l5 => k_is); (case c5 => k_is); (case k5 => k_is); (case a6 => k_is); (case l6 => k_is); (case c6 => k_is); (case k6 => k_is); (case a7 => k_is); (case l7 => k_is); (case c7 => k_is); (case k7 => k_is); (case a8 => k_is); (case l8 => k_is); (case c8 => k_is); (case k8 => k_is); (case a9 => k_is); (case l9 => k_is); (case c9 => k_is); (case k9 => k_is); (case a10 => k_is); (case l10 => k_is); (case c10 => k_is); (case k10 => k_is); (case a11 => k_is); (case l11 => k_is); (case c11 => k_is); (case k11 => k_is); (case a12 => k_is); (case l12 => k_is); (case c12 => k_is); (case k12 => k_is); (case a13 => k_is); (case l13 => k_is); (case c13 => k_is); (case k13 => k_is); (case aC => k_is); (case pg => k_is); (case hd => k_is); (case po => k_is); (case sa => k_is); (case mk => k_is); (case kc => k_is); (case na1 => k_is); (case na2 => k_is); (case na3 => k_is); (case na4 => k_is); (case na5 => k_is); (case na6 => k_is); (case na7 => k_is); (case na8 => k_is); (case na9 => k_is); (case na10 => k_is); (case na11 => k_is); (case aMI => k_is); (case iMI => k_is); (case lMI => k_is); (case cMI => k_is); (case kMI => k_is); (case aMS => k_is); (case iMS => k_is); (case lMS => k_is); (case cMS => k_is); (case kMS => k_is); (case aMR => k_is); (case iMR => k_is); (case lMR => k_is); (case cMR => k_is); (case kMR => k_is); (case aMP => k_is); (case iMP => k_is); (case lMP => k_is); (case cMP => k_is); (case kMP => k_is); (case aMC => k_is); (case iMC => k_is); (case lMC => k_is); (case cMC => k_is); (case kMC => k_is); (case aMW => k_is); (case iMW => k_is); (case lMW => k_is); (case cMW => k_is); (case kMW => k_is); (case aMY => k_is); (case iMY => k_is); (case lMY => k_is); (case cMY => k_is); (case kMY => k_is); (case aMN => k_is); (case iMN => k_is); (case lMN => k_is); (case cMN => k_is); (case kMN => k_is); (case aMA => k_is); (case iMA => k_is); (case lMA => k_is); (case cMA => k_is); (case kMA => k_is); (case aMV => k_is); (case iMV => k_is); (case lMV => k_is); (case cMV => k_is); (case kMV => k_is); (case aMO => k_is); (case iMO => k_is); (case lMO => k_is); (case cMO => k_is); (case kMO => k_is); (case aML => k_is); (case iML => k_is); (case lML => k_is); (case cML => k_is); (case kML => k_is); (case aMT => k_is); (case iMT => k_is); (case lMT => k_is); (case cMT => k_is); (case kMT => k_is); (case aMF => k_is); (case iMF => k_is); (case lMF => k_is); (case cMF => k_is); (case kMF => k_is); (case xIg => k_is); (case xIk => k_is); (case xIb => k_is); (case xIt => k_is); (case xId => k_is); (case xIs => k_is); (case xIx => k_exc); (case xPg => k_is); (case xPk => k_is); (case xPb => k_is); (case xPt => k_is); (case xPd => k_is); (case xPs => k_is); (case xPx => k_exc); (case xSg => k_is); (case xSb => k_is); (case xSt => k_is); (case xSd => k_is); (case xSs => k_is); (case ig => k_is); (case ik => k_is); (case ia => k_is); (case inn => k_is); (case it => k_is); (case im => k_is); (case iv => k_is); (case y1 => k_is); (case y2 => k_is); (case y3 => k_is); (case z1 => k_is); (case z2 => k_is); (case z3 => k_is); (case z4 => k_is); (case z5 => k_is); (case z6 => k_is); (case z7 => k_is); (case z8 => k_is); (case z9 => k_is); (case z10 => k_is); (case z11 => k_is)
