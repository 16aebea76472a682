import PyProof.Rows.All
import Wide.All
import OpenK.AllK
import Wide.FinOn
import PyProof.EqAt
import PyProof.EqKinds
import PyProof.TupleCall
import HandS.ForMost
import HandS.IsInst
import HandS.TupAny
import HandS.Strs
import HandS.SetKeys
import HandS.Style
import HandS.Deep
import HandS.TupLen
import HandS.More
import HandS.Walk
import HandS.Defaults
import HandS.Star
import HandS.DictComp
import HandS.RevRange
import PyProof.ZipIter
import KE.KItemsList
import HandS.Zip
import PyProof.ReprRoads
import PyProof.Rows.RegFStrParts
import PySem.Challenge.RW_turnshelves_k43_policy_serves_by_works
set_option Elab.async false
set_option linter.all false
set_option maxRecDepth 100000
set_option maxHeartbeats 4000000
/-! list(zip(a, b, c)) of three lists -/
namespace Z3
open PySem PySem.Spec PyProof.Rows
theorem zlen : typeLookup (.type "zip") "__len__" = pure none := by rw [typeLookup_type, builtinLookup_eq_fast]; kernel_rfl
theorem zhint : typeLookup (.type "zip") "__length_hint__" = pure none := by rw [typeLookup_type, builtinLookup_eq_fast]; kernel_rfl
theorem ztc3 (a b c : Value) : checkTypeCall "zip" ⟨[a, b, c], []⟩ = pure () := by kernel_rfl
theorem znc3 (a b c : Value) : checkBuiltinCall "zip.__new__" ⟨[.type "zip", a, b, c], []⟩ = pure () := by kernel_rfl
theorem zao4 (a b c d : Value) : argsOk "object.__init__" ⟨[a, b, c, d], []⟩ := by
  unfold argsOk; rw [signature?_of (id := "object.__init__") (n := ['_', '_', 't', 'i', 'n', 'i', '_', '_']) (o := ['t', 'c', 'e', 'j', 'b', 'o']) (by kernel_rfl) F.owner_object]; kernel_rfl
def Zp (h : Heap) (z TI TO : Addr) (f0 : Value) (fl : Bool) : Prop :=
  h.get? z = some { cls := .type "zip", data := .fields #[f0, .bool fl, .bool false, .ref TI, .ref TO] }
def Tp (h : Heap) (T : Addr) (vs : Array Value) : Prop := h.get? T = some { cls := .type "tuple", data := .seq vs }
section
variable {prog : Program} {w : World} {A : Around} {E : Value → Shared → Prop} {s : Shared}
theorem alive_any {a : Addr} {Q : Option Obj → Shared → Prop} (h : Q (s.heap.get? a) s) : wpAny (model prog w) A (loadIfAlive a) Q E s := fun _ _ _ => h
/-- is the owned tuple free? either way goes -/
theorem own_free {z TI TO : Addr} {f0 : Value} {fl : Bool} {Q : Bool → Shared → Prop} (hz : Zp s.heap z TI TO f0 fl) (hf : f0 = .none ∨ ∃ T : Nat, f0 = rawInt T)
    (h1 : Q true s) (h2 : ∀ h' fl', Zp h' z TI TO f0 fl' → Heap.SameBut z s.heap h' → Q false { s with heap := h' }) :
    wpAny (model prog w) A (Builtin.SmallTypes.ownedTupleIsFree (.ref z)) Q E s := by
  unfold Builtin.SmallTypes.ownedTupleIsFree
  refine wpAny_bind (wpAny_field hz rfl (x := f0) rfl ?_)
  rcases hf with rfl | ⟨T, rfl⟩
  · exact wpAny_pure h1
  · show wpAny _ _ (loadIfAlive ((T : Int).toNat) >>= _) _ _ _
    refine wpAny_bind (alive_any ?_)
    cases s.heap.get? ((T : Int).toNat) with
    | none =>
      simp only [Option.isNone_none, if_true]
      exact wpAny_pure h1
    | some o =>
      simp only [Option.isNone_some, Bool.false_eq_true, if_false]
      refine wpAny_bind (wpAny_field hz rfl (x := .bool fl) rfl ?_)
      cases fl with
      | true =>
        rw [if_neg (show ¬ ((Value.bool true != Value.bool true) = true) from Bool.false_ne_true)]
        exact wpAny_pure (h2 s.heap true hz (Heap.SameBut.refl _ _))
      | false =>
        rw [if_pos (show (Value.bool false != Value.bool true) = true from rfl)]
        exact wpAny_bind (wpAny_setField_rec hz (by simp) fun h3 z3 s3 => wpAny_pure (h2 h3 true z3 s3))
/-- the three draw at turn k, in state h: their lists xs, ys, zs -/
structure Dr (h : Heap) (n a b c k : Nat) (xs ys zs : Array Value) : Prop where
  i1 : h.IsListIter n a k
  i2 : h.IsListIter (n + 1) b k
  i3 : h.IsListIter (n + 2) c k
  l1 : h.IsList a xs
  l2 : h.IsList b ys
  l3 : h.IsList c zs
  low : a < n ∧ b < n ∧ c < n
  ti : Tp h (n + 3) #[.ref n, .ref (n + 1), .ref (n + 2)]
theorem Dr.but {h h' : Heap} {n a b c k q : Nat} {xs ys zs : Array Value} (d : Dr h n a b c k xs ys zs) (sb : Heap.SameBut q h h') (hq : q = n + 4 ∨ q = n + 5) : Dr h' n a b c k xs ys zs := by
  have l := d.low
  have e0 : n ≠ q := by omega
  have e1 : n + 1 ≠ q := by omega
  have e2 : n + 2 ≠ q := by omega
  have e3 : n + 3 ≠ q := by omega
  have e4 : a ≠ q := by omega
  have e5 : b ≠ q := by omega
  have e6 : c ≠ q := by omega
  exact ⟨d.i1.extBut sb.extBut e0, d.i2.extBut sb.extBut e1, d.i3.extBut sb.extBut e2, d.l1.extBut sb.extBut e4, d.l2.extBut sb.extBut e5, d.l3.extBut sb.extBut e6, l, sb.extBut _ _ e3 d.ti⟩
theorem upd_own {T : Addr} {vs : Array Value} {x : Value} {k : Nat} {Q : Unit → Shared → Prop} (hT : Tp s.heap T vs) (z : vs.size ≤ 3)
    (h : ∀ h', Tp h' T (vs.setIfInBounds k x) → Heap.SameBut T s.heap h' → Q () { s with heap := h' }) :
    wpAny (model prog w) A (updateSeq T (·.setIfInBounds k x)) Q E s := by
  refine wpAny_updateSeq hT rfl (h _ ?_ (Heap.SameBut.update ..)) (Nat.le_trans z (by decide)) (by rw [Array.size_setIfInBounds]; exact Nat.le_trans z (by decide))
  unfold Tp; rw [Heap.get?_update_self _ hT rfl]; simp [Obj.mapSeq]
/-- one turn of a zip of three -/
theorem next3 {n a b c k : Nat} {xs ys zs vs : Array Value} {x y u : Value} {f0 : Value} {fl : Bool} {Q : Value → Shared → Prop} (D : Dr s.heap n a b c k xs ys zs)
    (hz : Zp s.heap (n + 5) (n + 3) (n + 4) f0 fl) (hf : f0 = .none ∨ ∃ T : Nat, f0 = rawInt T) (hO : Tp s.heap (n + 4) vs) (hv : vs.size = 3)
    (hx : xs[k]? = some x) (hy : ys[k]? = some y) (hu : zs[k]? = some u)
    (hQ : ∀ h' f1 fl1 vs1, Dr h' n a b c (k + 1) xs ys zs → Zp h' (n + 5) (n + 3) (n + 4) f1 fl1 → (f1 = .none ∨ ∃ T : Nat, f1 = rawInt T) → Tp h' (n + 4) vs1 → vs1.size = 3 → Tp h' s.heap.objs.size #[x, y, u] →
      (∀ q o, q < n ∨ n + 5 < q → s.heap.get? q = some o → h'.get? q = some o) → Q (.ref s.heap.objs.size) { s with heap := h' }) :
    wpAny (model prog w) A (Builtin.«zip.__next__» ⟨[.ref (n + 5)], []⟩) (fun fin s' => ∃ v, fin = .done (.ret v) ∧ Q v s') E s := by
  have n01 : n ≠ n + 1 := by omega
  have n02 : n ≠ n + 2 := by omega
  have n03 : n ≠ n + 3 := by omega
  have n04 : n ≠ n + 4 := by omega
  have n05 : n ≠ n + 5 := by omega
  have n12 : n + 1 ≠ n + 2 := by omega
  have n13 : n + 1 ≠ n + 3 := by omega
  have n14 : n + 1 ≠ n + 4 := by omega
  have n15 : n + 1 ≠ n + 5 := by omega
  have n21 : n + 2 ≠ n + 1 := by omega
  have n23 : n + 2 ≠ n + 3 := by omega
  have n24 : n + 2 ≠ n + 4 := by omega
  have n25 : n + 2 ≠ n + 5 := by omega
  have n31 : n + 3 ≠ n + 1 := by omega
  have n32 : n + 3 ≠ n + 2 := by omega
  have n34 : n + 3 ≠ n + 4 := by omega
  have n35 : n + 3 ≠ n + 5 := by omega
  have n41 : n + 4 ≠ n + 1 := by omega
  have n42 : n + 4 ≠ n + 2 := by omega
  have n43 : n + 4 ≠ n + 3 := by omega
  have n45 : n + 4 ≠ n + 5 := by omega
  have n51 : n + 5 ≠ n + 1 := by omega
  have n52 : n + 5 ≠ n + 2 := by omega
  have n53 : n + 5 ≠ n + 3 := by omega
  have n54 : n + 5 ≠ n + 4 := by omega
  have n10 : n + 1 ≠ n := by omega
  have n20 : n + 2 ≠ n := by omega
  have n30 : n + 3 ≠ n := by omega
  have n40 : n + 4 ≠ n := by omega
  have n50 : n + 5 ≠ n := by omega
  have lw := D.low
  have a0 : a ≠ n := by omega
  have a11 : a ≠ n + 1 := by omega
  have a22 : a ≠ n + 2 := by omega
  have a44 : a ≠ n + 4 := by omega
  have a55 : a ≠ n + 5 := by omega
  have b0 : b ≠ n := by omega
  have b1 : b ≠ n + 1 := by omega
  have b2 : b ≠ n + 2 := by omega
  have b4 : b ≠ n + 4 := by omega
  have b5 : b ≠ n + 5 := by omega
  have c0 : c ≠ n := by omega
  have c1 : c ≠ n + 1 := by omega
  have c2 : c ≠ n + 2 := by omega
  have c4 : c ≠ n + 4 := by omega
  have c5 : c ≠ n + 5 := by omega
  show wpAny _ _ (field (.ref (n + 5)) 2 >>= _) _ _ _
  refine wpAny_bind (wpAny_field hz rfl (x := .bool false) rfl ?_)
  show wpAny _ _ (field (.ref (n + 5)) 3 >>= _) _ _ _
  refine wpAny_bind (wpAny_field hz rfl (x := .ref (n + 3)) rfl ?_)
  refine wpAny_bind (wpAny_seqItems D.ti rfl ?_)
  show wpAny _ _ (Builtin.SmallTypes.ownedTupleIsFree (.ref (n + 5)) >>= _) _ _ _
  refine wpAny_bind (own_free hz hf ?_ fun h1 fl1 z1 s1 => ?_)
  · simp only [if_true]
    refine wpAny_bind (wpAny_rule ?_); refine wpAny_bind (wpAny_field hz rfl (x := .ref (n + 4)) rfl ?_)
    refine wpAny_bind (wpAny_setField_rec hz (by simp) fun h1 z1 s1 => ?_)
    have z1' : Zp h1 (n + 5) (n + 3) (n + 4) .ellipsis fl := z1
    have d1 := D.but s1 (.inr rfl)
    have o1 : Tp h1 (n + 4) vs := s1.extBut _ _ n45 hO
    refine wpAny_bind ?_; simp only [List.zipIdx_cons, List.zipIdx_nil, List.forIn_cons, List.forIn_nil]
    refine wpAny_bind (wpAny_bind (wpAny_onRaise ?_)); show wpAny _ _ (Builtin.SmallTypes.nextOf (.ref n) >>= _) _ _ _
    refine wpAny_bind (wpAny_nextOf_list_item d1.i1 d1.l1 hx fun h2 j1 s2 => wpAny_pure ?_)
    have o2 : Tp h2 (n + 4) vs := s2.extBut _ _ n40 o1
    refine wpAny_bind (wpAny_seqItems o2 rfl ?_); refine wpAny_bind (upd_own o2 (by omega) fun h3 o3 s3 => ?_); refine wpAny_bind (wpAny_letGo (wpAny_pure ?_))
    refine wpAny_bind (wpAny_bind (wpAny_onRaise ?_)); show wpAny _ _ (Builtin.SmallTypes.nextOf (.ref (n + 1)) >>= _) _ _ _
    refine wpAny_bind (wpAny_nextOf_list_item ((d1.i2.extBut s2.extBut n10).extBut s3.extBut n14) ((d1.l2.extBut s2.extBut b0).extBut s3.extBut b4) hy fun h4 j2 s4 => wpAny_pure ?_)
    have o4 := s4.extBut _ _ n41 o3
    refine wpAny_bind (wpAny_seqItems o4 rfl ?_); refine wpAny_bind (upd_own o4 (by rw [Array.size_setIfInBounds]; omega) fun h5 o5 s5 => ?_); refine wpAny_bind (wpAny_letGo (wpAny_pure ?_))
    refine wpAny_bind (wpAny_bind (wpAny_onRaise ?_)); show wpAny _ _ (Builtin.SmallTypes.nextOf (.ref (n + 2)) >>= _) _ _ _
    refine wpAny_bind (wpAny_nextOf_list_item ((((d1.i3.extBut s2.extBut n20).extBut s3.extBut n24).extBut s4.extBut n21).extBut s5.extBut n24)
      ((((d1.l3.extBut s2.extBut c0).extBut s3.extBut c4).extBut s4.extBut c1).extBut s5.extBut c4) hu fun h6 j3 s6 => wpAny_pure ?_)
    have o6 := s6.extBut _ _ n42 o5
    refine wpAny_bind (wpAny_seqItems o6 rfl ?_); refine wpAny_bind (upd_own o6 (by rw [Array.size_setIfInBounds, Array.size_setIfInBounds]; omega) fun h7 o7 s7 => ?_); refine wpAny_bind (wpAny_letGo (wpAny_pure (wpAny_pure ?_)))
    obtain ⟨v1, v2, v3, ev⟩ : ∃ v1 v2 v3, vs = #[v1, v2, v3] := by
      obtain ⟨l⟩ := vs
      match l, hv with
      | [v1, v2, v3], _ => exact ⟨v1, v2, v3, rfl⟩
    subst ev
    have o7' : Tp h7 (n + 4) #[x, y, u] := o7
    refine wpAny_bind (wpAny_seqItems o7' rfl ?_); refine wpAny_bind (wpAny_newTuple ?_)
    have k7 : ∀ q o, q ≠ n → q ≠ n + 1 → q ≠ n + 2 → q ≠ n + 4 → q ≠ n + 5 → s.heap.get? q = some o → h7.get? q = some o := fun q o e0 e1 e2 e4 e5 e =>
      s7.extBut _ _ e4 (s6.extBut _ _ e2 (s5.extBut _ _ e4 (s4.extBut _ _ e1 (s3.extBut _ _ e4 (s2.extBut _ _ e0 (s1.extBut _ _ e5 e))))))
    have hsz : h7.objs.size = s.heap.objs.size := by rw [s7.1, s6.1, s5.1, s4.1, s3.1, s2.1, s1.1]
    have z7 : Zp h7 (n + 5) (n + 3) (n + 4) .ellipsis fl := s7.extBut _ _ n54 (s6.extBut _ _ n52 (s5.extBut _ _ n54 (s4.extBut _ _ n51 (s3.extBut _ _ n54 (s2.extBut _ _ n50 z1')))))
    have lz : n + 5 < s.heap.objs.size := Heap.lt_size hz
    have a1 : h7.IsListIter n a (k + 1) := ((((j1.extBut s3.extBut n04).extBut s4.extBut n01).extBut s5.extBut n04).extBut s6.extBut n02).extBut s7.extBut n04
    have a2 : h7.IsListIter (n + 1) b (k + 1) := ((j2.extBut s5.extBut n14).extBut s6.extBut n12).extBut s7.extBut n14
    have a3 : h7.IsListIter (n + 2) c (k + 1) := j3.extBut s7.extBut n24
    have d7 : Dr h7 n a b c (k + 1) xs ys zs := ⟨a1, a2, a3, D.l1.at fun o e => k7 a o a0 a11 a22 a44 a55 e, D.l2.at fun o e => k7 b o b0 b1 b2 b4 b5 e, D.l3.at fun o e => k7 c o c0 c1 c2 c4 c5 e, D.low, k7 _ _ n30 n31 n32 n34 n35 D.ti⟩
    show wpAny _ _ (Builtin.SmallTypes.ownedTupleHandOut (.ref (n + 5)) (.ref h7.objs.size) >>= _) _ _ _
    refine wpAny_bind ?_
    unfold Builtin.SmallTypes.ownedTupleHandOut
    have z8 : Zp (h7.push { cls := .type "tuple", data := .seq #[x, y, u] }) (n + 5) (n + 3) (n + 4) .ellipsis fl := Heap.get?_push_of_some _ z7
    refine wpAny_bind (wpAny_setField_rec z8 (by simp) fun h9 z9 s9 => ?_)
    have z9' : Zp h9 (n + 5) (n + 3) (n + 4) (rawInt h7.objs.size) fl := z9
    refine wpAny_setField_rec z9' (by simp) fun h10 z10 s10 => ?_
    have z10' : Zp h10 (n + 5) (n + 3) (n + 4) (rawInt h7.objs.size) false := z10
    have up : ∀ q o, q ≠ n + 5 → h7.get? q = some o → h10.get? q = some o := fun q o e1 e => s10.extBut _ _ e1 (s9.extBut _ _ e1 (Heap.get?_push_of_some _ e))
    have nz : h7.objs.size ≠ n + 5 := by omega
    have t10 : Tp h10 h7.objs.size #[x, y, u] := s10.extBut _ _ nz (s9.extBut _ _ nz (Heap.get?_push_size _ rfl))
    refine wpAny_pure ⟨_, rfl, ?_⟩
    show Q (.ref h7.objs.size) _
    rw [hsz] at z10' t10 ⊢
    refine hQ h10 _ false _ ?_ z10' (.inr ⟨_, rfl⟩) (up _ _ n45 o7') rfl t10 fun q o e0 e => ?_
    · exact ⟨d7.i1.at fun o e => up n o n05 e, d7.i2.at fun o e => up (n + 1) o n15 e, d7.i3.at fun o e => up (n + 2) o n25 e, d7.l1.at fun o e => up a o a55 e, d7.l2.at fun o e => up b o b5 e, d7.l3.at fun o e => up c o c5 e, D.low, up _ _ n35 d7.ti⟩
    · have e5 : q ≠ n + 5 := by omega
      exact up q o e5 (k7 q o (by omega) (by omega) (by omega) (by omega) e5 e)
  · simp only [Bool.false_eq_true, if_false]
    have d1 := D.but s1 (.inr rfl)
    have o1 : Tp h1 (n + 4) vs := s1.extBut _ _ n45 hO
    refine wpAny_bind ?_
    rw [← Array.forIn_toList]
    simp only [List.forIn_cons, List.forIn_nil]
    refine wpAny_bind (wpAny_bind (wpAny_holding ?_)); show wpAny _ _ (Builtin.SmallTypes.nextOf (.ref n) >>= _) _ _ _
    refine wpAny_bind (wpAny_nextOf_list_item d1.i1 d1.l1 hx fun h2 j1 s2 => wpAny_pure (wpAny_pure ?_))
    refine wpAny_bind (wpAny_bind (wpAny_holding ?_)); show wpAny _ _ (Builtin.SmallTypes.nextOf (.ref (n + 1)) >>= _) _ _ _
    refine wpAny_bind (wpAny_nextOf_list_item (d1.i2.extBut s2.extBut n10) (d1.l2.extBut s2.extBut b0) hy fun h4 j2 s4 => wpAny_pure (wpAny_pure ?_))
    refine wpAny_bind (wpAny_bind (wpAny_holding ?_)); show wpAny _ _ (Builtin.SmallTypes.nextOf (.ref (n + 2)) >>= _) _ _ _
    refine wpAny_bind (wpAny_nextOf_list_item ((d1.i3.extBut s2.extBut n20).extBut s4.extBut n21) ((d1.l3.extBut s2.extBut c0).extBut s4.extBut c1) hu fun h6 j3 s6 => wpAny_pure (wpAny_pure (wpAny_pure ?_)))
    show wpAny _ _ (newTuple [x, y, u] >>= _) _ _ _
    refine wpAny_bind (wpAny_newTuple ?_)
    have k6 : ∀ q o, q ≠ n → q ≠ n + 1 → q ≠ n + 2 → q ≠ n + 5 → s.heap.get? q = some o → h6.get? q = some o := fun q o e0 e1 e2 e5 e =>
      s6.extBut _ _ e2 (s4.extBut _ _ e1 (s2.extBut _ _ e0 (s1.extBut _ _ e5 e)))
    have hsz : h6.objs.size = s.heap.objs.size := by rw [s6.1, s4.1, s2.1, s1.1]
    have lz : n + 5 < s.heap.objs.size := Heap.lt_size hz
    have z6 : Zp h6 (n + 5) (n + 3) (n + 4) f0 fl1 := s6.extBut _ _ n52 (s4.extBut _ _ n51 (s2.extBut _ _ n50 z1))
    have a1 : h6.IsListIter n a (k + 1) := (j1.extBut s4.extBut n01).extBut s6.extBut n02
    have a2 : h6.IsListIter (n + 1) b (k + 1) := j2.extBut s6.extBut n12
    refine wpAny_pure ⟨_, rfl, ?_⟩
    show Q (.ref h6.objs.size) _
    rw [hsz]
    refine hQ _ f0 fl1 vs ⟨a1.at fun o e => Heap.get?_push_of_some _ e, a2.at fun o e => Heap.get?_push_of_some _ e, j3.at fun o e => Heap.get?_push_of_some _ e, (D.l1.at fun o e => k6 a o a0 a11 a22 a55 e).push _, (D.l2.at fun o e => k6 b o b0 b1 b2 b5 e).push _, (D.l3.at fun o e => k6 c o c0 c1 c2 c5 e).push _, D.low,
      Heap.get?_push_of_some _ (k6 _ _ n30 n31 n32 n35 D.ti)⟩ (Heap.get?_push_of_some _ z6) hf (Heap.get?_push_of_some _ (k6 _ _ n40 n41 n42 n45 hO)) hv (by rw [← hsz]; exact Heap.get?_push_size _ rfl) fun q o e0 e => ?_
    exact Heap.get?_push_of_some _ (k6 q o (by omega) (by omega) (by omega) (by omega) e)
/-- the first list is at its end -/
theorem end3 {n a b c k : Nat} {xs ys zs vs : Array Value} {f0 : Value} {fl : Bool} {Q : Fin → Shared → Prop} (hh : A.handled = none) (D : Dr s.heap n a b c k xs ys zs)
    (hz : Zp s.heap (n + 5) (n + 3) (n + 4) f0 fl) (hf : f0 = .none ∨ ∃ T : Nat, f0 = rawInt T) (hO : Tp s.heap (n + 4) vs)
    (hx : xs[k]? = none) (hE : ∀ h' e, (∀ q o, q < n ∨ n + 5 < q → s.heap.get? q = some o → h'.get? q = some o) → (∃ o, h'.get? e = some o ∧ o.cls = .type "StopIteration") → E (.ref e) { s with heap := h' }) :
    wpAny (model prog w) A (Builtin.«zip.__next__» ⟨[.ref (n + 5)], []⟩) Q E s := by
  have n01 : n ≠ n + 1 := by omega
  have n02 : n ≠ n + 2 := by omega
  have n03 : n ≠ n + 3 := by omega
  have n04 : n ≠ n + 4 := by omega
  have n05 : n ≠ n + 5 := by omega
  have n12 : n + 1 ≠ n + 2 := by omega
  have n13 : n + 1 ≠ n + 3 := by omega
  have n14 : n + 1 ≠ n + 4 := by omega
  have n15 : n + 1 ≠ n + 5 := by omega
  have n21 : n + 2 ≠ n + 1 := by omega
  have n23 : n + 2 ≠ n + 3 := by omega
  have n24 : n + 2 ≠ n + 4 := by omega
  have n25 : n + 2 ≠ n + 5 := by omega
  have n31 : n + 3 ≠ n + 1 := by omega
  have n32 : n + 3 ≠ n + 2 := by omega
  have n34 : n + 3 ≠ n + 4 := by omega
  have n35 : n + 3 ≠ n + 5 := by omega
  have n41 : n + 4 ≠ n + 1 := by omega
  have n42 : n + 4 ≠ n + 2 := by omega
  have n43 : n + 4 ≠ n + 3 := by omega
  have n45 : n + 4 ≠ n + 5 := by omega
  have n51 : n + 5 ≠ n + 1 := by omega
  have n52 : n + 5 ≠ n + 2 := by omega
  have n53 : n + 5 ≠ n + 3 := by omega
  have n54 : n + 5 ≠ n + 4 := by omega
  have n10 : n + 1 ≠ n := by omega
  have n20 : n + 2 ≠ n := by omega
  have n30 : n + 3 ≠ n := by omega
  have n40 : n + 4 ≠ n := by omega
  have n50 : n + 5 ≠ n := by omega
  have lw := D.low
  have a0 : a ≠ n := by omega
  have a11 : a ≠ n + 1 := by omega
  have a22 : a ≠ n + 2 := by omega
  have a44 : a ≠ n + 4 := by omega
  have a55 : a ≠ n + 5 := by omega
  have b0 : b ≠ n := by omega
  have b1 : b ≠ n + 1 := by omega
  have b2 : b ≠ n + 2 := by omega
  have b4 : b ≠ n + 4 := by omega
  have b5 : b ≠ n + 5 := by omega
  have c0 : c ≠ n := by omega
  have c1 : c ≠ n + 1 := by omega
  have c2 : c ≠ n + 2 := by omega
  have c4 : c ≠ n + 4 := by omega
  have c5 : c ≠ n + 5 := by omega
  show wpAny _ _ (field (.ref (n + 5)) 2 >>= _) _ _ _; refine wpAny_bind (wpAny_field hz rfl (x := .bool false) rfl ?_)
  show wpAny _ _ (field (.ref (n + 5)) 3 >>= _) _ _ _; refine wpAny_bind (wpAny_field hz rfl (x := .ref (n + 3)) rfl ?_)
  refine wpAny_bind (wpAny_seqItems D.ti rfl ?_)
  show wpAny _ _ (Builtin.SmallTypes.ownedTupleIsFree (.ref (n + 5)) >>= _) _ _ _
  refine wpAny_bind (own_free hz hf ?_ fun h1 fl1 z1 s1 => ?_)
  · simp only [if_true]
    refine wpAny_bind (wpAny_rule ?_); refine wpAny_bind (wpAny_field hz rfl (x := .ref (n + 4)) rfl ?_)
    refine wpAny_bind (wpAny_setField_rec hz (by simp) fun h1 z1 s1 => ?_)
    have z1' : Zp h1 (n + 5) (n + 3) (n + 4) .ellipsis fl := z1
    have d1 := D.but s1 (.inr rfl)
    refine wpAny_bind ?_; simp only [List.zipIdx_cons, List.zipIdx_nil, List.forIn_cons, List.forIn_nil]
    refine wpAny_bind (wpAny_bind (wpAny_onRaise ?_)); show wpAny _ _ (Builtin.SmallTypes.nextOf (.ref n) >>= _) _ _ _
    refine wpAny_bind (wpAny_nextOf_list_end hh d1.i1 d1.l1 hx fun h2 e s2 he => ?_)
    obtain ⟨oe, hoe, hce⟩ := he
    have z2 : Zp h2 (n + 5) (n + 3) (n + 4) .ellipsis fl := s2 _ _ n50 z1'
    have ez : e ≠ n + 5 := fun t => by rw [t, z2] at hoe; cases hoe; simp at hce
    refine wpAny_setField_rec z2 (by simp) fun h3 z3 s3 => hE h3 e (fun q o e0 t => ?_) ⟨oe, s3.extBut _ _ ez hoe, hce⟩
    have e5 : q ≠ n + 5 := by omega
    have e6 : q ≠ n := by omega
    exact s3.extBut _ _ e5 (s2 _ _ e6 (s1.extBut _ _ e5 t))
  · simp only [Bool.false_eq_true, if_false]
    have d1 := D.but s1 (.inr rfl)
    refine wpAny_bind ?_
    rw [← Array.forIn_toList]
    simp only [List.forIn_cons, List.forIn_nil]
    refine wpAny_bind (wpAny_bind (wpAny_holding ?_)); show wpAny _ _ (Builtin.SmallTypes.nextOf (.ref n) >>= _) _ _ _
    refine wpAny_bind (wpAny_nextOf_list_end hh d1.i1 d1.l1 hx fun h2 e s2 he => hE h2 e (fun q o e0 t => ?_) he)
    have e5 : q ≠ n + 5 := by omega
    have e6 : q ≠ n := by omega
    exact s2 _ _ e6 (s1.extBut _ _ e5 t)
theorem pyNext3 {n a b c k : Nat} {xs ys zs vs : Array Value} {x y u : Value} {f0 : Value} {fl : Bool} {Q : Option Value → Shared → Prop} (D : Dr s.heap n a b c k xs ys zs)
    (hz : Zp s.heap (n + 5) (n + 3) (n + 4) f0 fl) (hf : f0 = .none ∨ ∃ T : Nat, f0 = rawInt T) (hO : Tp s.heap (n + 4) vs) (hv : vs.size = 3)
    (hx : xs[k]? = some x) (hy : ys[k]? = some y) (hu : zs[k]? = some u)
    (hQ : ∀ h' f1 fl1 vs1, Dr h' n a b c (k + 1) xs ys zs → Zp h' (n + 5) (n + 3) (n + 4) f1 fl1 → (f1 = .none ∨ ∃ T : Nat, f1 = rawInt T) → Tp h' (n + 4) vs1 → vs1.size = 3 → Tp h' s.heap.objs.size #[x, y, u] →
      (∀ q o, q < n ∨ n + 5 < q → s.heap.get? q = some o → h'.get? q = some o) → Q (some (.ref s.heap.objs.size)) { s with heap := h' }) :
    wpAny (model prog w) A (pyNext (.ref (n + 5))) Q E s := by
  have hT : s.TypeIs (.ref (n + 5)) "zip" := ⟨_, hz, rfl⟩
  unfold pyNext
  exact wpAny_bind (wpAny_attempt (wpAny_callSpecial?_slot (name := Str.ofString "__next__") hT F.slot_zip_next (wpAny_call_entry F.slot_zip_next hT F.entry_zip_next
    (next3 D hz hf hO hv hx hy hu fun h' f1 fl1 vs1 a1 a2 a3 a4 a5 a6 a7 => wpAny_pure (hQ h' f1 fl1 vs1 a1 a2 a3 a4 a5 a6 a7)) (F.args_zip_next_1 _))))
theorem pyEnd3 {n a b c k : Nat} {xs ys zs vs : Array Value} {f0 : Value} {fl : Bool} {Q : Option Value → Shared → Prop} (hh : A.handled = none) (D : Dr s.heap n a b c k xs ys zs)
    (hz : Zp s.heap (n + 5) (n + 3) (n + 4) f0 fl) (hf : f0 = .none ∨ ∃ T : Nat, f0 = rawInt T) (hO : Tp s.heap (n + 4) vs)
    (hx : xs[k]? = none) (hQ : ∀ h', (∀ q o, q < n ∨ n + 5 < q → s.heap.get? q = some o → h'.get? q = some o) → Q none { s with heap := h' }) :
    wpAny (model prog w) A (pyNext (.ref (n + 5))) Q E s := by
  have hT : s.TypeIs (.ref (n + 5)) "zip" := ⟨_, hz, rfl⟩
  unfold pyNext
  refine wpAny_bind (wpAny_attempt (wpAny_callSpecial?_slot (name := Str.ofString "__next__") hT F.slot_zip_next (wpAny_call_entry F.slot_zip_next hT F.entry_zip_next (end3 hh D hz hf hO hx fun h' e hk he => ?_) (F.args_zip_next_1 _))))
  obtain ⟨o, ho, hc⟩ := he
  exact wpAny_bind (wpAny_isInstance (T := "StopIteration") (b := true) ⟨o, ho, hc⟩ isSubtype_stop (wpAny_pure (hQ _ hk)))
/-- the new tuples of a list of them -/
structure Tups (row : Nat → Array Value) (lo : Addr) (h : Heap) (as : List Addr) : Prop where
  rise : as.Pairwise (· < ·)
  above : ∀ a ∈ as, lo < a
  at' : ∀ (j : Nat) (a : Addr), as[j]? = some a → Tp h a (row j)
theorem Tups.lt {row : Nat → Array Value} {lo : Addr} {h : Heap} {as : List Addr} (g : Tups row lo h as) {a : Addr} (ha : a ∈ as) : a < h.objs.size := by
  obtain ⟨j, hj⟩ := List.mem_iff_getElem?.mp ha
  exact Heap.lt_size (g.at' j a hj)
def Zs (h : Heap) (n a b c k : Nat) (xs ys zs : Array Value) : Prop := Dr h n a b c k xs ys zs ∧ ∃ f0 fl vs, Zp h (n + 5) (n + 3) (n + 4) f0 fl ∧ (f0 = .none ∨ ∃ T : Nat, f0 = rawInt T) ∧ Tp h (n + 4) vs ∧ vs.size = 3
theorem Zs.keep {h h' : Heap} {n a b c k : Nat} {xs ys zs : Array Value} (z : Zs h n a b c k xs ys zs) (hk : ∀ q o, q ≤ n + 5 → h.get? q = some o → h'.get? q = some o) : Zs h' n a b c k xs ys zs := by
  obtain ⟨d, f0, fl, vs, hz, hf, hO, hv⟩ := z
  have lw := d.low
  exact ⟨⟨d.i1.at fun o e => hk _ o (by omega) e, d.i2.at fun o e => hk _ o (by omega) e, d.i3.at fun o e => hk _ o (by omega) e, d.l1.at fun o e => hk _ o (by omega) e, d.l2.at fun o e => hk _ o (by omega) e, d.l3.at fun o e => hk _ o (by omega) e, lw, hk _ _ (by omega) d.ti⟩,
    f0, fl, vs, hk _ _ (Nat.le_refl _) hz, hf, hk _ _ (by omega) hO, hv⟩
end
section
variable {prog : Program} {w : World} {A : Around} {s : Shared} {R : Result → Shared → Prop} {n a b c : Nat} {xs ys zs : Array Value} {row : Nat → Array Value}
def Rows3 (row : Nat → Array Value) (xs ys zs : Array Value) : Prop := ∀ k, k < xs.size → ∃ x y u, xs[k]? = some x ∧ ys[k]? = some y ∧ zs[k]? = some u ∧ row k = #[x, y, u]
theorem loop3 {S : Addr} (hh : A.handled = none) (hS0 : n + 5 < S) (hr : Rows3 row xs ys zs) (hn : xs.size ≤ sizeLine) (res : Value) {h₁ : Heap}
    (hR : ∀ h' tk acc cc as, (∀ q o, q < n ∨ n + 5 < q → q ≠ S → h₁.get? q = some o → h'.get? q = some o) → h'.get? S = some { cls := .type "list", dict := none, data := .seq acc cc, slots := #[] } → as.length = xs.size → Tups row S h' as →
      acc.toList = as.map Value.ref → R (.ok (.ret res)) { s with heap := h', toks := tk }) :
    ∀ (m k : Nat) (h : Heap) (tk cc : Nat) (acc : Array Value) (as : List Addr), xs.size - k = m → k ≤ xs.size → Zs h n a b c k xs ys zs → (∀ q o, q < n ∨ n + 5 < q → q ≠ S → h₁.get? q = some o → h.get? q = some o) →
      h.get? S = some { cls := .type "list", dict := none, data := .seq acc cc, slots := #[] } → acc.toList = as.map Value.ref → as.length = k → Tups row S h as →
      codeAny (model prog w) A (.builtin "list.extend.loop" ⟨[.ref S, .ref (n + 5), res], []⟩) R { s with heap := h, toks := tk } := by
  intro m
  induction m with
  | zero =>
    intro k h tk cc acc as hm hk hst hkeep hS hacc hal hG
    refine codeAny_builtin PySem.F.entry_extend_loop ?_
    rw [Around.under_plainId PySem.F.plain_extend_loop _]; show wpAny _ A.in1 (pyNext (.ref (n + 5)) >>= _) _ _ _
    obtain ⟨d, f0, fl, vs, hz, hf, hO, hv⟩ := hst
    refine wpAny_bind (pyEnd3 (s := { s with heap := h, toks := tk }) (A := A.in1) hh d hz hf hO (Array.getElem?_eq_none (by omega)) fun h' he => ?_)
    refine wpAny_pure (hR h' tk acc cc as (fun q o e0 e1 e => he q o e0 (hkeep q o e0 e1 e)) (he S _ (.inr hS0) hS) (by omega) ⟨hG.rise, hG.above, fun j q hj => ?_⟩ hacc)
    exact he _ _ (.inr (Nat.lt_trans hS0 (hG.above q (List.mem_of_getElem? hj)))) (hG.at' j q hj)
  | succ m ih =>
    intro k h tk cc acc as hm hk hst hkeep hS hacc hal hG
    have hlt : k < xs.size := by omega
    obtain ⟨x, y, u, ex, ey, eu, er⟩ := hr k hlt
    have hsz : acc.size = k := by rw [← Array.length_toList, hacc, List.length_map, hal]
    refine codeAny_builtin PySem.F.entry_extend_loop ?_
    rw [Around.under_plainId PySem.F.plain_extend_loop _]; show wpAny _ A.in1 (pyNext (.ref (n + 5)) >>= _) _ _ _
    obtain ⟨d, f0, fl, vs, hz, hf, hO, hv⟩ := hst
    refine wpAny_bind (pyNext3 (s := { s with heap := h, toks := tk }) (A := A.in1) d hz hf hO hv ex ey eu fun h' f1 fl1 vs1 d' z' f' o' v' ht hkp => ?_)
    dsimp only at ht hkp ⊢
    have hS' := hkp S _ (.inr hS0) hS
    have up : ∀ q o, q ≠ S → h'.get? q = some o → (h'.update S (Obj.mapSeq (·.push (Value.ref h.objs.size)))).get? q = some o := fun q o hb e => (Heap.get?_update_other _ _ (Ne.symm hb)).trans e
    have hSl : S < h.objs.size := Heap.lt_size hS
    have neS : ∀ {q : Nat}, q ≤ n + 5 → q ≠ S := fun {q} hq => by omega
    show wpAny _ A.in1 (updateSeq S (·.push (Value.ref h.objs.size)) >>= _) _ _ _
    refine wpAny_bind (wpAny_updateSeq hS' rfl (wpAny_pure ⟨plainId_quiet PySem.F.plain_extend_loop _, ih (k + 1) _ tk _ (acc.push (Value.ref h.objs.size)) (as ++ [h.objs.size]) (by omega) hlt
      (Zs.keep (h := h') ⟨d', f1, fl1, vs1, z', f', o', v'⟩ fun q o hq e => up q o (neS hq) e) (fun q o e0 e1 e => up q o e1 (hkp q o e0 (hkeep q o e0 e1 e))) (Heap.get?_update_self _ hS' rfl)
      (by rw [Array.toList_push, hacc, List.map_append]; rfl) (by rw [List.length_append, hal]; rfl) ⟨?_, ?_, ?_⟩⟩) (by rw [hsz]; omega) (by show (acc.push (Value.ref h.objs.size)).size ≤ sizeLine + 1; rw [Array.size_push, hsz]; omega))
    · refine List.pairwise_append.mpr ⟨hG.rise, List.pairwise_singleton _ _, fun q hq t ht => ?_⟩
      rw [List.mem_singleton.mp ht]
      exact hG.lt hq
    · intro q hq
      rcases List.mem_append.mp hq with hq | hq
      · exact hG.above q hq
      · rw [List.mem_singleton.mp hq]; exact hSl
    · intro j q hj
      rcases Nat.lt_trichotomy j as.length with h1 | h1 | h1
      · rw [List.getElem?_append_left h1] at hj
        have hb := hG.above q (List.mem_of_getElem? hj)
        exact up q _ (Nat.ne_of_gt hb) (hkp q _ (.inr (Nat.lt_trans hS0 hb)) (hG.at' j q hj))
      · subst h1
        have hb : h.objs.size = q := by simpa using hj
        subst hb
        refine up _ _ (Nat.ne_of_gt hSl) ?_
        rw [hal, er]
        exact ht
      · rw [List.getElem?_eq_none (by rw [List.length_append, List.length_singleton]; omega)] at hj
        cases hj
end
section
variable {prog : Program} {w : World} {A : Around} {E : Value → Shared → Prop} {s : Shared} {n a b c : Nat} {xs ys zs : Array Value} {row : Nat → Array Value}
theorem hint3 {z : Addr} (hT : s.TypeIs (.ref z) "zip") {Q : Bool → Shared → Prop} (h : Q true s) : wpAny (model prog w) A (Builtin.List.listLengthHint (.ref z)) Q E s := by
  unfold Builtin.List.listLengthHint
  refine wpAny_bind (wpAny_specialOf hT zlen ?_)
  show wpAny _ _ (specialOf (Value.ref z) (Str.ofString "__length_hint__") >>= _) _ _ _
  exact wpAny_bind (wpAny_specialOf hT zhint (wpAny_pure h))
theorem init3 {R : Result → Shared → Prop} (hh : A.handled = none) (hst : Zs s.heap n a b c 0 xs ys zs) (S : Addr) (hS0 : n + 5 < S) (hS : s.heap.get? S = some { cls := .type "list", data := .seq #[] }) (hr : Rows3 row xs ys zs) (hn : xs.size ≤ sizeLine)
    (hR : ∀ h' tk acc cc as, (∀ q o, q < n ∨ n + 5 < q → q ≠ S → s.heap.get? q = some o → h'.get? q = some o) → h'.get? S = some { cls := .type "list", dict := none, data := .seq acc cc, slots := #[] } → as.length = xs.size → Tups row S h' as →
      acc.toList = as.map Value.ref → R (.ok (.ret .none)) { s with heap := h', toks := tk }) :
    wpAny (model prog w) A.in1 (Builtin.«list.__init__» ⟨[.ref S, .ref (n + 5)], []⟩)
      (fun fin s' => match fin with | .done f => R (.ok f) s' | .again c' => c'.quiet = true ∧ codeAny (model prog w) A c' R s') (fun e s' => R (.error e) s') s := by
  show wpAny _ _ (do let old ← Builtin.List.listItems (.ref S); Builtin.List.listUpdate (.ref S) (fun _ => #[]); letGo old.toList.reverse; Builtin.List.listExtendWith (.ref S) (.ref (n + 5)) .none) _ _ s
  refine wpAny_bind ?_
  unfold Builtin.List.listItems
  refine wpAny_bind (wpAny_seqItems hS rfl (wpAny_pure ?_))
  show wpAny _ _ (updateSeq S (fun _ => #[]) >>= fun _ => letGo (#[] : Array Value).toList.reverse >>= fun _ => Builtin.List.listExtendWith (.ref S) (.ref (n + 5)) .none) _ _ s
  refine wpAny_bind (wpAny_updateSeq hS rfl ?_)
  have hS2 := Heap.get?_update_self (Obj.mapSeq (fun _ => (#[] : Array Value))) hS rfl
  have oth : ∀ q o, q ≠ S → s.heap.get? q = some o → (s.heap.update S (Obj.mapSeq (fun _ => (#[] : Array Value)))).get? q = some o := fun q o hb e => (Heap.get?_update_other _ _ (Ne.symm hb)).trans e
  have neS : ∀ {q : Nat}, q ≤ n + 5 → q ≠ S := fun {q} hq => by omega
  have st2 : Zs (s.heap.update S (Obj.mapSeq (fun _ => (#[] : Array Value)))) n a b c 0 xs ys zs := hst.keep fun q o hq e => oth q o (neS hq) e
  refine wpAny_bind (wpAny_letGo ?_)
  have hT : Shared.TypeIs { s with heap := s.heap.update S (Obj.mapSeq (fun _ => (#[] : Array Value))) } (.ref (n + 5)) "zip" := let ⟨_, _, _, _, hz, _⟩ := st2; ⟨_, hz, rfl⟩
  unfold Builtin.List.listExtendWith
  refine wpAny_bind (wpAny_typeOf (T := "zip") hT ?_)
  have g1 : Builtin.List.listSameRef (.ref S) (.ref (n + 5)) = false := by simp [Builtin.List.listSameRef, (neS (Nat.le_refl _)).symm]
  have g2 : (Value.type "zip" == Value.type "list") = false := by decide
  have g3 : (Value.type "zip" == Value.type "tuple") = false := by decide
  simp only [g1, g2, g3, Bool.or_false, Bool.false_eq_true, if_false]
  obtain ⟨d2, f0, fl, vs, hz, hf, hO, hv⟩ := id st2
  refine wpAny_bind (wpAny_pyIter_slot hT F.slot_zip_iter (wpAny_call_entry F.slot_zip_iter hT F.entry_zip_iter ?_ (F.args_zip_iter_1 _)))
  show wpAny _ _ (ret (.ref (n + 5))) _ _ _
  refine wpAny_pure ⟨_, rfl, "zip", _, hT, F.slot_zip_next.lookup, ?_⟩
  refine wpAny_bind (wpAny_holding (hint3 hT ?_))
  simp only [Bool.true_or, if_true]
  refine wpAny_bind (wpAny_rule ?_); refine wpAny_bind ?_
  show wpAny _ _ (updateSeq S (·.push .none) >>= fun _ => updateSeq S (·.pop)) _ _ _
  refine wpAny_bind (wpAny_updateSeq hS2 rfl ?_)
  have hS3 := Heap.get?_update_self (Obj.mapSeq (·.push Value.none)) hS2 rfl
  refine wpAny_updateSeq (hz := by seq_fits) hS3 rfl ?_
  have hS4 := Heap.get?_update_self (Obj.mapSeq (·.pop)) hS3 rfl
  have ot2 : ∀ q o, q ≠ S → (s.heap.update S (Obj.mapSeq (fun _ => (#[] : Array Value)))).get? q = some o →
    (((s.heap.update S (Obj.mapSeq (fun _ => (#[] : Array Value)))).update S (Obj.mapSeq (·.push Value.none))).update S (Obj.mapSeq (·.pop))).get? q = some o := fun q o hb e => (Heap.get?_update_other _ _ (Ne.symm hb)).trans ((Heap.get?_update_other _ _ (Ne.symm hb)).trans e)
  refine wpAny_pure ⟨plainId_quiet PySem.F.plain_extend_loop _, loop3 (row := row) (s := s) (h₁ := s.heap) hh hS0 hr hn .none (fun h' tk acc cc as k1 k2 k3 k4 k5 => hR h' tk acc cc as k1 k2 k3 k4 k5) xs.size 0 _ _ _ #[] [] (Nat.sub_zero _) (Nat.zero_le _)
    (st2.keep fun q o hq e => ot2 q o (neS hq) e) (fun q o _ e1 e => ot2 q o e1 (oth q o e1 e)) hS4 rfl rfl ⟨List.Pairwise.nil, (fun _ ha => nomatch ha), (fun j a hj => by simp at hj)⟩⟩
theorem list3 {Q : Value → Shared → Prop} (hh : A.handled = none) (hst : Zs s.heap n a b c 0 xs ys zs) (hr : Rows3 row xs ys zs) (hn : xs.size ≤ sizeLine)
    (hQ : ∀ h' tk acc cc as, (∀ q o, q < n ∨ n + 5 < q → s.heap.get? q = some o → h'.get? q = some o) → h'.get? s.heap.objs.size = some { cls := .type "list", dict := none, data := .seq acc cc, slots := #[] } → as.length = xs.size → Tups row s.heap.objs.size h' as →
      acc.toList = as.map Value.ref → Q (.ref s.heap.objs.size) { s with heap := h', toks := tk }) :
    wpAny (model prog w) A (call (.type "list") [.ref (n + 5)]) Q E s := by
  refine callType_codes (Q₁ := fun obj s₁ => obj = .ref s.heap.objs.size ∧ s₁ = { s with heap := s.heap.push { cls := .type "list", data := .seq #[] } }) PySem.F.called_list (PySem.F.typeCall_list_1 _) PySem.F.entry_list_init (code_list_new _ ⟨rfl, rfl⟩) fun obj s₁ h₁ => ?_
  obtain ⟨rfl, rfl⟩ := h₁
  have hS : (s.heap.push { cls := .type "list", data := .seq #[] }).get? s.heap.objs.size = some { cls := .type "list", data := .seq #[] } := Heap.get?_push_size _ rfl
  have lz : n + 5 < s.heap.objs.size := let ⟨_, _, _, _, hz, _⟩ := hst; Heap.lt_size hz
  refine ⟨⟨_, hS, rfl⟩, PySem.F.args_list_init_2 _ _, init3 (row := row) (A := A.in1) hh (hst.keep fun q o _ e => Heap.get?_push_of_some _ e) _ lz hS hr hn fun h' tk acc cc as k1 k2 k3 k4 k5 => ⟨rfl, ?_⟩⟩
  exact hQ h' tk acc cc as (fun q o e0 e => k1 q o e0 (Nat.ne_of_lt (Heap.lt_size e)) (Heap.get?_push_of_some _ e)) k2 k3 k4 k5
abbrev it3 (l : Addr) : Obj := { cls := .type "list_iterator", data := .fields #[.ref l, .int 0 0] }
abbrev h31 (h : Heap) (a : Addr) : Heap := h.push (it3 a)
abbrev h32 (h : Heap) (a b : Addr) : Heap := (h31 h a).push (it3 b)
abbrev h33 (h : Heap) (a b c : Addr) : Heap := (h32 h a b).push (it3 c)
abbrev h34 (h : Heap) (a b c : Addr) : Heap := (h33 h a b c).push { cls := .type "tuple", data := .seq #[.ref h.objs.size, .ref (h31 h a).objs.size, .ref (h32 h a b).objs.size] }
abbrev h35 (h : Heap) (a b c : Addr) : Heap := (h34 h a b c).push { cls := .type "tuple", data := .seq #[.none, .none, .none] }
abbrev h36 (h : Heap) (a b c : Addr) : Heap := (h35 h a b c).push { cls := .type "zip", data := .fields #[.none, .bool false, .bool false, .ref (h33 h a b c).objs.size, .ref (h34 h a b c).objs.size] }
theorem new3 (a b c : Addr) (xs ys zs : Array Value) :
    Meets (Builtin.«zip.__new__» ⟨[.type "zip", .ref a, .ref b, .ref c], []⟩) (fun _ R s => s.heap.IsList a xs ∧ s.heap.IsList b ys ∧ s.heap.IsList c zs ∧
      R (.ok (.ret (.ref (h35 s.heap a b c).objs.size))) { s with heap := h36 s.heap a b c }) :=
  .of_wp fun prog w A R s h => by
    obtain ⟨hp, g, d, tk, os⟩ := s; obtain ⟨hl1, hl2, hl3, h⟩ := h
    have hsub := sub_zip
    have hL1 : Heap.IsList (Shared.heap ⟨hp, g, d, tk, os⟩) a xs := hl1
    have hL2 : Heap.IsList (Shared.heap ⟨hp.push (it3 a), g, d, tk, os⟩) b ys := Heap.IsList.push hl2 _
    have hL3 : Heap.IsList (Shared.heap ⟨(hp.push (it3 a)).push (it3 b), g, d, tk, os⟩) c zs := Heap.IsList.push (Heap.IsList.push hl3 _) _
    wp_walk using wpAny_pyIter_list hL1, wpAny_pyIter_list hL2, wpAny_pyIter_list hL3
    exact ⟨_, rfl, h⟩
theorem zip3 {Q : Value → Shared → Prop} (h1 : s.heap.IsList a xs) (h2 : s.heap.IsList b ys) (h3 : s.heap.IsList c zs) (lw : a < s.heap.objs.size ∧ b < s.heap.objs.size ∧ c < s.heap.objs.size)
    (h : ∀ h', Zs h' s.heap.objs.size a b c 0 xs ys zs → h'.objs.size = s.heap.objs.size + 6 → (∀ q o, s.heap.get? q = some o → h'.get? q = some o) → Q (.ref (s.heap.objs.size + 5)) { s with heap := h' }) :
    wpAny (model prog w) A (call (.type "zip") [.ref a, .ref b, .ref c]) Q E s := by
  refine callType_new F.called_zip (by decide) (ztc3 _ _ _) (znc3 _ _ _) (fun obj => zao4 obj _ _ _) F.entry_zip_new (new3 a b c xs ys zs) ⟨h1, h2, h3, ?_⟩
  have z1 : (h31 s.heap a).objs.size = s.heap.objs.size + 1 := Heap.size_push ..
  have z2 : (h32 s.heap a b).objs.size = s.heap.objs.size + 2 := by rw [Heap.size_push, z1]
  have z3 : (h33 s.heap a b c).objs.size = s.heap.objs.size + 3 := by rw [Heap.size_push, z2]
  have z4 : (h34 s.heap a b c).objs.size = s.heap.objs.size + 4 := by rw [Heap.size_push, z3]
  have z5 : (h35 s.heap a b c).objs.size = s.heap.objs.size + 5 := by rw [Heap.size_push, z4]
  have z6 : (h36 s.heap a b c).objs.size = s.heap.objs.size + 6 := by rw [Heap.size_push, z5]
  have g6 : (h36 s.heap a b c).get? (h35 s.heap a b c).objs.size = some _ := Heap.get?_push_size _ rfl
  have g5 : (h36 s.heap a b c).get? (h34 s.heap a b c).objs.size = some _ := Heap.get?_push_of_some _ (Heap.get?_push_size _ rfl)
  have g4 : (h36 s.heap a b c).get? (h33 s.heap a b c).objs.size = some _ := Heap.get?_push_of_some _ (Heap.get?_push_of_some _ (Heap.get?_push_size _ rfl))
  have g3 : (h36 s.heap a b c).get? (h32 s.heap a b).objs.size = some _ := Heap.get?_push_of_some _ (Heap.get?_push_of_some _ (Heap.get?_push_of_some _ (Heap.get?_push_size _ rfl)))
  have g2 : (h36 s.heap a b c).get? (h31 s.heap a).objs.size = some _ := Heap.get?_push_of_some _ (Heap.get?_push_of_some _ (Heap.get?_push_of_some _ (Heap.get?_push_of_some _ (Heap.get?_push_size _ rfl))))
  have g1 : (h36 s.heap a b c).get? s.heap.objs.size = some _ := Heap.get?_push_of_some _ (Heap.get?_push_of_some _ (Heap.get?_push_of_some _ (Heap.get?_push_of_some _ (Heap.get?_push_of_some _ (Heap.get?_push_size _ rfl)))))
  have kp : ∀ q o, s.heap.get? q = some o → (h36 s.heap a b c).get? q = some o := fun q o x => Heap.get?_push_of_some _ (Heap.get?_push_of_some _ (Heap.get?_push_of_some _ (Heap.get?_push_of_some _ (Heap.get?_push_of_some _ (Heap.get?_push_of_some _ x)))))
  show _ ∧ _
  rw [z3, z4, z5] at g6
  rw [z4] at g5
  rw [z1, z2, z3] at g4
  rw [z2] at g3
  rw [z1] at g2
  rw [z5]
  exact ⟨⟨_, g6, rfl⟩, h _ ⟨⟨⟨_, g1, rfl, rfl⟩, ⟨_, g2, rfl, rfl⟩, ⟨_, g3, rfl, rfl⟩, h1.at fun o e => kp a o e, h2.at fun o e => kp b o e, h3.at fun o e => kp c o e, lw, g4⟩, .none, false, _, g6, .inl rfl, g5, rfl⟩ z6 kp⟩
end
end Z3
namespace Z3
open PySem PySem.Spec PyProof.Rows L2
/-- the tuples tracked at their addresses -/
def layT : Hp → List Addr → List (List V) → Hp
  | H, a :: as, p :: ps => layT (upd H a (.tup p)) as ps
  | H, _, _ => H
theorem layT_off {q : Addr} : ∀ (as : List Addr) (ps : List (List V)) (H : Hp), q ∉ as → layT H as ps q = H q
  | [], _, _, _ => rfl
  | _ :: _, [], _, _ => rfl
  | a :: as, p :: ps, H, h => by
    show layT (upd H a (.tup p)) as ps q = H q
    rw [layT_off as ps _ (fun z => h (List.mem_cons_of_mem _ z)), upd_ne (fun z => h (by rw [z]; exact List.mem_cons_self))]
theorem layT_at : ∀ (as : List Addr) (ps : List (List V)) (H : Hp), as.length = ps.length → as.Nodup → ∀ (j : Nat) (a : Addr) (p : List V), as[j]? = some a → ps[j]? = some p → layT H as ps a = some (.tup p)
  | [], _, _, _, _, j, a, p, h, _ => by simp at h
  | _ :: _, [], _, h, _, _, _, _, _, _ => by cases h
  | a :: as, p :: ps, H, h, hn, 0, b, q, e1, e2 => by
    have hn' := List.nodup_cons.mp hn
    cases e1
    cases e2
    show layT (upd H a (.tup p)) as ps a = _
    rw [layT_off as ps _ hn'.1, upd_same]
  | a :: as, p :: ps, H, h, hn, j + 1, b, q, e1, e2 => layT_at as ps (upd H a (.tup p)) (Nat.succ.inj h) (List.nodup_cons.mp hn).2 j b q e1 e2
theorem refV : ∀ as : List Addr, Vals (as.map V.ref) (as.map Value.ref)
  | [] => .nil
  | _ :: as => .cons rfl (refV as)
/-- what a list of new tuples leaves -/
def NewT (H H' : Hp) (p : Addr) (ts : List Addr) (ps : List (List V)) : Prop :=
  (∀ q o, H q = some o → H' q = some o) ∧ H p = none ∧ (∀ t ∈ ts, H t = none) ∧ p ∉ ts ∧ ts.Nodup ∧ ts.length = ps.length ∧ H' p = some (.lst (ts.map V.ref)) ∧ ∀ (j : Nat) (t : Addr) (r : List V), ts[j]? = some t → ps[j]? = some r → H' t = some (.tup r)
section
variable {X : Cx}
theorem laid {pins : List (Addr × Obj)} {σ : L2.St} {H : Hp} {s : Shared} {h' : Heap} {tk : Nat} {S : Addr} {ps : List (List V)} {row : Nat → Array Value} {acc : Array Value} {cc : Nat} {as : List Addr} (I : Inv X pins σ H s) (hz : ps.length ≤ sizeLine)
    (rel : ∀ (j : Nat) (r : List V), ps[j]? = some r → r.length ≤ sizeLine ∧ ∃ us, Vals r us ∧ row j = us.toArray) (hSl : s.heap.objs.size ≤ S)
    (hk : ∀ b o, s.heap.get? b = some o → h'.get? b = some o) (hS : h'.get? S = some { cls := .type "list", dict := none, data := .seq acc cc, slots := #[] }) (hl : as.length = ps.length) (hG : Tups row S h' as) (hacc : acc.toList = as.map Value.ref) :
    ∃ H' : Hp, NewT H H' S as ps ∧ Inv X pins σ H' { s with heap := h', toks := tk } := by
  have hSn : S ∉ as := fun z => Nat.lt_irrefl _ (hG.above _ z)
  have nd : as.Nodup := List.Pairwise.imp (fun {a b} (h : a < b) => Nat.ne_of_lt h) hG.rise
  have hi : ∀ t ∈ as, s.heap.objs.size ≤ t := fun t ht => Nat.le_trans hSl (Nat.le_of_lt (hG.above t ht))
  have new : ∀ t ∈ as, H t = none := fun t ht => I.hok.fresh (hi t ht)
  have newS : H S = none := I.hok.fresh hSl
  have atP := layT_at as ps (upd H S (.lst (as.map V.ref))) hl nd
  have off : ∀ b, b ∉ as → b ≠ S → layT (upd H S (.lst (as.map V.ref))) as ps b = H b := fun b h1 h2 => by rw [layT_off as ps _ h1, upd_ne h2]
  have low : ∀ b o, s.heap.get? b = some o → b ∉ as ∧ b ≠ S := fun b o e => ⟨fun z => absurd (Heap.lt_size e) (Nat.not_lt.mpr (hi b z)), fun z => absurd (Heap.lt_size e) (Nat.not_lt.mpr (by rw [z]; exact hSl))⟩
  have kp : ∀ b u, H b = some u → (layT (upd H S (.lst (as.map V.ref))) as ps) b = some u := fun b u e => by
    rw [off b (fun z => by rw [new b z] at e; cases e) (fun z => by rw [z, newS] at e; cases e)]
    exact e
  have eS : layT (upd H S (.lst (as.map V.ref))) as ps S = some (.lst (as.map V.ref)) := by rw [layT_off as ps _ hSn, upd_same]
  refine ⟨layT (upd H S (.lst (as.map V.ref))) as ps, ⟨kp, newS, new, hSn, nd, hl, eS, atP⟩, ?_⟩
  refine I.call' (ch := []) rfl ⟨fun b o q _ _ _ => hk b o q, fun b o q _ _ _ => ⟨o.slots, hk b o q⟩, fun b o q n _ => ?_, fun b o q _ => ⟨o, hk b o q⟩, fun b xs q => kp b _ q, fun b o u q => kp b _ q, fun b ps q => ⟨#[], by rw [kp b _ q]; simp⟩⟩ (fun b u q => ?_) I.bare fun b z => by simp at z
  · obtain ⟨z1, z2⟩ := low b o q
    rw [off b z1 z2]
    exact n
  · by_cases hb : b ∈ as
    · obtain ⟨j, e1⟩ := List.mem_iff_getElem?.mp hb
      have jl : j < ps.length := by rw [← hl]; exact (List.getElem?_eq_some_iff.mp e1).1
      have e2 := List.getElem?_eq_getElem jl
      have e3 := atP j b _ e1 e2
      rw [e3] at q
      cases q
      obtain ⟨rz, us, rv, er⟩ := rel j _ e2
      have f3 := hG.at' j b e1
      rw [er] at f3
      exact ⟨rz, us, rv, ⟨_, f3, rfl, _, rfl⟩⟩
    · by_cases hb2 : b = S
      · rw [hb2] at q ⊢
        rw [eS] at q
        cases q
        refine ⟨by rw [List.length_map]; omega, acc.toList, cc, by rw [hacc]; exact refV as, ?_⟩
        rw [Array.toArray_toList]
        exact hS
      · rw [off b hb hb2] at q
        exact (I.hok b u q).stay (fun d v _ y => hk d v y) (fun d y => kp d _ y) fun d xs y => kp d _ y
def tri : List V → List V → List V → List (List V)
  | x :: xs, y :: ys, u :: us => [x, y, u] :: tri xs ys us
  | _, _, _ => []
theorem tri_len : ∀ {xs ys zs : List V}, xs.length = ys.length → xs.length = zs.length → (tri xs ys zs).length = xs.length
  | [], _, _, _, _ => rfl
  | _ :: _, [], _, h, _ => by cases h
  | _ :: _, _ :: _, [], _, h => by cases h
  | x :: xs, y :: ys, u :: zs, h1, h2 => by
    show (tri xs ys zs).length + 1 = xs.length + 1
    rw [tri_len (Nat.succ.inj h1) (Nat.succ.inj h2)]
theorem tri_get : ∀ {xs ys zs : List V} {j : Nat} {r : List V}, (tri xs ys zs)[j]? = some r → ∃ x y u, xs[j]? = some x ∧ ys[j]? = some y ∧ zs[j]? = some u ∧ r = [x, y, u]
  | [], _, _, j, r, h => by simp [tri] at h
  | _ :: _, [], _, j, r, h => by simp [tri] at h
  | _ :: _, _ :: _, [], j, r, h => by simp [tri] at h
  | x :: xs, y :: ys, u :: zs, 0, r, h => ⟨x, y, u, rfl, rfl, rfl, (Option.some.inj h).symm⟩
  | x :: xs, y :: ys, u :: zs, j + 1, r, h => tri_get (xs := xs) (ys := ys) (zs := zs) (j := j) h
def tLZ3 (K : PySem.W.Frag) (ta : TA) : TE := fun σ H Q => ta σ H fun vs H1 => ∃ a b c xs ys zs, vs = [.ref a, .ref b, .ref c] ∧ SqL K H1 a xs ∧ SqL K H1 b ys ∧ SqL K H1 c zs ∧ xs.length = ys.length ∧ xs.length = zs.length ∧
  ∀ (H' : Hp) (p : Addr) (ts : List Addr), NewT H1 H' p ts (tri xs ys zs) → Q (.ref p) H'
/-- list(zip(a, b, c)) -/
theorem pe_listZip3 {e1 e2 e3 : Expr} {ta : TA} {p p2 pos2 pos : Pos} (hc : X.calm = true) (hg : Gl X "list") (hm : X.mg "list" = none) (hg2 : Gl X "zip") (hm2 : X.mg "zip" = none) (ha : PA X [e1, e2, e3] ta)
    (hs2 : starEach [e1, e2, e3] X.env = (false, eval e1 X.env) :: starEach [e2, e3] X.env := by rfl) (hpl2 : (backTo pos2 (starEach [e2, e3] X.env)).any (·.1) = false := by rfl)
    (hs : starEach [.Call (.Name "zip" p2) [e1, e2, e3] [] pos2] X.env = (false, eval (.Call (.Name "zip" p2) [e1, e2, e3] [] pos2) X.env) :: starEach [] X.env := by rfl) :
    PE X (.Call (.Name "list" p) [.Call (.Name "zip" p2) [e1, e2, e3] [] pos2] [] pos) (tLZ3 X.K ta) := by
  refine ⟨fun pins s σ H Q I hq => ?_⟩
  refine wpAny_Call_Name_kw (ld_blt I hg hm (by decide +kernel : bootBuiltins "list" = some (.type "list")) ?_)
  refine PyProof.Rows.callWith_type1 ?_ hs rfl
  rw [hs]
  refine Calls.spliced_cons ?_
  refine wpAny_Call_Name_kw (ld_blt I hg2 hm2 PyProof.Rows.boot_zip (PyProof.Rows.callWith_type1 (thn (ha.run pos2 pins s σ H _ I hq) fun us s1 ⟨vs, H1, I1, r1, q1⟩ => ?_) hs2 hpl2))
  obtain ⟨a, b, c, xs, ys, zs, ex, hx, hy, hz, l1, l2, q⟩ := q1
  subst ex
  obtain ⟨ia, ra, pa, za⟩ := I1.list hx
  obtain ⟨ib, rb, pb, zb⟩ := I1.list hy
  obtain ⟨ic, rc, pc, zc⟩ := I1.list hz
  cases r1 with
  | cons r rr => cases rr with
    | cons r' rr => cases rr with
      | cons r'' rr =>
        cases rr
        cases r
        cases r'
        cases r''
        refine zip3 pa.isList pb.isList pc.isList ⟨pa.lt, pb.lt, pc.lt⟩ fun h2 z2 sz2 k2 => ?_
        refine Calls.spliced_nil ?_
        have la := ra.length
        have lb := rb.length
        have lc := rc.length
        let row : Nat → Array Value := fun k => #[ia.toArray.getD k .none, ib.toArray.getD k .none, ic.toArray.getD k .none]
        have rows : Rows3 row ia.toArray ib.toArray ic.toArray := fun k hk => by
          have h1 : k < ia.length := by simpa using hk
          have h2 : k < ib.length := by omega
          have h3 : k < ic.length := by omega
          refine ⟨ia[k], ib[k], ic[k], by simp [h1], by simp [h2], by simp [h3], ?_⟩
          show #[ia.toArray.getD k .none, ib.toArray.getD k .none, ic.toArray.getD k .none] = _
          simp [h1, h2, h3]
        have hn : ia.toArray.size ≤ sizeLine := by rw [List.size_toArray, ← la]; exact za
        refine list3 (s := { s1 with heap := h2 }) (row := row) (I1.ok.hd hc) z2 rows hn fun h' tk acc cc as hk hS hl hG hacc => ?_
        have hk1 : ∀ q o, s1.heap.get? q = some o → h'.get? q = some o := fun q o e => hk q o (.inl (Heap.lt_size e)) (k2 q o e)
        have tl := tri_len l1 l2
        have sl : s1.heap.objs.size ≤ h2.objs.size := by omega
        obtain ⟨H', nt, J⟩ := laid (X := X) (tk := tk) (ps := tri xs ys zs) (row := row) I1 (by rw [tl]; exact za) (fun j r hj => by
          obtain ⟨x, y, u, f1, f2, f3, er⟩ := tri_get hj
          subst er
          obtain ⟨vx, g1, k1⟩ := ra.get f1
          obtain ⟨vy, g2, k2⟩ := rb.get f2
          obtain ⟨vu, g3, k3⟩ := rc.get f3
          refine ⟨by show 3 ≤ sizeLine; decide, [vx, vy, vu], .cons k1 (.cons k2 (.cons k3 .nil)), ?_⟩
          show #[ia.toArray.getD j .none, ib.toArray.getD j .none, ic.toArray.getD j .none] = _
          simp [g1, g2, g3]) sl hk1 hS (by rw [hl, tl, List.size_toArray, ← la]) hG hacc
        exact ⟨.ref _, H', J, rfl, q H' _ as nt⟩
end
end Z3
namespace Ow
open PySem PySem.Spec PyProof.Rows L2

/-- the def that the module's name x holds keeps sp, by k levels -/
structure Kn (P : Program) (w : World) (K : PySem.W.Frag) (mg : Str → Option Value) (base : Heap)
    (k : Nat) (x : Str) (ps : List Str) (sp : Sp) : Prop where
  ex : ∃ f fd, FnOk P w K mg base CX0 k f fd ps sp ∧ mg x = some (.ref f) ∧
    PySem.W.keepIn K (.ref f) = true ∧ Binds K fd ps []

theorem pe_kn {X : Cx} {k j : Nat} {x : Str} {ps : List Str} {sp : Sp} {p pos : Pos} {e : Expr}
    {es : List Expr} {t : TA} (c : Kn X.prog X.w X.K X.mg X.base k x ps sp) (hr : Room j X.A)
    (ha : PA X (e :: es) t) (hk : k ≤ j := by decide) (hg : Gl X x := by rfl)
    (hdb : (x == ("__debug__" : Str)) = false := by decide)
    (he : starEach (e :: es) X.env = (false, eval e X.env) :: starEach es X.env := by rfl)
    (hpl : (backTo pos (starEach es X.env)).any (·.1) = false := by rfl) :
    PE X (.Call (.Name x p) (e :: es) [] pos) (tCall sp [] E0 t) := by
  obtain ⟨f, fd, F, gm, kp, b⟩ := c.ex
  exact pe_call F (hr.mono hk) hg gm kp b .nil pass0 ha hdb he hpl

theorem hu64 {k : Nat} {A : Around} (hr : Room k A) : A.units + 64 < cLine := hr.units

/-- the heap but for what stands at p -/
def Gw (p : Addr) (H H' : Hp) : Prop := ∀ b o, b ≠ p → H b = some o → H' b = some o
theorem Gw.refl (p : Addr) (H : Hp) : Gw p H H := fun _ _ _ e => e
theorem Gw.trans {p : Addr} {H H1 H2 : Hp} (a : Gw p H H1) (b : Gw p H1 H2) : Gw p H H2 :=
  fun c o n e => b c o n (a c o n e)
theorem Gw.new {p q : Addr} {H : Hp} {o : HO} (n : H q = none) : Gw p H (upd H q o) :=
  fun b u _ e => by rw [upd_ne (ne_of_none e n)]; exact e
theorem Gw.put {p : Addr} {H : Hp} {o : HO} : Gw p H (upd H p o) :=
  fun b u nb e => by rw [upd_ne nb]; exact e
theorem Gw.same {p : Addr} {H H' : Hp} (s : Same H H') : Gw p H H' := fun b o _ e => s b o e
theorem Same.new {q : Addr} {H : Hp} {o : HO} (n : H q = none) : Same H (upd H q o) :=
  fun b u e => by rw [upd_ne (ne_of_none e n)]; exact e

theorem Gw.over {p o : Addr} {H H' : Hp} {u : HO} (g : Gw p H H') (n : H o = none) : Gw p H (upd H' o u) :=
  fun b x nb e => by rw [upd_ne (ne_of_none e n)]; exact g b x nb e
theorem Same.over {o : Addr} {H H' : Hp} {u : HO} (g : Same H H') (n : H o = none) : Same H (upd H' o u) :=
  fun b x e => by rw [upd_ne (ne_of_none e n)]; exact g b x e
theorem Gw.keep {p q : Addr} {H H' : Hp} {o : HO} (g : Gw p H H') (h : H q = some o) (n : q ≠ p) : H' q = some o := g q o n h
/-- what is free behind was free before -/
theorem Gw.free {p q : Addr} {H H' : Hp} (g : Gw p H H') (n : H' q = none) (ne : q ≠ p) : H q = none := by
  cases z : H q with
  | none => rfl
  | some o =>
    rw [g q o ne z] at n
    cases n
theorem small {n m : Nat} (h : n ≤ m) (hm : m ≤ 10000) : n < sizeLine :=
  Nat.lt_of_le_of_lt (Nat.le_trans h hm) (by decide)
end Ow
namespace Ow
open PySem PySem.Spec PyProof.Rows L2
theorem pget_list {X : Cx} : PGet X (rIxL X.K) := by
  intro pins s σ H o i ov iv Q I ro ri h
  obtain ⟨p, xs, n, v, rfl, rfl, hs, ha, q⟩ := h
  cases ro
  obtain ⟨t, rfl⟩ := ri
  obtain ⟨its, r, pl, hz⟩ := I.list hs
  obtain ⟨j, h1, h2, h3, h4, h5⟩ := atI_get ha
  obtain ⟨u, eu, ru⟩ := r.get h2
  have ln := line63
  have hl := r.length
  by_cases h0 : 0 ≤ n
  · have ej : n.toNat = j := by
      rw [seqIndex_of h0 h5] at h1
      exact Option.some.inj h1
    exact wpAny_getItem_list pl.isList h0 (by omega) (by rw [ej]; simpa using eu) ⟨v, H, I, ru, q⟩
  · have ej : (n + (its.toArray.size : Int)).toNat = j := by
      rw [seqIndex_neg (by omega) h4] at h1
      rw [List.size_toArray, ← hl]
      exact Option.some.inj h1
    exact wpAny_getItem_list_neg pl.isList (by omega) (by rw [List.size_toArray]; omega) (by omega)
      (by rw [ej]; simpa using eu) ⟨v, H, I, ru, q⟩
theorem at_in {α : Type} {xs : List α} {v : Int} (h0 : 0 ≤ v) (h1 : v < xs.length) : ∃ y, atI xs v = some y ∧ y ∈ xs := by
  have h : v.toNat < xs.length := by omega
  have e : v = ((v.toNat : Nat) : Int) := by omega
  refine ⟨xs[v.toNat], ?_, List.getElem_mem h⟩
  have z := atI_nat (xs := xs) (j := v.toNat) (List.getElem?_eq_getElem h)
  rw [← e] at z
  exact z
end Ow
namespace Ow
open PySem PySem.Spec PyProof.Rows L2
/-- a built-in class by its name -/
theorem pe_ty {X : Cx} (n : String) {x : Str} {pos : Pos} (hg : Gl X x) (hm : X.mg x = none) (hv : bootBuiltins x = some (.type n))
    (hn : x ≠ "__name__" := by decide) (hd : (x == ("__debug__" : Str)) = false := by decide) : PE X (.Name x pos) (tC (.ty n)) :=
  pe_bltn hg hm hv rfl hn hd
theorem sz (n : Nat) (h : n ≤ 1000 := by decide) : n ≤ sizeLine := Nat.le_trans h (by decide)
/-- a statement and the rest, with a word between -/
theorem pss_mid {X : Cx} {st : Stmt} {rest : List Stmt} {t u : TS} (a : PS X st t) (b : PSs X rest u) :
    PSs X (st :: rest) fun D σ H => ∃ Mid : L2.St → Hp → Prop, t { D with nx := Mid } σ H ∧ ∀ σ' H', Mid σ' H' → u D σ' H' := by
  refine ⟨fun pins s σ H D I ⟨Mid, hm, hu⟩ => ?_⟩
  refine wpAny_execs_cons (thn (a.run pins s σ H { D with nx := Mid } I hm) fun f s1 q => ?_)
  cases f with
  | next =>
    obtain ⟨σ', H', I', q⟩ := q
    exact b.run pins s1 σ' H' D I' (hu σ' H' q)
  | ret v => exact q
  | brk => exact q
  | cont => exact q
end Ow
namespace Ow
open PySem PySem.Spec PyProof.Rows L2
theorem ix_tup_K {X : Cx} {K : PySem.W.Frag} (e : X.K = K) : IxR X (rIxT K) := by
  subst e
  exact ix_tup
theorem pe_fld_K {X : Cx} {K : PySem.W.Frag} (e : X.K = K) {o : Expr} {ta : TE} {f : Str} {pos : Pos} (ha : PE X o ta) (hb : attributeBase o f X.env (eval o X.env) = eval o X.env) : PE X (.Attribute o f pos) (tFld K ta f) := by
  subst e
  exact pe_fld ha hb
theorem ix_list_K {X : Cx} {K : PySem.W.Frag} (e : X.K = K) : IxR X (rIxL K) := by
  subst e
  exact ix_list
theorem op_catA_K {X : Cx} {K : PySem.W.Frag} (e : X.K = K) : OpR X (binaryOp .Add) (rCatA K) := by
  subst e
  exact op_catA
def rTupK (K : PySem.W.Frag) : List V → Hp → VK → Prop := fun xs H Q => ∃ p ys, xs = [V.ref p] ∧ ((SqL K H p ys ∧ ∀ l, H l = none → Q (.ref l) (upd H l (.tup ys))) ∨ (SqT K H p ys ∧ Q (.ref p) H))
theorem call_tuple_K {X : Cx} {K : PySem.W.Frag} (e : X.K = K) : CallR X (.type "tuple") (rTupK K) := by
  subst e
  exact call_tuple_of
def rListK (K : PySem.W.Frag) : List V → Hp → VK → Prop := fun xs H Q => ∃ p ys, xs = [V.ref p] ∧ (SqL K H p ys ∨ SqT K H p ys) ∧ ∀ l, H l = none → Q (.ref l) (upd H l (.lst ys))
theorem call_list_K {X : Cx} {K : PySem.W.Frag} (e : X.K = K) : CallR X (.type "list") (rListK K) := by
  subst e
  exact call_list_of
def rLenK (K : PySem.W.Frag) : List V → Hp → VK → Prop := fun xs H Q => ∃ p ys, xs = [V.ref p] ∧ (SqL K H p ys ∨ SqT K H p ys) ∧ Q (.int (ys.length : Nat)) H
theorem call_len_K {X : Cx} {K : PySem.W.Frag} (e : X.K = K) : CallR X (.builtin "len") (rLenK K) := by
  subst e
  exact call_len_seq
theorem call_min_K {X : Cx} {K : PySem.W.Frag} (e : X.K = K) (hc : X.calm = true) : CallR X (.builtin "min") (rMin K) := by
  subst e
  exact cr_min hc
theorem call_max_K {X : Cx} {K : PySem.W.Frag} (e : X.K = K) (hc : X.calm = true) : CallR X (.builtin "max") (rMax K) := by
  subst e
  exact cr_max hc
theorem call_sum_K {X : Cx} {K : PySem.W.Frag} (e : X.K = K) (hc : X.calm = true) : CallR X (.builtin "sum") (rSum K) := by
  subst e
  exact cr_sum hc
theorem mt_index_K {X : Cx} {K : PySem.W.Frag} (e : X.K = K) : MtR X "list.index" (rIndex K) := by
  subst e
  exact mt_index
theorem hu65 {k : Nat} {A : Around} (hr : Room k A) : A.units + 65 < cLine := by have := hr.un; omega
theorem putF_len (f : Str) (v : V) : ∀ fs : List (Str × V), (putF f v fs).length ≤ fs.length + 1
  | [] => Nat.le_refl _
  | (g, u) :: r => by
    rw [putF]
    split
    · exact Nat.le_succ _
    · exact Nat.succ_le_succ (putF_len f v r)
theorem Same.upd0 {H H' : Hp} {a : Addr} {o : HO} (n : H a = none) (s : Same (upd H a o) H') : Same H H' := (Same.new n).trans s
theorem Same.at {H H' : Hp} {a : Addr} {o : HO} (s : Same (upd H a o) H') : H' a = some o := s a o upd_same
/-- a comprehension whose turns leave what was: of the turns i with p i the value ys i -/
theorem lc_fl {J : L2.It} {n : Nat} {G : Hp → Prop} {Y : Nat → Hp → V → Hp → Prop} (w : Walk J n G Y) (p : Nat → Bool) (ys : Nat → V) (hn : n < sizeLine) {g : TG} {tt : TT} {te : TE} {vs : List Nat} {σ : L2.St} {H1 : Hp} {D : Addr} {Qd : Hp → Prop} (hD : H1 D = none)
    (hG : ∀ H, Same H1 H → G H)
    (hs : ∀ i x H H' (N : VK) (M : Hp → Prop), i < n → Same H1 H → Y i H x H' → (p i = true → ∀ H4, Same H H4 → N (ys i) H4) → (p i = false → ∀ H4, Same H H4 → M H4) →
      g x (wipe σ vs) H' fun σ2 H2 => wipe σ2 vs = wipe σ vs ∧ tt σ2 H2 fun b H3 => if b = true then te σ2 H3 N else M H3)
    (hd : ∀ H, Same H1 H → H D = some (.lst (((List.range n).filter p).map ys)) → Qd H) :
    ∃ W : Nat → Nat → Hp → Prop, (∃ m, W 0 m (upd H1 D (.lst []))) ∧ ∀ i m H, W i m H →
      (J.stop i H ∧ Qd H) ∨ (J.go i H ∧ ∃ Nx : Hp → Prop, (∀ H', Nx H' → ∃ m', m' < m ∧ W (i + 1) m' H') ∧ ∀ x H', J.yld i H x H' → g x (wipe σ vs) H' fun σ2 H2 => wipe σ2 vs = wipe σ vs ∧ tt σ2 H2 fun b H3 =>
        if b = true then te σ2 H3 fun y H4 => ∃ acc, H4 D = some (.lst acc) ∧ acc.length < sizeLine ∧ Nx (upd H4 D (.lst (acc ++ [y]))) else Nx H3) := by
  have pre : ∀ i, (((List.range i).filter p).map ys).length ≤ i := fun i => by
    rw [List.length_map]
    exact Nat.le_trans (List.length_filter_le _ _) (by rw [List.length_range]; exact Nat.le_refl _)
  refine lc_it w (fun i H => Same H1 H ∧ H D = some (.lst (((List.range i).filter p).map ys))) ⟨Same.new hD, upd_same⟩ (fun i H _ h => hG H h.1) (fun i x H H' hi h y => ?_) fun H h => hd H h.1 h.2
  have st : ((List.range (i + 1)).filter p).map ys = ((List.range i).filter p).map ys ++ (if p i = true then [ys i] else []) := by
    rw [List.range_succ, List.filter_append, List.map_append]
    cases e : p i <;> simp [List.filter, e]
  refine hs i x H H' _ _ hi h.1 y (fun e H4 s4 => ?_) fun e H4 s4 => ?_
  · refine ⟨_, s4 _ _ h.2, Nat.lt_of_le_of_lt (pre i) (Nat.lt_trans hi hn), Same.over (h.1.trans s4) hD, ?_⟩
    rw [upd_same, st, if_pos e]
  · refine ⟨h.1.trans s4, ?_⟩
    rw [s4 _ _ h.2, st, e, if_neg (by decide), List.append_nil]
theorem filter_all {α : Type} (xs : List α) : xs.filter (fun _ => true) = xs := by
  induction xs with
  | nil => rfl
  | cons x r ih => simp [List.filter, ih]
/-- every turn gives a value -/
theorem lc_mk {J : L2.It} {n : Nat} {G : Hp → Prop} {Y : Nat → Hp → V → Hp → Prop} (w : Walk J n G Y) (ys : Nat → V) (hn : n < sizeLine) {g : TG} {te : TE} {vs : List Nat} {σ : L2.St} {H1 : Hp} {D : Addr} {Qd : Hp → Prop} (hD : H1 D = none)
    (hG : ∀ H, Same H1 H → G H)
    (hs : ∀ i x H H' (N : VK), i < n → Same H1 H → Y i H x H' → (∀ H4, Same H H4 → N (ys i) H4) → g x (wipe σ vs) H' fun σ2 H2 => wipe σ2 vs = wipe σ vs ∧ te σ2 H2 N)
    (hd : ∀ H, Same H1 H → H D = some (.lst ((List.range n).map ys)) → Qd H) :
    ∃ W : Nat → Nat → Hp → Prop, (∃ m, W 0 m (upd H1 D (.lst []))) ∧ ∀ i m H, W i m H →
      (J.stop i H ∧ Qd H) ∨ (J.go i H ∧ ∃ Nx : Hp → Prop, (∀ H', Nx H' → ∃ m', m' < m ∧ W (i + 1) m' H') ∧ ∀ x H', J.yld i H x H' → g x (wipe σ vs) H' fun σ2 H2 => wipe σ2 vs = wipe σ vs ∧ tYes σ2 H2 fun b H3 =>
        if b = true then te σ2 H3 fun y H4 => ∃ acc, H4 D = some (.lst acc) ∧ acc.length < sizeLine ∧ Nx (upd H4 D (.lst (acc ++ [y]))) else Nx H3) :=
  lc_fl w (fun _ => true) ys hn hD hG (fun i x H H' N M hi s y h1 _ => hs i x H H' N hi s y (h1 rfl)) (by rw [filter_all]; exact hd)
/-- every turn gives a new list, of the row i -/
theorem lc_new {J : L2.It} {n : Nat} {G : Hp → Prop} {Y : Nat → Hp → V → Hp → Prop} (w : Walk J n G Y) (row : Nat → List V) (hn : n < sizeLine) {g : TG} {te : TE} {vs : List Nat} {σ : L2.St} {H1 : Hp} {D : Addr} {Qd : Hp → Prop} (hD : H1 D = none)
    (hG : ∀ H, Same H1 H → G H)
    (hs : ∀ i x H H' (N : VK), i < n → Same H1 H → Y i H x H' → (∀ H4 q, Same H H4 → H q = none → H4 q = some (.lst (row i)) → N (.ref q) H4) → g x (wipe σ vs) H' fun σ2 H2 => wipe σ2 vs = wipe σ vs ∧ te σ2 H2 N)
    (hd : ∀ (H : Hp) (ts : List Addr), Same H1 H → H D = some (.lst (ts.map V.ref)) → ts.length = n → (∀ i t, ts[i]? = some t → H1 t = none ∧ t ≠ D ∧ H t = some (.lst (row i))) → Qd H) :
    ∃ W : Nat → Nat → Hp → Prop, (∃ m, W 0 m (upd H1 D (.lst []))) ∧ ∀ i m H, W i m H →
      (J.stop i H ∧ Qd H) ∨ (J.go i H ∧ ∃ Nx : Hp → Prop, (∀ H', Nx H' → ∃ m', m' < m ∧ W (i + 1) m' H') ∧ ∀ x H', J.yld i H x H' → g x (wipe σ vs) H' fun σ2 H2 => wipe σ2 vs = wipe σ vs ∧ tYes σ2 H2 fun b H3 =>
        if b = true then te σ2 H3 fun y H4 => ∃ acc, H4 D = some (.lst acc) ∧ acc.length < sizeLine ∧ Nx (upd H4 D (.lst (acc ++ [y]))) else Nx H3) := by
  refine lc_it w (fun i H => Same H1 H ∧ ∃ ts : List Addr, H D = some (.lst (ts.map V.ref)) ∧ ts.length = i ∧ ∀ j t, ts[j]? = some t → H1 t = none ∧ t ≠ D ∧ H t = some (.lst (row j))) ⟨Same.new hD, [], upd_same, rfl, fun j t e => by simp at e⟩ (fun i H _ h => hG H h.1) (fun i x H H' hi h y => ?_) fun H h => ?_
  · obtain ⟨s, ts, eD, el, et⟩ := h
    refine hs i x H H' _ hi s y fun H4 q s4 nq eq => ?_
    have qD : q ≠ D := fun z => by rw [z, eD] at nq; cases nq
    refine ⟨_, s4 _ _ eD, by rw [List.length_map, el]; exact Nat.lt_trans hi hn, Same.over (s.trans s4) hD, ts ++ [q], ?_, by rw [List.length_append, el]; rfl, fun j t ej => ?_⟩
    · rw [upd_same, List.map_append]
      rfl
    · rcases Nat.lt_trichotomy j ts.length with h1 | h1 | h1
      · rw [List.getElem?_append_left h1] at ej
        obtain ⟨f1, f2, f3⟩ := et j t ej
        exact ⟨f1, f2, by rw [upd_ne f2]; exact s4 _ _ f3⟩
      · subst h1
        have e2 : q = t := by simpa using ej
        subst e2
        refine ⟨?_, qD, by rw [upd_ne qD, el]; exact eq⟩
        cases z : H1 q with
        | none => rfl
        | some o => rw [s q o z] at nq; cases nq
      · rw [List.getElem?_eq_none (by rw [List.length_append, List.length_singleton]; omega)] at ej
        cases ej
  · obtain ⟨s, ts, eD, el, et⟩ := h
    exact hd H ts s eD el et
/-- the method m of the class C keeps sp, by k levels -/
structure Kmt (P : Program) (w : World) (K : PySem.W.Frag) (mg : Str → Option Value) (base : Heap) (C : Addr) (k : Nat) (m : Str) (ps : List Str) (sp : Sp) : Prop where
  ex : ∃ f fd, Meth K C m f ∧ FnOk P w K mg base CX0 k f fd ps sp ∧ Binds K fd ps []
  cl : Cls K C
theorem pe_mt {X : Cx} {k j : Nat} {C : Addr} {m : Str} {ps : List Str} {sp : Sp} {o e : Expr} {es : List Expr} {ta : TE} {t : TA} {apos pos : Pos} {pl : Sem Bool} (c : Kmt X.prog X.w X.K X.mg X.base C k m ps sp) (hr : Room j X.A) (he : PE X o ta) (ha : PA X (e :: es) t) (hk : k ≤ j := by decide)
    (hst : starEach (e :: es) X.env = (false, eval e X.env) :: starEach es X.env := by rfl) (hpl : (backTo pos (starEach es X.env)).any (·.1) = false := by rfl)
    (ht : eval (.Call (.Attribute o m apos) (e :: es) [] pos) X.env = (do
      let ov ← eval o X.env; standAt apos.atName
      let (f, first) ← holding [ov] (getMethod ov m pl)
      callWith pos f first (backTo pos (starEach (e :: es) X.env)) (backToKw pos (keywordEach [] X.env))) := by rfl) :
    PE X (.Call (.Attribute o m apos) (e :: es) [] pos) (tMeth C m sp [] E0 ta t) := by
  obtain ⟨f, fd, hm, F, b⟩ := c.ex
  exact pe_meth he c.cl hm F (hr.mono hk) b .nil pass0 ha hst hpl ht
theorem pi_list_K {X : Cx} {K : PySem.W.Frag} (eK : X.K = K) {tg l : Expr} {tl : TE} (h : PE X l tl) : PI X tg l (iList K tl) := by
  subst eK
  exact pi_list h
theorem pi_zip_K {X : Cx} {K : PySem.W.Frag} (eK : X.K = K) {e e2 : Expr} {ta : TA} {p pos tpos : Pos} {elts : List Expr} {kk : Nat} (hg : Gl X "zip") (hm : X.mg "zip" = none) (ha : PA X [e, e2] ta)
    (hs : starEach [e, e2] X.env = (false, eval e X.env) :: starEach [e2] X.env := by rfl) (hpl : (backTo pos (starEach [e2] X.env)).any (·.1) = false := by rfl) :
    PI X (.Tuple elts kk tpos) (.Call (.Name "zip" p) [e, e2] [] pos) (iZip K ta) := by
  subst eK
  exact pi_zip hg hm ha hs hpl
theorem sqt_same {K : PySem.W.Frag} {H H' : Hp} {t : Addr} {xs : List V} (s : Same H H') (e : SqT K H t xs) : SqT K H' t xs := by
  rcases e with (h | ⟨o, h⟩) | h
  · exact .inl (.inl (s _ _ h))
  · exact .inl (.inr ⟨o, s _ _ h⟩)
  · exact .inr h
theorem pe_mt0 {X : Cx} {k j : Nat} {C : Addr} {m : Str} {ps : List Str} {sp : Sp} {o : Expr} {ta : TE} {apos pos : Pos} {pl : Sem Bool} (c : Kmt X.prog X.w X.K X.mg X.base C k m ps sp) (hr : Room j X.A) (he : PE X o ta) (hk : k ≤ j := by decide)
    (ht : eval (.Call (.Attribute o m apos) [] [] pos) X.env = (do
      let ov ← eval o X.env; standAt apos.atName
      let (f, first) ← holding [ov] (getMethod ov m pl)
      callWith pos f first (backTo pos (starEach [] X.env)) (backToKw pos (keywordEach [] X.env))) := by rfl) :
    PE X (.Call (.Attribute o m apos) [] [] pos) (tMeth C m sp [] E0 ta tNil) := by
  obtain ⟨f, fd, hm, F, b⟩ := c.ex
  exact pe_meth0 he c.cl hm F (hr.mono hk) b .nil pass0 ht
/-- the class C is made by an __init__ that keeps sp, by k levels -/
structure Kmk (P : Program) (w : World) (K : PySem.W.Frag) (mg : Str → Option Value) (base : Heap) (C : Addr) (k : Nat) (ps : List Str) (sp : Sp) : Prop where
  ex : ∃ f fd, Mk K C f ∧ FnOk P w K mg base CX0 k f fd ps sp ∧ Binds K fd ps []
theorem pe_mk {X : Cx} {k j : Nat} {C : Addr} {x : Str} {ps : List Str} {sp : Sp} {e : Expr} {es : List Expr} {t : TA} {p pos : Pos} (c : Kmk X.prog X.w X.K X.mg X.base C k ps sp) (hm : X.mg x = some (.ref C)) (hr : Room j X.A) (ha : PA X (e :: es) t) (hk : k + 1 ≤ j := by decide) (hg : Gl X x := by rfl)
    (hdb : (x == ("__debug__" : Str)) = false := by decide) (he : starEach (e :: es) X.env = (false, eval e X.env) :: starEach es X.env := by rfl) (hpl : (backTo pos (starEach es X.env)).any (·.1) = false := by rfl) :
    PE X (.Call (.Name x p) (e :: es) [] pos) (tMake C sp [] E0 t) := by
  obtain ⟨f, fd, M, F, b⟩ := c.ex
  exact pe_make M F (hr.mono hk) hg hm b .nil pass0 ha hdb he hpl
end Ow
/-! the policy's mathematics -/
namespace Po
def gI (xs : List Int) (i : Nat) : Int := xs.getD i 0
def gR (W : List (List Int)) (i : Nat) : List Int := W.getD i []
def minL : List Int → Int
  | [] => 0
  | [x] => x
  | x :: y :: r => if x ≤ minL (y :: r) then x else minL (y :: r)
theorem minL_mem : ∀ {xs : List Int}, xs ≠ [] → minL xs ∈ xs
  | [], h => absurd rfl h
  | [x], _ => List.mem_singleton.mpr rfl
  | x :: y :: r, _ => by
    rw [minL]
    split
    · exact List.mem_cons_self
    · exact List.mem_cons_of_mem _ (minL_mem (by simp))
theorem minL_le : ∀ {xs : List Int} {y : Int}, y ∈ xs → minL xs ≤ y
  | [], y, h => nomatch h
  | [x], y, h => by rw [List.mem_singleton.mp h]; exact Int.le_refl _
  | x :: z :: r, y, h => by
    rw [minL]
    rcases List.mem_cons.mp h with e | m
    · split <;> omega
    · have := minL_le m
      split <;> omega
theorem minL_eq {xs : List Int} {m : Int} (h : m ∈ xs) (l : ∀ y ∈ xs, m ≤ y) : m = minL xs :=
  Int.le_antisymm (l _ (minL_mem (fun e => by rw [e] at h; cases h))) (minL_le h)
def argL (xs : List Int) : Nat := xs.findIdx fun x => decide (x = minL xs)
theorem argL_lt {xs : List Int} (h : xs ≠ []) : argL xs < xs.length :=
  List.findIdx_lt_length_of_exists ⟨_, minL_mem h, by simp⟩
theorem argL_at {xs : List Int} (h : xs ≠ []) : xs[argL xs]? = some (minL xs) := by
  have l := argL_lt h
  rw [List.getElem?_eq_getElem l]
  have e := List.findIdx_getElem (xs := xs) (p := fun x => decide (x = minL xs)) (w := l)
  exact congrArg some (of_decide_eq_true e)
theorem argL_no {xs : List Int} {m : Nat} {z : Int} (h : m < argL xs) (e : xs[m]? = some z) : z ≠ minL xs := by
  have := List.not_of_lt_findIdx h
  obtain ⟨l, e⟩ := List.getElem?_eq_some_iff.mp e
  rw [e] at this
  simpa using this
theorem argL_eq {xs : List Int} {j : Nat} (h : xs[j]? = some (minL xs)) (n : ∀ m z, m < j → xs[m]? = some z → z ≠ minL xs) : argL xs = j := by
  have ne : xs ≠ [] := fun e => by rw [e] at h; simp at h
  rcases Nat.lt_trichotomy (argL xs) j with a | a | a
  · exact absurd rfl (n _ _ a (argL_at ne))
  · exact a
  · exact absurd rfl (argL_no a h)
/-- by places -/
def mk (n : Nat) (f : Nat → Int) : List Int := (List.range n).map f
theorem mk_len (n : Nat) (f : Nat → Int) : (mk n f).length = n := by simp [mk]
theorem mk_at {n : Nat} {f : Nat → Int} {i : Nat} (h : i < n) : (mk n f)[i]? = some (f i) := by simp [mk, h]
theorem gI_at {xs : List Int} {i : Nat} {v : Int} (h : xs[i]? = some v) : gI xs i = v := by unfold gI; rw [List.getD_eq_getElem?_getD, h]; rfl
theorem gI_mk {n : Nat} {f : Nat → Int} {i : Nat} (h : i < n) : gI (mk n f) i = f i := gI_at (mk_at h)
theorem at_gI {xs : List Int} {i : Nat} (h : i < xs.length) : xs[i]? = some (gI xs i) := by
  rw [List.getElem?_eq_getElem h]
  exact congrArg some (gI_at (List.getElem?_eq_getElem h)).symm
theorem gR_at {W : List (List Int)} {i : Nat} {v : List Int} (h : W[i]? = some v) : gR W i = v := by unfold gR; rw [List.getD_eq_getElem?_getD, h]; rfl
theorem at_gR {W : List (List Int)} {i : Nat} (h : i < W.length) : W[i]? = some (gR W i) := by
  rw [List.getElem?_eq_getElem h]
  exact congrArg some (gR_at (List.getElem?_eq_getElem h)).symm
theorem mk_ne {n : Nat} {f : Nat → Int} (h : 0 < n) : mk n f ≠ [] := fun e => by have := mk_len n f; rw [e] at this; simp at this; omega
theorem mk_self (xs : List Int) : mk xs.length (gI xs) = xs := by
  apply List.ext_getElem?
  intro i
  by_cases h : i < xs.length
  · rw [mk_at h, at_gI h]
  · rw [List.getElem?_eq_none (by rw [mk_len]; omega), List.getElem?_eq_none (by omega)]
theorem mem_mk {n : Nat} {f : Nat → Int} {y : Int} : y ∈ mk n f ↔ ∃ i, i < n ∧ y = f i := by
  simp only [mk, List.mem_map, List.mem_range]
  exact ⟨fun ⟨i, a, b⟩ => ⟨i, a, b.symm⟩, fun ⟨i, a, b⟩ => ⟨i, a, b.symm⟩⟩
theorem minmk_le {n : Nat} {f : Nat → Int} {i : Nat} (h : i < n) : minL (mk n f) ≤ f i := minL_le (mem_mk.mpr ⟨i, h, rfl⟩)
theorem minmk_ex {n : Nat} {f : Nat → Int} (h : 0 < n) : ∃ i, i < n ∧ minL (mk n f) = f i := mem_mk.mp (minL_mem (mk_ne h))
theorem argmk {n : Nat} {f : Nat → Int} (h : 0 < n) : argL (mk n f) < n ∧ minL (mk n f) = f (argL (mk n f)) := by
  have l := argL_lt (mk_ne (f := f) h)
  rw [mk_len] at l
  refine ⟨l, ?_⟩
  have a := argL_at (mk_ne (f := f) h)
  rw [mk_at l] at a
  exact (Option.some.inj a).symm
/-- the prices: what stands, and the ways -/
structure Pr where
  n : Nat
  S : List Int
  W : List (List Int)
  start : Nat
def goF (c : Pr) (x y : Nat) : Int := (gI (gR c.W x) y + gI c.S y - gI c.S x) / 2
def sumF (c : Pr) (w e : List Int) (p i : Nat) : Int := gI w i + 2 * gI e i + gI (gR c.W i) p
def sums (c : Pr) (w e : List Int) (p : Nat) : List Int := mk c.n (sumF c w e p)
def stepW (c : Pr) (w e : List Int) : List Int := mk c.n fun p => minL (sums c w e p)
def wk (c : Pr) (T : List (List Int)) : List Int := T.foldl (stepW c) (gR c.W c.start)
structure Good (c : Pr) : Prop where
  pos : 0 < c.n
  s : c.S.length = c.n
  w : c.W.length = c.n
  r : ∀ i, i < c.n → (gR c.W i).length = c.n
  st : c.start < c.n
  self : ∀ i, i < c.n → gI (gR c.W i) i = 0
  go : ∀ x y, x < c.n → y < c.n → 0 ≤ gI (gR c.W x) y + gI c.S y - gI c.S x ∧ (gI (gR c.W x) y + gI c.S y - gI c.S x) % 2 = 0
theorem go2 {c : Pr} (g : Good c) {x y : Nat} (hx : x < c.n) (hy : y < c.n) : 2 * goF c x y = gI (gR c.W x) y + gI c.S y - gI c.S x := by
  have := (g.go x y hx hy).2
  unfold goF
  omega
/-- what the best plan to each layout spends -/
def F0 (c : Pr) : List (Option Int) := (List.range c.n).map fun x => if x = c.start then some 0 else none
def oV : Option Int → Int | some v => v | none => 0
def oG (xs : List (Option Int)) (i : Nat) : Option Int := (xs[i]?).join
def fwdF (c : Pr) (F : List (Option Int)) (e : List Int) (y : Nat) : Int := minL (((List.range c.n).filter fun x => (oG F x).isSome).map fun x => oV (oG F x) + goF c x y) + gI e y
def fwd (c : Pr) (F : List (Option Int)) (e : List Int) : List (Option Int) := (List.range c.n).map fun y => some (fwdF c F e y)
def fw (c : Pr) (T : List (List Int)) : List (Option Int) := T.foldl (fwd c) (F0 c)
theorem oG_F0 {c : Pr} {x : Nat} (h : x < c.n) : oG (F0 c) x = if x = c.start then some 0 else none := by unfold oG F0; simp [h]
theorem oG_fwd {c : Pr} {F : List (Option Int)} {e : List Int} {y : Nat} (h : y < c.n) : oG (fwd c F e) y = some (fwdF c F e y) := by unfold oG fwd; simp [h]
/-- the works are the least of the ways on from the best plans -/
structure Rel (c : Pr) (w : List Int) (F : List (Option Int)) : Prop where
  le : ∀ s x v, s < c.n → x < c.n → oG F x = some v → gI w s ≤ 2 * v - gI c.S x + gI c.S c.start + gI (gR c.W x) s
  ex : ∀ s, s < c.n → ∃ x v, x < c.n ∧ oG F x = some v ∧ gI w s = 2 * v - gI c.S x + gI c.S c.start + gI (gR c.W x) s
theorem rel0 {c : Pr} (g : Good c) : Rel c (gR c.W c.start) (F0 c) := by
  refine ⟨fun s x v hs hx e => ?_, fun s hs => ⟨c.start, 0, g.st, by rw [oG_F0 g.st, if_pos rfl], by omega⟩⟩
  rw [oG_F0 hx] at e
  split at e
  · rename_i z
    cases e
    subst z
    omega
  · cases e
theorem minfl_le {c : Pr} {F : List (Option Int)} {f : Nat → Int} {x : Nat} {v : Int} (hx : x < c.n) (e : oG F x = some v) : minL (((List.range c.n).filter fun x => (oG F x).isSome).map f) ≤ f x :=
  minL_le (List.mem_map.mpr ⟨x, List.mem_filter.mpr ⟨List.mem_range.mpr hx, by rw [e]; rfl⟩, rfl⟩)
theorem minfl_ex {c : Pr} {F : List (Option Int)} {f : Nat → Int} {x : Nat} {v : Int} (hx : x < c.n) (e : oG F x = some v) :
    ∃ y u, y < c.n ∧ oG F y = some u ∧ minL (((List.range c.n).filter fun x => (oG F x).isSome).map f) = f y := by
  have m : f x ∈ (((List.range c.n).filter fun x => (oG F x).isSome).map f) := List.mem_map.mpr ⟨x, List.mem_filter.mpr ⟨List.mem_range.mpr hx, by rw [e]; rfl⟩, rfl⟩
  obtain ⟨y, my, ey⟩ := List.mem_map.mp (minL_mem (List.ne_nil_of_mem m))
  obtain ⟨a, b⟩ := List.mem_filter.mp my
  cases z : oG F y with
  | none => rw [z] at b; cases b
  | some u => exact ⟨y, u, List.mem_range.mp a, z, ey.symm⟩
/-- the best plan to y, in works -/
theorem best_eq {c : Pr} (g : Good c) {w : List Int} {F : List (Option Int)} (r : Rel c w F) {e : List Int} {y : Nat} (hy : y < c.n) :
    2 * fwdF c F e y - gI c.S y + gI c.S c.start = gI w y + 2 * gI e y := by
  obtain ⟨x0, v0, hx0, e0, q0⟩ := r.ex y hy
  obtain ⟨x1, v1, hx1, e1, q1⟩ := minfl_ex (c := c) (F := F) (f := fun x => oV (oG F x) + goF c x y) hx0 e0
  have l0 := minfl_le (c := c) (F := F) (f := fun x => oV (oG F x) + goF c x y) hx0 e0
  have l1 := r.le y x1 v1 hy hx1 e1
  have g0 := go2 g hx0 hy
  have g1 := go2 g hx1 hy
  have k0 : oV (oG F x0) = v0 := by rw [e0]; rfl
  have k1 : oV (oG F x1) = v1 := by rw [e1]; rfl
  unfold fwdF
  simp only [k0] at l0
  simp only [k1] at q1
  omega
theorem rel_step {c : Pr} (g : Good c) {w : List Int} {F : List (Option Int)} (r : Rel c w F) (e : List Int) : Rel c (stepW c w e) (fwd c F e) := by
  refine ⟨fun s x v hs hx ex => ?_, fun s hs => ?_⟩
  · rw [oG_fwd hx] at ex
    have ev := Option.some.inj ex
    have b := best_eq g r (e := e) hx
    have l := minmk_le (f := sumF c w e s) hx
    unfold stepW
    rw [gI_mk hs]
    unfold sums
    have : sumF c w e s x = gI w x + 2 * gI e x + gI (gR c.W x) s := rfl
    omega
  · obtain ⟨x, hx, q⟩ := minmk_ex (f := sumF c w e s) g.pos
    have b := best_eq g r (e := e) hx
    refine ⟨x, _, hx, oG_fwd hx, ?_⟩
    unfold stepW
    rw [gI_mk hs]
    unfold sums
    have : sumF c w e s x = gI w x + 2 * gI e x + gI (gR c.W x) s := rfl
    omega
theorem rel_all {c : Pr} (g : Good c) (T : List (List Int)) : Rel c (wk c T) (fw c T) := by
  unfold wk fw
  suffices h : ∀ (T : List (List Int)) w F, Rel c w F → Rel c (T.foldl (stepW c) w) (T.foldl (fwd c) F) from h T _ _ (rel0 g)
  intro T
  induction T with
  | nil => exact fun w F r => r
  | cons e T ih => exact fun w F r => ih _ _ (rel_step g r e)
def least (c : Pr) (T : List (List Int)) : Int := minL ((fw c T).filterMap id)
theorem fw_len {c : Pr} : ∀ (T : List (List Int)), (fw c T).length = c.n := by
  intro T
  unfold fw
  suffices h : ∀ (T : List (List Int)) F, F.length = c.n → (T.foldl (fwd c) F).length = c.n from h T _ (by simp [F0])
  intro T
  induction T with
  | nil => exact fun F h => h
  | cons e T ih => exact fun F h => ih _ (by simp [fwd])
theorem mem_ids {xs : List (Option Int)} {n : Nat} (l : xs.length = n) {v : Int} : v ∈ xs.filterMap id ↔ ∃ x, x < n ∧ oG xs x = some v := by
  rw [List.mem_filterMap]
  constructor
  · rintro ⟨a, ma, ea⟩
    obtain ⟨x, hx⟩ := List.mem_iff_getElem?.mp ma
    refine ⟨x, by rw [← l]; exact (List.getElem?_eq_some_iff.mp hx).1, ?_⟩
    unfold oG
    rw [hx]
    exact ea
  · rintro ⟨x, hx, e⟩
    unfold oG at e
    cases z : xs[x]? with
    | none => rw [z] at e; cases e
    | some a => rw [z] at e; exact ⟨a, List.mem_of_getElem? z, e⟩
def ends (c : Pr) (w : List Int) : List Int := mk c.n fun s => gI w s + gI c.S s
theorem ends_least {c : Pr} (g : Good c) (T : List (List Int)) : minL (ends c (wk c T)) = 2 * least c T + gI c.S c.start := by
  have r := rel_all g T
  obtain ⟨s, hs, q⟩ := minmk_ex (f := fun s => gI (wk c T) s + gI c.S s) g.pos
  obtain ⟨x, v, hx, ex, qx⟩ := r.ex s hs
  have m : v ∈ (fw c T).filterMap id := (mem_ids (fw_len T)).mpr ⟨x, hx, ex⟩
  have l1 := minL_le m
  have g1 := (g.go x s hx hs).1
  obtain ⟨y, hy, ey⟩ := (mem_ids (fw_len T)).mp (minL_mem (List.ne_nil_of_mem m))
  have l2 := r.le y y _ hy hy ey
  have l3 := minmk_le (f := fun s => gI (wk c T) s + gI c.S s) hy
  have z := g.self y hy
  unfold ends least
  omega
/-- what a plan spends, told from its end -/
def spR (c : Pr) : List (List Int) → List Nat → Int
  | e :: T, p :: ps => spR c T ps + goF c (ps.headD c.start) p + gI e p
  | _, _ => 0
/-- no plan spends less than the best one to its end -/
theorem low {c : Pr} (g : Good c) : ∀ (T : List (List Int)) (ps : List Nat), T.length = ps.length → (∀ p ∈ ps, p < c.n) → ∃ v, oG (fw c T.reverse) (ps.headD c.start) = some v ∧ v ≤ spR c T ps
  | [], [], _, _ => ⟨0, by show oG (F0 c) c.start = _; rw [oG_F0 g.st, if_pos rfl], Int.le_refl _⟩
  | [], _ :: _, h, _ => by cases h
  | _ :: _, [], h, _ => by cases h
  | e :: T, p :: ps, h, hp => by
    obtain ⟨v, ev, lv⟩ := low g T ps (Nat.succ.inj h) fun q m => hp q (List.mem_cons_of_mem _ m)
    have hpn := hp p List.mem_cons_self
    have hq : ps.headD c.start < c.n := by
      cases ps with
      | nil => exact g.st
      | cons q r => exact hp q (List.mem_cons_of_mem _ List.mem_cons_self)
    have er : fw c (e :: T).reverse = fwd c (fw c T.reverse) e := by unfold fw; rw [List.reverse_cons, List.foldl_append]; rfl
    refine ⟨fwdF c (fw c T.reverse) e p, by rw [er]; exact oG_fwd hpn, ?_⟩
    have l := minfl_le (c := c) (F := fw c T.reverse) (f := fun x => oV (oG (fw c T.reverse) x) + goF c x p) hq ev
    have k : oV (oG (fw c T.reverse) (ps.headD c.start)) = v := by rw [ev]; rfl
    simp only [k] at l
    show _ ≤ spR c T ps + goF c (ps.headD c.start) p + gI e p
    unfold fwdF
    omega
/-- the plan found backwards, the last task first -/
def back (c : Pr) : List (List Int) → Nat → List Nat
  | [], _ => []
  | e :: T, p => argL (sums c (wk c T.reverse) e p) :: back c T (argL (sums c (wk c T.reverse) e p))
theorem back_len (c : Pr) : ∀ (T : List (List Int)) (p : Nat), (back c T p).length = T.length
  | [], _ => rfl
  | e :: T, p => congrArg Nat.succ (back_len c T _)
theorem back_lt {c : Pr} (g : Good c) : ∀ (T : List (List Int)) (p : Nat), ∀ q ∈ back c T p, q < c.n
  | [], _, q, h => nomatch h
  | e :: T, p, q, h => by
    rcases List.mem_cons.mp h with z | z
    · rw [z]; exact (argmk g.pos).1
    · exact back_lt g T _ q z
theorem wk_cons {c : Pr} (e : List Int) (T : List (List Int)) : wk c (e :: T).reverse = stepW c (wk c T.reverse) e := by unfold wk; rw [List.reverse_cons, List.foldl_append]; rfl
theorem back_sp {c : Pr} (g : Good c) : ∀ (T : List (List Int)) (p : Nat), p < c.n →
    gI (wk c T.reverse) p = 2 * spR c T (back c T p) + gI c.S c.start - gI c.S ((back c T p).headD c.start) + gI (gR c.W ((back c T p).headD c.start)) p
  | [], p, hp => by
    show gI (gR c.W c.start) p = 2 * 0 + gI c.S c.start - gI c.S c.start + gI (gR c.W c.start) p
    omega
  | e :: T, p, hp => by
    have a : argL (sums c (wk c T.reverse) e p) < c.n ∧ minL (sums c (wk c T.reverse) e p) = sumF c (wk c T.reverse) e p (argL (sums c (wk c T.reverse) e p)) := argmk g.pos
    have ih := back_sp g T (argL (sums c (wk c T.reverse) e p)) a.1
    have hq : (back c T (argL (sums c (wk c T.reverse) e p))).headD c.start < c.n := by
      cases z : back c T (argL (sums c (wk c T.reverse) e p)) with
      | nil => exact g.st
      | cons q r => exact back_lt g T (argL (sums c (wk c T.reverse) e p)) q (by rw [z]; exact List.mem_cons_self)
    have g2 := go2 g hq a.1
    rw [wk_cons]
    unfold stepW
    rw [gI_mk hp]
    have b := a.2
    show minL (sums c (wk c T.reverse) e p) = 2 * (spR c T (back c T (argL (sums c (wk c T.reverse) e p))) + goF c ((back c T (argL (sums c (wk c T.reverse) e p))).headD c.start) (argL (sums c (wk c T.reverse) e p)) + gI e (argL (sums c (wk c T.reverse) e p)))
      + gI c.S c.start - gI c.S (argL (sums c (wk c T.reverse) e p)) + gI (gR c.W (argL (sums c (wk c T.reverse) e p))) p
    have s : sumF c (wk c T.reverse) e p (argL (sums c (wk c T.reverse) e p)) = gI (wk c T.reverse) (argL (sums c (wk c T.reverse) e p)) + 2 * gI e (argL (sums c (wk c T.reverse) e p)) + gI (gR c.W (argL (sums c (wk c T.reverse) e p))) p := rfl
    rw [b, s, ih]
    omega
theorem plan_least {c : Pr} (g : Good c) (T : List (List Int)) : spR c T (back c T (argL (ends c (wk c T.reverse)))) = least c T.reverse := by
  have a := argmk (n := c.n) (f := fun s => gI (wk c T.reverse) s + gI c.S s) g.pos
  have b := back_sp g T (argL (ends c (wk c T.reverse))) a.1
  have d := ends_least g T.reverse
  have hq : (back c T (argL (ends c (wk c T.reverse)))).headD c.start < c.n := by
    cases z : back c T (argL (ends c (wk c T.reverse))) with
    | nil => exact g.st
    | cons q r => exact back_lt g T _ q (by rw [z]; exact List.mem_cons_self)
  have go := (g.go _ _ hq a.1).1
  have a2 : minL (ends c (wk c T.reverse)) = gI (wk c T.reverse) (argL (ends c (wk c T.reverse))) + gI c.S (argL (ends c (wk c T.reverse))) := a.2
  have go' : 0 ≤ gI (gR c.W ((back c T (argL (ends c (wk c T.reverse)))).headD c.start)) (argL (ends c (wk c T.reverse))) + gI c.S (argL (ends c (wk c T.reverse))) - gI c.S ((back c T (argL (ends c (wk c T.reverse)))).headD c.start) := go
  obtain ⟨v, ev, lv⟩ := low g T (back c T (argL (ends c (wk c T.reverse)))) (back_len c T _).symm (back_lt g T _)
  have m : least c T.reverse ≤ v := minL_le ((mem_ids (fw_len T.reverse)).mpr ⟨_, hq, ev⟩)
  omega
end Po
namespace Po
theorem stepW_len (c : Pr) (w e : List Int) : (stepW c w e).length = c.n := mk_len _ _
theorem wk_snoc (c : Pr) (T : List (List Int)) (e : List Int) : wk c (T ++ [e]) = stepW c (wk c T) e := by unfold wk; rw [List.foldl_append]; rfl
theorem wk_len {c : Pr} (g : Good c) : ∀ T : List (List Int), (wk c T).length = c.n := by
  intro T
  unfold wk
  suffices h : ∀ (T : List (List Int)) w, w.length = c.n → (T.foldl (stepW c) w).length = c.n from h T _ (g.r _ g.st)
  intro T
  induction T with
  | nil => exact fun w h => h
  | cons e T ih => exact fun w h => ih _ (stepW_len _ _ _)
def worksL (c : Pr) (T : List (List Int)) : List (List Int) := (List.range (T.length + 1)).map fun t => wk c (T.take t)
theorem worksL_len (c : Pr) (T : List (List Int)) : (worksL c T).length = T.length + 1 := by simp [worksL]
theorem worksL_at (c : Pr) {T : List (List Int)} {i : Nat} (h : i ≤ T.length) : (worksL c T)[i]? = some (wk c (T.take i)) := by simp [worksL, show i < T.length + 1 by omega]
theorem worksL_nil (c : Pr) : worksL c [] = [gR c.W c.start] := rfl
theorem worksL_snoc (c : Pr) (T : List (List Int)) (e : List Int) : worksL c (T ++ [e]) = worksL c T ++ [stepW c (wk c T) e] := by
  apply List.ext_getElem?
  intro i
  rcases Nat.lt_trichotomy i (T.length + 1) with h | h | h
  · rw [worksL_at c (by rw [List.length_append]; simp; omega), List.getElem?_append_left (by rw [worksL_len]; omega), worksL_at c (by omega), List.take_append_of_le_length (by omega)]
  · have e1 : i = (worksL c T).length := by rw [worksL_len]; exact h
    rw [worksL_at c (by rw [List.length_append]; simp; omega), List.getElem?_append_right (by omega), e1, Nat.sub_self, worksL_len, List.take_of_length_le (by simp), wk_snoc]
    rfl
  · rw [List.getElem?_eq_none (by rw [worksL_len, List.length_append]; simp; omega), List.getElem?_eq_none (by rw [List.length_append, worksL_len]; simp; omega)]
/-- where the plan that is found backwards is, i tasks from the end -/
def plc (c : Pr) (R : List (List Int)) (p : Nat) (i : Nat) : Nat := (p :: back c R p).getD i 0
theorem back_at (c : Pr) : ∀ (R : List (List Int)) (p i : Nat) (e : List Int), R[i]? = some e → (back c R p)[i]? = some (argL (sums c (wk c (R.drop (i + 1)).reverse) e (plc c R p i)))
  | [], p, i, e, h => by simp at h
  | e' :: R, p, 0, e, h => by
    cases h
    rfl
  | e' :: R, p, i + 1, e, h => by
    have ih := back_at c R (argL (sums c (wk c R.reverse) e' p)) i e h
    exact ih
theorem plc_succ {c : Pr} {R : List (List Int)} {p i q : Nat} (h : (back c R p)[i]? = some q) : plc c R p (i + 1) = q := by
  unfold plc
  rw [List.getD_eq_getElem?_getD, List.getElem?_cons_succ, h]
  rfl
theorem drop_rev {α : Type} (T : List α) (i : Nat) : (T.reverse.drop i).reverse = T.take (T.length - i) := by
  rw [List.drop_reverse, List.reverse_reverse]
theorem rev_at {α : Type} {T : List α} {i : Nat} (h : i < T.length) : T.reverse[i]? = T[T.length - 1 - i]? := List.getElem?_reverse h
end Po
/-! the prices that are drawn -/
namespace Po
def itD : Nat → Int → Int
  | 0, c => c
  | n + 1, c => itD n (c / 100003)
theorem itD_succ (n : Nat) (c : Int) : itD (n + 1) c = itD n c / 100003 := by
  induction n generalizing c with
  | zero => rfl
  | succ n ih => exact ih (c / 100003)
def drawF (ns : List Int) (k : Nat) : Int :=
  if ns.length = 0 then (k : Int) * 5 % 7 else
  if gI ns (k % ns.length) ≥ 1000000000000000000 then itD (min (k / ns.length) 60) (gI ns (k % ns.length)) % 100003
  else (gI ns (k % ns.length) * 48271 + (k : Int) * 69621 + 13) % 2147483647 * 16807 % 2147483629
theorem drawF_nn (ns : List Int) (k : Nat) : 0 ≤ drawF ns k := by
  unfold drawF
  split
  · omega
  · split
    · exact Int.emod_nonneg _ (by decide)
    · exact Int.emod_nonneg _ (by decide)
def nF (ns : List Int) : Nat := (1 + drawF ns 0 % 5).toNat
theorem nF_b (ns : List Int) : 1 ≤ nF ns ∧ nF ns ≤ 5 ∧ ((nF ns : Nat) : Int) = 1 + drawF ns 0 % 5 := by
  unfold nF
  have := Int.emod_nonneg (drawF ns 0) (show (5 : Int) ≠ 0 by decide)
  have := Int.emod_lt_of_pos (drawF ns 0) (show (0 : Int) < 5 by decide)
  omega
def szF (ns : List Int) (k : Nat) : Int := 1 + drawF ns (1 + k) % 30
def szL (ns : List Int) : List Int := mk 4 (szF ns)
def bitF (d : Int) : Nat → Int
  | 0 => d % 2
  | 1 => d / 2 % 2
  | 2 => d / 4 % 2
  | _ => d / 8 % 2
def layL (ns : List Int) (x : Nat) : List Int := [drawF ns (6 + x) % 2, drawF ns (6 + x) / 2 % 2, drawF ns (6 + x) / 4 % 2, drawF ns (6 + x) / 8 % 2]
theorem layL_at (ns : List Int) (x k : Nat) (h : k < 4) : gI (layL ns x) k = bitF (drawF ns (6 + x)) k := by
  match k, h with
  | 0, _ => rfl
  | 1, _ => rfl
  | 2, _ => rfl
  | 3, _ => rfl
def laysL (ns : List Int) : List (List Int) := (List.range (nF ns)).map (layL ns)
def absF (i : Int) : Int := if i < 0 then -i else i
def stF (ns : List Int) (x : Nat) : Int := (mk 4 fun k => gI (szL ns) k * gI (layL ns x) k).sum
def wyF (ns : List Int) (x y : Nat) : Int := (mk 4 fun k => gI (szL ns) k * absF (gI (layL ns x) k - gI (layL ns y) k)).sum
def costF (ns : List Int) : Pr := ⟨nF ns, mk (nF ns) (stF ns), (List.range (nF ns)).map fun x => mk (nF ns) (wyF ns x), (drawF ns 12 % (nF ns : Int)).toNat⟩
theorem costF_start (ns : List Int) : (((costF ns).start : Nat) : Int) = drawF ns 12 % (nF ns : Int) := by
  show ((drawF ns 12 % (nF ns : Int)).toNat : Int) = _
  have b := nF_b ns
  have := Int.emod_nonneg (drawF ns 12) (show ((nF ns : Nat) : Int) ≠ 0 by omega)
  omega
theorem costF_W {ns : List Int} {x : Nat} (h : x < nF ns) : gR (costF ns).W x = mk (nF ns) (wyF ns x) := by
  apply gR_at
  show ((List.range (nF ns)).map fun x => mk (nF ns) (wyF ns x))[x]? = _
  simp [h]
theorem sum4 (f : Nat → Int) : (mk 4 f).sum = f 0 + (f 1 + (f 2 + (f 3 + 0))) := rfl
theorem sz_nn (ns : List Int) {k : Nat} (h : k < 4) : 0 ≤ gI (szL ns) k := by
  unfold szL
  rw [gI_mk h]
  unfold szF
  have := Int.emod_nonneg (drawF ns (1 + k)) (show (30 : Int) ≠ 0 by decide)
  omega
theorem bit01 (d : Int) (k : Nat) : bitF d k = 0 ∨ bitF d k = 1 := by
  unfold bitF
  split <;> omega
theorem one_go {s a b : Int} (hs : 0 ≤ s) (ha : a = 0 ∨ a = 1) (hb : b = 0 ∨ b = 1) : 0 ≤ s * absF (a - b) + s * b - s * a ∧ (s * absF (a - b) + s * b - s * a) % 2 = 0 := by
  rcases ha with rfl | rfl <;> rcases hb with rfl | rfl <;> simp [absF] <;> omega
theorem costF_good (ns : List Int) : Good (costF ns) := by
  have b := nF_b ns
  refine ⟨b.1, mk_len _ _, by show ((List.range (nF ns)).map _).length = _; rw [List.length_map, List.length_range]; rfl, fun i hi => ?_, ?_, fun i (hi : i < nF ns) => ?_, fun x y (hx : x < nF ns) (hy : y < nF ns) => ?_⟩
  · rw [costF_W hi]
    exact mk_len _ _
  · have := costF_start ns
    have := Int.emod_lt_of_pos (drawF ns 12) (show (0 : Int) < (nF ns : Int) by omega)
    show (costF ns).start < nF ns
    omega
  · rw [costF_W hi, gI_mk hi]
    unfold wyF
    rw [sum4]
    simp [absF]
  · rw [costF_W hx, gI_mk hy]
    show 0 ≤ wyF ns x y + gI (mk (nF ns) (stF ns)) y - gI (mk (nF ns) (stF ns)) x ∧ (wyF ns x y + gI (mk (nF ns) (stF ns)) y - gI (mk (nF ns) (stF ns)) x) % 2 = 0
    rw [gI_mk hx, gI_mk hy]
    have o : ∀ k, k < 4 → 0 ≤ gI (szL ns) k * absF (gI (layL ns x) k - gI (layL ns y) k) + gI (szL ns) k * gI (layL ns y) k - gI (szL ns) k * gI (layL ns x) k ∧ (gI (szL ns) k * absF (gI (layL ns x) k - gI (layL ns y) k) + gI (szL ns) k * gI (layL ns y) k - gI (szL ns) k * gI (layL ns x) k) % 2 = 0 := fun k hk => by
      rw [layL_at ns x k hk, layL_at ns y k hk]
      exact one_go (sz_nn ns hk) (bit01 _ _) (bit01 _ _)
    have o0 := o 0 (by decide)
    have o1 := o 1 (by decide)
    have o2 := o 2 (by decide)
    have o3 := o 3 (by decide)
    unfold wyF stF
    rw [sum4, sum4, sum4]
    omega
def taskF (d : Int) (n : Nat) : List Int := mk n fun k => d / (1 + 7 * (k : Int) * (k : Int)) % (if d % 2 = 0 then 4 else 40)
end Po
namespace K1
open PySem PySem.Spec PyProof.Rows L2 Ow Po Z3
def topS (i : Nat) : Stmt := PySem.Challenge.pw_turnshelves_k43_policy_serves_by_works.main.body.getD i (.Pass ⟨0, 0, 0, 0⟩)
/-- the names that the top leaves alone -/
structure Bl (mg : Str → Option Value) : Prop where
  range : mg "range" = none
  len : mg "len" = none
  int : mg "int" = none
  list : mg "list" = none
  zip : mg "zip" = none
  min : mg "min" = none
  sum : mg "sum" = none
  abs : mg "abs" = none
  repr : mg "repr" = none
  reversed : mg "reversed" = none
def LI (H : Hp) (a : Addr) (xs : List Int) : Prop := H a = some (.lst (xs.map V.int))
theorem LI.same {H H' : Hp} {a : Addr} {xs : List Int} (s : Same H H') (h : LI H a xs) : LI H' a xs := s _ _ h
theorem LI.seq {K : PySem.W.Frag} {H : Hp} {a : Addr} {xs : List Int} (h : LI H a xs) : SqL K H a (xs.map V.int) := SqL.of h
theorem li_at {xs : List Int} {i : Nat} (h : i < xs.length) : (xs.map V.int)[i]? = some (V.int (gI xs i)) := by rw [List.getElem?_map, at_gI h]; rfl
/-- a list of lists of ints, none of which is av -/
structure LL (av : Addr → Prop) (H : Hp) (a : Addr) (xss : List (List Int)) : Prop where
  ex : ∃ ts : List Addr, H a = some (.lst (ts.map V.ref)) ∧ ts.length = xss.length ∧ (∀ (i : Nat) (t : Addr) (xs : List Int), ts[i]? = some t → xss[i]? = some xs → LI H t xs) ∧ ∀ t ∈ ts, ¬ av t
theorem LL.same {av : Addr → Prop} {H H' : Hp} {a : Addr} {xss : List (List Int)} (s : Same H H') (h : LL av H a xss) : LL av H' a xss := by
  obtain ⟨ts, e, l, g, n⟩ := h
  exact ⟨ts, s _ _ e, l, fun i t xs e1 e2 => s _ _ (g i t xs e1 e2), n⟩
/-- the place i -/
theorem LL.at {av : Addr → Prop} {H : Hp} {a : Addr} {xss : List (List Int)} (h : LL av H a xss) {i : Nat} {xs : List Int} (e : xss[i]? = some xs) : ∃ ys t, H a = some (.lst ys) ∧ ys.length = xss.length ∧ ys[i]? = some (.ref t) ∧ LI H t xs ∧ ¬ av t := by
  obtain ⟨ts, f, l, g, n⟩ := h
  have hi := (List.getElem?_eq_some_iff.mp e).1
  have ht : i < ts.length := by rw [l]; exact hi
  refine ⟨_, ts[i], f, by rw [List.length_map, l], by simp [ht], g i _ xs (List.getElem?_eq_getElem ht) e, n _ (List.getElem_mem ht)⟩
/-- but for the places in Z all stays -/
def Bt (Z : Addr → Prop) (H H' : Hp) : Prop := ∀ b o, ¬ Z b → H b = some o → H' b = some o
theorem Bt.same {Z : Addr → Prop} {H H' : Hp} (s : Same H H') : Bt Z H H' := fun b o _ e => s b o e
theorem Bt.trans {Z : Addr → Prop} {H H1 H2 : Hp} (a : Bt Z H H1) (b : Bt Z H1 H2) : Bt Z H H2 := fun c o n e => b c o n (a c o n e)
theorem Bt.put {Z : Addr → Prop} {H : Hp} {p : Addr} {o : HO} (z : Z p) : Bt Z H (upd H p o) := fun b u n e => by rw [upd_ne (fun t => n (by rw [t]; exact z))]; exact e
theorem Bt.new {Z : Addr → Prop} {H : Hp} {p : Addr} {o : HO} (n : H p = none) : Bt Z H (upd H p o) := Bt.same (Same.new n)
theorem LI.bt {Z : Addr → Prop} {H H' : Hp} {a : Addr} {xs : List Int} (s : Bt Z H H') (n : ¬ Z a) (h : LI H a xs) : LI H' a xs := s _ _ n h
theorem LL.bt {av Z : Addr → Prop} {H H' : Hp} {a : Addr} {xss : List (List Int)} (s : Bt Z H H') (n : ¬ Z a) (hz : ∀ t, Z t → av t ∨ ∀ xs : List Int, ¬ LI H t xs) (h : LL av H a xss) : LL av H' a xss := by
  obtain ⟨ts, f, l, g, na⟩ := h
  refine ⟨ts, s _ _ n f, l, fun i t xs e1 e2 => s _ _ (fun z => ?_) (g i t xs e1 e2), na⟩
  rcases hz t z with y | y
  · exact na t (List.mem_of_getElem? e1) y
  · exact y xs (g i t xs e1 e2)
theorem LL.snoc {av : Addr → Prop} {H H' : Hp} {a t : Addr} {xss : List (List Int)} {xs : List Int} {ys : List V} (h : LL av H a xss) (f : H a = some (.lst ys)) (fa : H' a = some (.lst (ys ++ [.ref t]))) (ft : LI H' t xs) (nt : ¬ av t)
    (s : ∀ b zs, LI H b zs → ¬ av b → LI H' b zs) : LL av H' a (xss ++ [xs]) := by
  obtain ⟨ts, f', l, g, na⟩ := h
  rw [f] at f'
  cases f'
  refine ⟨ts ++ [t], by rw [fa, List.map_append]; rfl, by rw [List.length_append, List.length_append, l]; rfl, fun i u zs e1 e2 => ?_, fun u m => ?_⟩
  · rcases Nat.lt_trichotomy i ts.length with h1 | h1 | h1
    · rw [List.getElem?_append_left h1] at e1
      rw [List.getElem?_append_left (by omega)] at e2
      exact s u zs (g i u zs e1 e2) (na u (List.mem_of_getElem? e1))
    · have a1 : t = u := by rw [h1] at e1; simpa using e1
      have a2 : xs = zs := by rw [h1, l] at e2; simpa using e2
      rw [← a1, ← a2]
      exact ft
    · rw [List.getElem?_eq_none (by rw [List.length_append, List.length_singleton]; omega)] at e1
      cases e1
  · rcases List.mem_append.mp m with m | m
    · exact na u m
    · rw [List.mem_singleton.mp m]; exact nt
/-- the attributes of a policy, in their order -/
def polF (st sA wA now sp tA kA : V) : List (Str × V) := putF "works" kA (putF "tasks" tA (putF "spent" sp (putF "now" now (putF "ways" wA (putF "stands" sA (putF "start" st []))))))
def pNames : List Str := ["start", "stands", "ways", "now", "spent", "tasks", "works"]
theorem pn_ne : pNames.Nodup := by decide +kernel
theorem k_start_stands : ¬ (("start" : Str) = "stands") := by decide +kernel
theorem k_start_ways : ¬ (("start" : Str) = "ways") := by decide +kernel
theorem k_start_now : ¬ (("start" : Str) = "now") := by decide +kernel
theorem k_start_spent : ¬ (("start" : Str) = "spent") := by decide +kernel
theorem k_start_tasks : ¬ (("start" : Str) = "tasks") := by decide +kernel
theorem k_start_works : ¬ (("start" : Str) = "works") := by decide +kernel
theorem k_stands_start : ¬ (("stands" : Str) = "start") := by decide +kernel
theorem k_stands_ways : ¬ (("stands" : Str) = "ways") := by decide +kernel
theorem k_stands_now : ¬ (("stands" : Str) = "now") := by decide +kernel
theorem k_stands_spent : ¬ (("stands" : Str) = "spent") := by decide +kernel
theorem k_stands_tasks : ¬ (("stands" : Str) = "tasks") := by decide +kernel
theorem k_stands_works : ¬ (("stands" : Str) = "works") := by decide +kernel
theorem k_ways_start : ¬ (("ways" : Str) = "start") := by decide +kernel
theorem k_ways_stands : ¬ (("ways" : Str) = "stands") := by decide +kernel
theorem k_ways_now : ¬ (("ways" : Str) = "now") := by decide +kernel
theorem k_ways_spent : ¬ (("ways" : Str) = "spent") := by decide +kernel
theorem k_ways_tasks : ¬ (("ways" : Str) = "tasks") := by decide +kernel
theorem k_ways_works : ¬ (("ways" : Str) = "works") := by decide +kernel
theorem k_now_start : ¬ (("now" : Str) = "start") := by decide +kernel
theorem k_now_stands : ¬ (("now" : Str) = "stands") := by decide +kernel
theorem k_now_ways : ¬ (("now" : Str) = "ways") := by decide +kernel
theorem k_now_spent : ¬ (("now" : Str) = "spent") := by decide +kernel
theorem k_now_tasks : ¬ (("now" : Str) = "tasks") := by decide +kernel
theorem k_now_works : ¬ (("now" : Str) = "works") := by decide +kernel
theorem k_spent_start : ¬ (("spent" : Str) = "start") := by decide +kernel
theorem k_spent_stands : ¬ (("spent" : Str) = "stands") := by decide +kernel
theorem k_spent_ways : ¬ (("spent" : Str) = "ways") := by decide +kernel
theorem k_spent_now : ¬ (("spent" : Str) = "now") := by decide +kernel
theorem k_spent_tasks : ¬ (("spent" : Str) = "tasks") := by decide +kernel
theorem k_spent_works : ¬ (("spent" : Str) = "works") := by decide +kernel
theorem k_tasks_start : ¬ (("tasks" : Str) = "start") := by decide +kernel
theorem k_tasks_stands : ¬ (("tasks" : Str) = "stands") := by decide +kernel
theorem k_tasks_ways : ¬ (("tasks" : Str) = "ways") := by decide +kernel
theorem k_tasks_now : ¬ (("tasks" : Str) = "now") := by decide +kernel
theorem k_tasks_spent : ¬ (("tasks" : Str) = "spent") := by decide +kernel
theorem k_tasks_works : ¬ (("tasks" : Str) = "works") := by decide +kernel
theorem k_works_start : ¬ (("works" : Str) = "start") := by decide +kernel
theorem k_works_stands : ¬ (("works" : Str) = "stands") := by decide +kernel
theorem k_works_ways : ¬ (("works" : Str) = "ways") := by decide +kernel
theorem k_works_now : ¬ (("works" : Str) = "now") := by decide +kernel
theorem k_works_spent : ¬ (("works" : Str) = "spent") := by decide +kernel
theorem k_works_tasks : ¬ (("works" : Str) = "tasks") := by decide +kernel
theorem polF_start (st sA wA now sp tA kA : V) : (polF st sA wA now sp tA kA).lookup ("start" : Str) = some st := by
  unfold polF
  rw [lookup_putF, if_neg k_start_works, lookup_putF, if_neg k_start_tasks, lookup_putF, if_neg k_start_spent, lookup_putF, if_neg k_start_now, lookup_putF, if_neg k_start_ways, lookup_putF, if_neg k_start_stands, lookup_putF, if_pos rfl]
theorem polF_stands (st sA wA now sp tA kA : V) : (polF st sA wA now sp tA kA).lookup ("stands" : Str) = some sA := by
  unfold polF
  rw [lookup_putF, if_neg k_stands_works, lookup_putF, if_neg k_stands_tasks, lookup_putF, if_neg k_stands_spent, lookup_putF, if_neg k_stands_now, lookup_putF, if_neg k_stands_ways, lookup_putF, if_pos rfl]
theorem polF_ways (st sA wA now sp tA kA : V) : (polF st sA wA now sp tA kA).lookup ("ways" : Str) = some wA := by
  unfold polF
  rw [lookup_putF, if_neg k_ways_works, lookup_putF, if_neg k_ways_tasks, lookup_putF, if_neg k_ways_spent, lookup_putF, if_neg k_ways_now, lookup_putF, if_pos rfl]
theorem polF_now (st sA wA now sp tA kA : V) : (polF st sA wA now sp tA kA).lookup ("now" : Str) = some now := by
  unfold polF
  rw [lookup_putF, if_neg k_now_works, lookup_putF, if_neg k_now_tasks, lookup_putF, if_neg k_now_spent, lookup_putF, if_pos rfl]
theorem polF_spent (st sA wA now sp tA kA : V) : (polF st sA wA now sp tA kA).lookup ("spent" : Str) = some sp := by
  unfold polF
  rw [lookup_putF, if_neg k_spent_works, lookup_putF, if_neg k_spent_tasks, lookup_putF, if_pos rfl]
theorem polF_tasks (st sA wA now sp tA kA : V) : (polF st sA wA now sp tA kA).lookup ("tasks" : Str) = some tA := by
  unfold polF
  rw [lookup_putF, if_neg k_tasks_works, lookup_putF, if_pos rfl]
theorem polF_works (st sA wA now sp tA kA : V) : (polF st sA wA now sp tA kA).lookup ("works" : Str) = some kA := by
  unfold polF
  rw [lookup_putF, if_pos rfl]
theorem polF_len (st sA wA now sp tA kA : V) : (polF st sA wA now sp tA kA).length ≤ 7 := by
  unfold polF
  have h := fun f v fs => putF_len f v fs
  refine Nat.le_trans (h _ _ _) (Nat.succ_le_succ (Nat.le_trans (h _ _ _) (Nat.succ_le_succ (Nat.le_trans (h _ _ _) (Nat.succ_le_succ (Nat.le_trans (h _ _ _) (Nat.succ_le_succ (Nat.le_trans (h _ _ _) (Nat.succ_le_succ (Nat.le_trans (h _ _ _) (Nat.succ_le_succ (h _ _ _))))))))))))
theorem putF_ne {f g : Str} {v u : V} {fs : List (Str × V)} (n : ¬ f = g) : putF f v ((g, u) :: fs) = (g, u) :: putF f v fs := by
  show (if g = f then _ else _) = _
  rw [if_neg (fun e => n e.symm)]
theorem putF_eq {f : Str} {v u : V} {fs : List (Str × V)} : putF f v ((f, u) :: fs) = (f, v) :: fs := by
  show (if f = f then _ else _) = _
  rw [if_pos rfl]
theorem putF_nil {f : Str} {v : V} : putF f v [] = [(f, v)] := rfl
theorem polF_eq (st sA wA now sp tA kA : V) : polF st sA wA now sp tA kA = ([("start", st), ("stands", sA), ("ways", wA), ("now", now), ("spent", sp), ("tasks", tA), ("works", kA)] : List (Str × V)) := by
  unfold polF
  rw [putF_nil, putF_ne k_stands_start, putF_nil, putF_ne k_ways_start, putF_ne k_ways_stands, putF_nil, putF_ne k_now_start, putF_ne k_now_stands, putF_ne k_now_ways, putF_nil,
    putF_ne k_spent_start, putF_ne k_spent_stands, putF_ne k_spent_ways, putF_ne k_spent_now, putF_nil, putF_ne k_tasks_start, putF_ne k_tasks_stands, putF_ne k_tasks_ways, putF_ne k_tasks_now, putF_ne k_tasks_spent, putF_nil,
    putF_ne k_works_start, putF_ne k_works_stands, putF_ne k_works_ways, putF_ne k_works_now, putF_ne k_works_spent, putF_ne k_works_tasks, putF_nil]
theorem put_now (st sA wA now sp tA kA v : V) : putF "now" v (polF st sA wA now sp tA kA) = polF st sA wA v sp tA kA := by
  rw [polF_eq, polF_eq, putF_ne k_now_start, putF_ne k_now_stands, putF_ne k_now_ways, putF_eq]
theorem put_spent (st sA wA now sp tA kA v : V) : putF "spent" v (polF st sA wA now sp tA kA) = polF st sA wA now v tA kA := by
  rw [polF_eq, polF_eq, putF_ne k_spent_start, putF_ne k_spent_stands, putF_ne k_spent_ways, putF_ne k_spent_now, putF_eq]
theorem polF_no_going (st sA wA now sp tA kA : V) : (polF st sA wA now sp tA kA).lookup ("going" : Str) = none := by
  unfold polF
  rw [lookup_putF, if_neg (show ¬ (("going" : Str) = "works") by decide +kernel), lookup_putF, if_neg (show ¬ (("going" : Str) = "tasks") by decide +kernel), lookup_putF, if_neg (show ¬ (("going" : Str) = "spent") by decide +kernel), lookup_putF, if_neg (show ¬ (("going" : Str) = "now") by decide +kernel), lookup_putF, if_neg (show ¬ (("going" : Str) = "ways") by decide +kernel), lookup_putF, if_neg (show ¬ (("going" : Str) = "stands") by decide +kernel), lookup_putF, if_neg (show ¬ (("going" : Str) = "start") by decide +kernel)]
  rfl
theorem polF_no_sums (st sA wA now sp tA kA : V) : (polF st sA wA now sp tA kA).lookup ("sums" : Str) = none := by
  unfold polF
  rw [lookup_putF, if_neg (show ¬ (("sums" : Str) = "works") by decide +kernel), lookup_putF, if_neg (show ¬ (("sums" : Str) = "tasks") by decide +kernel), lookup_putF, if_neg (show ¬ (("sums" : Str) = "spent") by decide +kernel), lookup_putF, if_neg (show ¬ (("sums" : Str) = "now") by decide +kernel), lookup_putF, if_neg (show ¬ (("sums" : Str) = "ways") by decide +kernel), lookup_putF, if_neg (show ¬ (("sums" : Str) = "stands") by decide +kernel), lookup_putF, if_neg (show ¬ (("sums" : Str) = "start") by decide +kernel)]
  rfl
theorem polF_no_serve (st sA wA now sp tA kA : V) : (polF st sA wA now sp tA kA).lookup ("serve" : Str) = none := by
  unfold polF
  rw [lookup_putF, if_neg (show ¬ (("serve" : Str) = "works") by decide +kernel), lookup_putF, if_neg (show ¬ (("serve" : Str) = "tasks") by decide +kernel), lookup_putF, if_neg (show ¬ (("serve" : Str) = "spent") by decide +kernel), lookup_putF, if_neg (show ¬ (("serve" : Str) = "now") by decide +kernel), lookup_putF, if_neg (show ¬ (("serve" : Str) = "ways") by decide +kernel), lookup_putF, if_neg (show ¬ (("serve" : Str) = "stands") by decide +kernel), lookup_putF, if_neg (show ¬ (("serve" : Str) = "start") by decide +kernel)]
  rfl
theorem polF_no_hindsight (st sA wA now sp tA kA : V) : (polF st sA wA now sp tA kA).lookup ("hindsight" : Str) = none := by
  unfold polF
  rw [lookup_putF, if_neg (show ¬ (("hindsight" : Str) = "works") by decide +kernel), lookup_putF, if_neg (show ¬ (("hindsight" : Str) = "tasks") by decide +kernel), lookup_putF, if_neg (show ¬ (("hindsight" : Str) = "spent") by decide +kernel), lookup_putF, if_neg (show ¬ (("hindsight" : Str) = "now") by decide +kernel), lookup_putF, if_neg (show ¬ (("hindsight" : Str) = "ways") by decide +kernel), lookup_putF, if_neg (show ¬ (("hindsight" : Str) = "stands") by decide +kernel), lookup_putF, if_neg (show ¬ (("hindsight" : Str) = "start") by decide +kernel)]
  rfl
theorem polF_no_paper (st sA wA now sp tA kA : V) : (polF st sA wA now sp tA kA).lookup ("paper" : Str) = none := by
  unfold polF
  rw [lookup_putF, if_neg (show ¬ (("paper" : Str) = "works") by decide +kernel), lookup_putF, if_neg (show ¬ (("paper" : Str) = "tasks") by decide +kernel), lookup_putF, if_neg (show ¬ (("paper" : Str) = "spent") by decide +kernel), lookup_putF, if_neg (show ¬ (("paper" : Str) = "now") by decide +kernel), lookup_putF, if_neg (show ¬ (("paper" : Str) = "ways") by decide +kernel), lookup_putF, if_neg (show ¬ (("paper" : Str) = "stands") by decide +kernel), lookup_putF, if_neg (show ¬ (("paper" : Str) = "start") by decide +kernel)]
  rfl
/-- a policy stands at p -/
structure PolAt (C : Addr) (Z : Addr → Prop) (H : Hp) (p sA wA tA kA : Addr) (c : Pr) (now : Nat) (spent : Int) (T Kw : List (List Int)) : Prop where
  ob : ∃ dx, H p = some (.ins C dx (polF (.int (c.start : Nat)) (.ref sA) (.ref wA) (.int (now : Nat)) (.int spent) (.ref tA) (.ref kA)))
  s : LI H sA c.S
  w : LL (fun t => (t = tA ∨ t = kA) ∨ Z t) H wA c.W
  t : LL (fun t => (t = tA ∨ t = kA) ∨ Z t) H tA T
  k : LL (fun t => (t = tA ∨ t = kA) ∨ Z t) H kA Kw
  ne : tA ≠ kA ∧ wA ≠ tA ∧ wA ≠ kA ∧ sA ≠ tA ∧ sA ≠ kA
  al : ∀ b, Z b → H b ≠ none
  nz : ¬ Z p ∧ ¬ Z sA ∧ ¬ Z wA ∧ ¬ Z tA ∧ ¬ Z kA
theorem al_same {Z : Addr → Prop} {H H' : Hp} (s : Same H H') (h : ∀ b, Z b → H b ≠ none) : ∀ b, Z b → H' b ≠ none := fun b z n => by
  cases e : H b with
  | none => exact h b z e
  | some o => rw [s b o e] at n; cases n
theorem al_upd {Z : Addr → Prop} {H : Hp} {x : Addr} {o : HO} (h : ∀ b, Z b → H b ≠ none) : ∀ b, Z b → upd H x o b ≠ none := fun b z n => by
  by_cases w : b = x
  · rw [w, upd_same] at n; cases n
  · rw [upd_ne w] at n; exact h b z n
theorem PolAt.same {C : Addr} {Z : Addr → Prop} {H H' : Hp} {p sA wA tA kA : Addr} {c : Pr} {now : Nat} {spent : Int} {T Kw : List (List Int)} (s : Same H H') (h : PolAt C Z H p sA wA tA kA c now spent T Kw) : PolAt C Z H' p sA wA tA kA c now spent T Kw := by
  obtain ⟨dx, e⟩ := h.ob
  exact ⟨⟨dx, s _ _ e⟩, h.s.same s, h.w.same s, h.t.same s, h.k.same s, h.ne, al_same s h.al, h.nz⟩
/-- what the walk asks of the class -/
structure Txt (K : PySem.W.Frag) (mg : Str → Option Value) (C : Addr) : Prop where
  cl : Cls K C
  start : NoAttr K C "start"
  stands : NoAttr K C "stands"
  ways : NoAttr K C "ways"
  now : NoAttr K C "now"
  spent : NoAttr K C "spent"
  tasks : NoAttr K C "tasks"
  works : NoAttr K C "works"
  mgC : mg "Policy" = some (.ref C)
abbrev sPol : Stmt := topS 3
end K1
namespace K1
open PySem PySem.Spec PyProof.Rows L2 Ow Po Z3
abbrev sfirst_least : Stmt := topS 2
theorem scfirst_least : FnScope ["numbers"] ["numbers"] (defScope sfirst_least) := ⟨rfl, rfl, rfl, by decide +kernel, rfl, by decide +kernel, by decide +kernel⟩
def spFirstLeast (K : PySem.W.Frag) : Sp := fun vs H Q _ => ∃ (a : Addr) (xs : List Int), vs = [.ref a] ∧ SqL K H a (xs.map V.int) ∧ xs ≠ [] ∧ Q (.int (argL xs : Nat)) H
def spGoing (C : Addr) : Sp := fun vs H Q _ => ∃ (Z : Addr → Prop) (p sA wA tA kA : Addr) (c : Pr) (now : Nat) (spent : Int) (T Kw : List (List Int)) (x y : Nat), vs = [.ref p, .int (x : Nat), .int (y : Nat)] ∧
  PolAt C Z H p sA wA tA kA c now spent T Kw ∧ Good c ∧ x < c.n ∧ y < c.n ∧ Q (.int (goF c x y)) H
def spSums (C : Addr) : Sp := fun vs H Q _ => ∃ (Z : Addr → Prop) (p sA wA tA kA : Addr) (c : Pr) (now : Nat) (spent : Int) (T Kw : List (List Int)) (i y : Nat) (w e : List Int), vs = [.ref p, .int (i : Nat), .int (y : Nat)] ∧
  PolAt C Z H p sA wA tA kA c now spent T Kw ∧ Good c ∧ y < c.n ∧ c.n ≤ 1000 ∧ Kw[i]? = some w ∧ T[i]? = some e ∧ w.length = c.n ∧ e.length = c.n ∧ ∀ H' l, Same H H' → H l = none → LI H' l (sums c w e y) → Q (.ref l) H'
theorem flat_ints (xs : List Int) : (xs.map V.int).all flatV = true := by
  rw [List.all_eq_true]
  intro v m
  obtain ⟨i, _, rfl⟩ := List.mem_map.mp m
  rfl
section
variable {P : Program} {w : World} {K : PySem.W.Frag} {mg : Str → Option Value} {base : Heap}
theorem ok_first_least {f : Addr} {fd : FuncData} (F : Fun K "first_least" "first_least" sfirst_least f fd) (T : Bl mg) :
    FnOk P w K mg base CX0 1 f fd ["numbers"] (spFirstLeast K) := by
  refine F.ok scfirst_least (fun vs H Q E h => ?_) (fun cdv A outer s H vs Q E hr h => ?_)
  · obtain ⟨a, xs, rfl, _⟩ := h
    rfl
  · obtain ⟨a, xs, rfl, hs, ne, q⟩ := h
    refine ⟨_, pss_one (ps_ret (pe_bm PySem.F.plainAttrs_list PySem.F.slot_list_index PySem.F.type_list_index mt_index (pv 0) (pa_cons (pe_callB (cr_min rfl) (by rfl) T.min (by decide +kernel) (pa_cons (pv 0) pa_nil)) pa_nil))), ?_⟩
    refine ⟨_, rfl, .inl ⟨rfl, _, hs⟩, _, rfl, a, xs, rfl, hs, List.length_pos_iff.mpr ne, fun m hm hle => ?_⟩
    have em : m = minL xs := minL_eq hm hle
    refine ⟨a, _, .int m, argL xs, .int (minL xs), rfl, rfl, hs, rfl, flat_ints xs, ?_, ?_, fun j z hj hz => ?_, q⟩
    · rw [List.getElem?_map, argL_at ne]
      rfl
    · rw [em]
      simp [eqV]
    · rw [List.getElem?_map] at hz
      cases e : xs[j]? with
      | none => rw [e] at hz; cases hz
      | some u =>
        rw [e] at hz
        cases hz
        have := argL_no hj e
        rw [em]
        simpa [eqV] using this
abbrev sGo : Stmt := inClass sPol 1
theorem scGo : FnScope ["self", "first", "second"] ["self", "first", "second"] (defScope sGo) := ⟨rfl, rfl, rfl, by decide +kernel, rfl, by decide +kernel, by decide +kernel⟩
theorem ok_going {f C : Addr} {fd : FuncData} (F : Fun K "going" "Policy.going" sGo f fd) (X : Txt K mg C) :
    FnOk P w K mg base CX0 1 f fd ["self", "first", "second"] (spGoing C) := by
  refine F.ok scGo (fun vs H Q E h => ?_) (fun cdv A outer s H vs Q E hr h => ?_)
  · obtain ⟨Z, p, sA, wA, tA, kA, c, now, spent, T, Kw, x, y, rfl, _⟩ := h
    rfl
  · obtain ⟨Z, p, sA, wA, tA, kA, c, now, spent, T, Kw, x, y, rfl, D, g, hx, hy, q⟩ := h
    obtain ⟨dx, ob⟩ := D.ob
    refine ⟨_, pss_one (ps_ret (pe_op op_fdiv (pe_op op_sub (pe_op op_add (pe_ix ix_list (pe_ix ix_list (pe_fld (pv 0) rfl) (pv 1) (fun _ _ => rfl)) (pv 2) (fun _ _ => rfl)) (pe_ix ix_list (pe_fld (pv 0) rfl) (pv 2) (fun _ _ => rfl))) (pe_ix ix_list (pe_fld (pv 0) rfl) (pv 1) (fun _ _ => rfl))) pe_int)), ?_⟩
    obtain ⟨ws, t, ew, lw, e1, et, _⟩ := D.w.at (at_gR (W := c.W) (i := x) (by rw [g.w]; exact hx))
    have ly : y < (gR c.W x).length := by rw [g.r x hx]; exact hy
    refine ⟨_, rfl, p, C, dx, _, _, rfl, ob, X.cl, X.ways, polF_ways _ _ _ _ _ _ _, _, rfl, _, _, _, _, rfl, rfl, SqL.of ew, atI_nat e1, _, rfl, _, _, _, _, rfl, rfl, et.seq, atI_nat (li_at ly), _, rfl, p, C, dx, _, _, rfl, ob, X.cl, X.stands, polF_stands _ _ _ _ _ _ _, _, rfl,
      _, _, _, _, rfl, rfl, D.s.seq, atI_nat (li_at (by rw [g.s]; exact hy)), _, _, rfl, rfl, _, rfl, p, C, dx, _, _, rfl, ob, X.cl, X.stands, polF_stands _ _ _ _ _ _ _, _, rfl, _, _, _, _, rfl, rfl, D.s.seq, atI_nat (li_at (by rw [g.s]; exact hx)), _, _, rfl, rfl, _, _, rfl, rfl, ⟨by decide, by decide⟩, ?_⟩
    exact q
end
end K1
namespace K1
open PySem PySem.Spec PyProof.Rows L2 Ow Po Z3
theorem tri_some : ∀ {xs ys zs : List V} {j : Nat} {x y u : V}, xs[j]? = some x → ys[j]? = some y → zs[j]? = some u → (tri xs ys zs)[j]? = some [x, y, u]
  | [], _, _, j, x, y, u, h, _, _ => by simp at h
  | _ :: _, [], _, j, x, y, u, _, h, _ => by simp at h
  | _ :: _, _ :: _, [], j, x, y, u, _, _, h => by simp at h
  | a :: xs, b :: ys, c :: zs, 0, x, y, u, h1, h2, h3 => by
    cases h1
    cases h2
    cases h3
    rfl
  | a :: xs, b :: ys, c :: zs, j + 1, x, y, u, h1, h2, h3 => tri_some (xs := xs) (ys := ys) (zs := zs) (j := j) h1 h2 h3
abbrev sSums : Stmt := inClass sPol 2
abbrev NSums : List Str := ["self", "at", "place", "parts", "work", "excess", "row"]
theorem scSums : FnScope NSums ["self", "at", "place"] (defScope sSums) := ⟨rfl, rfl, rfl, by decide +kernel, rfl, by decide +kernel, by decide +kernel⟩
section
variable {P : Program} {w : World} {K : PySem.W.Frag} {mg : Str → Option Value} {base : Heap}
theorem ok_sums {f C : Addr} {fd : FuncData} (F : Fun K "sums" "Policy.sums" sSums f fd) (T0 : Bl mg) (X : Txt K mg C) :
    FnOk P w K mg base CX0 1 f fd ["self", "at", "place"] (spSums C) := by
  refine F.ok scSums (fun vs H Q E h => ?_) (fun cdv A outer s H vs Q E hr h => ?_)
  · obtain ⟨Z, p, sA, wA, tA, kA, c, now, spent, T, Kw, i, y, w', e, rfl, _⟩ := h
    rfl
  · obtain ⟨Z, p, sA, wA, tA, kA, c, now, spent, T, Kw, i, y, w', e, rfl, D, g, hy, hn, eK, eT, lw, le, q⟩ := h
    obtain ⟨dx, ob⟩ := D.ob
    refine ⟨_, pss_cons (ps_set (i := 3) scSums.nd rfl (.inl rfl) (pe_listZip3 rfl (by rfl) T0.list (by rfl) T0.zip (pa_cons (pe_ix ix_list (pe_fld (pv 0) rfl) (pv 1) (fun _ _ => rfl)) (pa_cons (pe_ix ix_list (pe_fld (pv 0) rfl) (pv 1) (fun _ _ => rfl)) (pa_cons (pe_fld (pv 0) rfl) pa_nil)))))
      (pss_one (ps_ret (pe_lc (own := [("work", 4), ("excess", 5), ("row", 6)]) (g := gTup K 3 (gCons (gName 4) (gCons (gName 5) (gCons (gName 6) gNil)))) (tt := tYes) rfl scSums.nd (pi_list (pv 3)) (blkOk_by (own := [("work", 4), ("excess", 5), ("row", 6)]) (N := NSums) (sc := defScope sSums) (by decide +kernel))
        (fun _ _ _ _ _ => pg_tup rfl (pgs_cons (pg_name (i := 4) scSums.nd rfl (Or.inl rfl)) (pgs_cons (pg_name (i := 5) scSums.nd rfl (Or.inl rfl)) (pgs_cons (pg_name (i := 6) scSums.nd rfl (Or.inl rfl)) pgs_nil))))
        (fun _ _ _ _ _ => pts_nil) (fun _ _ _ _ _ => pe_op op_add (pe_op op_add (pv 4) (pe_op op_mul pe_int (pv 5))) (pe_ix (ix_list_K rfl) (pv 6) (pv 2) (fun _ _ => rfl)))))), ?_⟩
    obtain ⟨ks, t1, ek, lk, e1, f1, _⟩ := D.k.at eK
    obtain ⟨ts, t2, et, lt, e2, f2, _⟩ := D.t.at eT
    obtain ⟨ws, ew, lws, gws, _⟩ := D.w.ex
    have sl : (w'.map V.int).length = (e.map V.int).length := by rw [List.length_map, List.length_map, lw, le]
    have sl2 : (w'.map V.int).length = (ws.map V.ref).length := by rw [List.length_map, List.length_map, lw, lws, g.w]
    refine ⟨_, rfl, p, C, dx, _, _, rfl, ob, X.cl, X.works, polF_works _ _ _ _ _ _ _, _, rfl, _, _, _, _, rfl, rfl, SqL.of ek, atI_nat e1, _, rfl, p, C, dx, _, _, rfl, ob, X.cl, X.tasks, polF_tasks _ _ _ _ _ _ _, _, rfl, _, _, _, _, rfl, rfl, SqL.of et, atI_nat e2,
      _, rfl, p, C, dx, _, _, rfl, ob, X.cl, X.ways, polF_ways _ _ _ _ _ _ _, _, _, _, _, _, _, rfl, f1.seq, f2.seq, SqL.of ew, sl, sl2, fun H1 l us nt => ?_⟩
    obtain ⟨s1, nl, nus, _, _, lu, el, eu⟩ := nt
    have tl : us.length = c.n := by rw [lu, tri_len sl sl2, List.length_map, lw]
    refine ⟨_, rfl, _, rfl, ⟨_, SqL.of el⟩, fun D0 hD => ?_⟩
    have lu' : (us.map V.ref).length = c.n := by rw [List.length_map, tl]
    refine lc_mk (walk_list (K := K) (a := l) (xs := us.map V.ref)) (fun j => V.int (sumF c w' e y j)) (by rw [lu']; exact small hn (by decide)) hD (fun H s => SqL.of (s _ _ el)) (fun j x H2 H2' N hj s2 yy fin => ?_) fun H2 s2 eD => ?_
    · obtain ⟨rfl, ex⟩ := yy
      rw [lu'] at hj
      have hu : j < us.length := by rw [tl]; exact hj
      have hw : j < ws.length := by rw [lws, g.w]; exact hj
      rw [List.getElem?_map, List.getElem?_eq_getElem hu] at ex
      cases ex
      have tr := tri_some (li_at (xs := w') (i := j) (by rw [lw]; exact hj)) (li_at (xs := e) (i := j) (by rw [le]; exact hj)) (show (ws.map V.ref)[j]? = some (V.ref ws[j]) by simp [hw])
      have tu := s2 _ _ (eu j _ _ (List.getElem?_eq_getElem hu) tr)
      have rw' := (gws j _ _ (List.getElem?_eq_getElem hw) (at_gR (W := c.W) (i := j) (by rw [g.w]; exact hj))).same (Same.trans s1 s2)
      refine ⟨_, _, rfl, SqT.of tu, rfl, _, _, rfl, _, _, rfl, _, _, rfl, rfl, rfl, ?_⟩
      refine ⟨_, rfl, _, rfl, _, _, rfl, rfl, .inl ⟨by decide, by decide⟩, _, _, rfl, rfl, _, rfl, _, rfl, _, _, _, _, rfl, rfl, rw'.seq, atI_nat (li_at (by rw [g.r j hj]; exact hy)), _, _, rfl, rfl, ?_⟩
      exact fin _ (Same.refl _)
    · refine q H2 D0 (Same.trans s1 s2) (Same.free s1 hD) ?_
      unfold LI sums mk
      rw [eD, lu', List.map_map]
      rfl
end
end K1
namespace K1
open PySem PySem.Spec PyProof.Rows L2 Ow Po Z3
abbrev sInit : Stmt := inClass sPol 0
abbrev NInit : List Str := ["self", "start", "stands", "ways", "row"]
theorem scInit : FnScope NInit ["self", "start", "stands", "ways"] (defScope sInit) := ⟨rfl, rfl, rfl, by decide +kernel, rfl, by decide +kernel, by decide +kernel⟩
def spInit (K : PySem.W.Frag) (C : Addr) : Sp := fun vs H Q _ => ∃ (p dx a b : Addr) (c : Pr) (av : Addr → Prop), vs = [.ref p, .int (c.start : Nat), .ref a, .ref b] ∧ H p = some (.ins C dx []) ∧ LI H a c.S ∧ LL av H b c.W ∧ Good c ∧ c.n ≤ 1000 ∧
  ∀ H' sA wA tA kA, PolAt C (fun b => H b ≠ none ∧ b ≠ p) H' p sA wA tA kA c c.start 0 [] [gR c.W c.start] → (∀ q o, H q = some o → q ≠ p → H' q = some o) → H sA = none ∧ H wA = none ∧ H tA = none ∧ H kA = none → Q .non H'
theorem few {f : Str} {v : V} {fs : List (Str × V)} {n : Nat} (h : fs.length ≤ n) : (putF f v fs).length ≤ n + 1 := Nat.le_trans (putF_len f v fs) (Nat.succ_le_succ h)
section
variable {P : Program} {w : World} {K : PySem.W.Frag} {mg : Str → Option Value} {base : Heap}
theorem ok_init {f C : Addr} {fd : FuncData} (F : Fun K "__init__" "Policy.__init__" sInit f fd) (T0 : Bl mg) (X : Txt K mg C) :
    FnOk P w K mg base CX0 1 f fd ["self", "start", "stands", "ways"] (spInit K C) := by
  refine F.ok scInit (fun vs H Q E h => ?_) (fun cdv A outer s H vs Q E hr h => ?_)
  · obtain ⟨p, dx, a, b, c, av, rfl, _⟩ := h
    rfl
  · obtain ⟨p, dx, a, b, c, av, rfl, hp, ha, hb, g, hn, q⟩ := h
    refine ⟨_, pss_cons (ps_fld (pv 0) (pv 1) rfl)
      (pss_cons (ps_fld (pv 0) (pe_callTy call_list_of (by rfl) T0.list (by decide +kernel) (pa_cons (pv 2) pa_nil)) rfl)
      (pss_cons (ps_fld (pv 0) (pe_lc (own := [("row", 4)]) (g := gName 4) (tt := tYes) rfl scInit.nd (pi_list (pv 3)) (blkOk_by (own := [("row", 4)]) (N := NInit) (sc := defScope sInit) (by decide +kernel))
        (fun _ _ _ _ _ => pg_name (i := 4) scInit.nd rfl (Or.inl rfl)) (fun _ _ _ _ _ => pts_nil) (fun _ _ _ _ _ => pe_callTy (call_list_K rfl) (by rfl) T0.list (by decide +kernel) (pa_cons (pv 4) pa_nil))) rfl)
      (pss_cons (ps_fld (pv 0) (pv 1) rfl)
      (pss_cons (ps_fld (pv 0) pe_int rfl)
      (pss_cons (ps_fld (pv 0) (pe_lst pa_nil) rfl)
      (pss_one (ps_fld (pv 0) (pe_lst (pa_cons (pe_callTy call_list_of (by rfl) T0.list (by decide +kernel) (pa_cons (pe_ix ix_list (pe_fld (pv 0) rfl) (pv 1) (fun _ _ => rfl)) pa_nil)) pa_nil)) rfl))))))), ?_⟩
    obtain ⟨ws, ew, lw, gw, _⟩ := hb.ex
    -- self.start
    refine ⟨_, rfl, _, rfl, p, C, dx, _, rfl, hp, X.cl, X.start, (by show 0 < 1000; decide), ?_⟩
    have ap : a ≠ p := ne_of ha hp (by intro z; cases z)
    have bp : b ≠ p := ne_of ew hp (by intro z; cases z)
    -- self.stands
    refine ⟨_, rfl, a, _, rfl, .inl (SqL.of (by rw [upd_ne ap]; exact ha)), fun sA ns => ?_⟩
    have sp : p ≠ sA := fun z => by rw [← z, upd_same] at ns; cases ns
    have hsA : H sA = none := by rw [upd_ne sp.symm] at ns; exact ns
    refine ⟨_, rfl, p, C, dx, _, rfl, (by rw [upd_ne sp, upd_same]), X.cl, X.stands, Nat.lt_of_le_of_lt (few (Nat.le_refl _)) (by show 0 + 1 < 1000; decide), ?_⟩
    -- self.ways
    have B1 : Bt (fun z => z = p) H (upd (upd (upd H p (.ins C dx (putF "start" (.int (c.start : Nat)) []))) sA (.lst (c.S.map V.int))) p (.ins C dx (putF "stands" (.ref sA) (putF "start" (.int (c.start : Nat)) [])))) :=
      ((Bt.put (Z := fun z => z = p) rfl).trans (Bt.new ns)).trans (Bt.put rfl)
    have es1 : (upd (upd (upd H p (.ins C dx (putF "start" (.int (c.start : Nat)) []))) sA (.lst (c.S.map V.int))) p (.ins C dx (putF "stands" (.ref sA) (putF "start" (.int (c.start : Nat)) [])))) sA = some (.lst (c.S.map V.int)) := by rw [upd_ne sp.symm, upd_same]
    have ep1 : (upd (upd (upd H p (.ins C dx (putF "start" (.int (c.start : Nat)) []))) sA (.lst (c.S.map V.int))) p (.ins C dx (putF "stands" (.ref sA) (putF "start" (.int (c.start : Nat)) [])))) p = some (.ins C dx (putF "stands" (.ref sA) (putF "start" (.int (c.start : Nat)) []))) := upd_same
    generalize (upd (upd (upd H p (.ins C dx (putF "start" (.int (c.start : Nat)) []))) sA (.lst (c.S.map V.int))) p (.ins C dx (putF "stands" (.ref sA) (putF "start" (.int (c.start : Nat)) [])))) = H1 at B1 es1 ep1 ⊢
    have ew1 := B1 _ _ bp ew
    refine ⟨_, rfl, b, rfl, ⟨_, SqL.of ew1⟩, fun wA nw => ?_⟩
    have lws : (ws.map V.ref).length = c.n := by rw [List.length_map, lw, g.w]
    refine lc_new (walk_list (K := K) (a := b) (xs := ws.map V.ref)) (fun i => (gR c.W i).map V.int) (by rw [lws]; exact small hn (by decide)) nw (fun H s => SqL.of (s _ _ ew1)) (fun i x H2 H2' N hi s2 yy fin => ?_) fun H2 us s2 eD lu gu => ?_
    · obtain ⟨rfl, ex⟩ := yy
      rw [lws] at hi
      have hu : i < ws.length := by rw [lw, g.w]; exact hi
      rw [List.getElem?_map, List.getElem?_eq_getElem hu] at ex
      cases ex
      have et := gw i _ _ (List.getElem?_eq_getElem hu) (at_gR (W := c.W) (i := i) (by rw [g.w]; exact hi))
      have np : ws[i] ≠ p := ne_of et hp (by intro z; cases z)
      refine ⟨rfl, _, rfl, _, _, rfl, .inl (SqL.of (s2 _ _ (B1 _ _ np et))), fun l nl => ?_⟩
      exact fin _ l (Same.new nl) nl upd_same
    · rw [lws] at lu
      have nwH : H wA = none := by
        cases z : H wA with
        | none => rfl
        | some o =>
          have wp : wA ≠ p := fun t => by rw [t, ep1] at nw; cases nw
          rw [B1 _ _ wp z] at nw
          cases nw
      have wp : wA ≠ p := fun t => by rw [t, ep1] at nw; cases nw
      have wsn : sA ≠ wA := fun t => by rw [← t, es1] at nw; cases nw
      have gus : ∀ i t, us[i]? = some t → t ≠ p ∧ t ≠ wA ∧ t ≠ sA := fun i t et => by
        obtain ⟨f1, f2, _⟩ := gu i t et
        exact ⟨(fun z => by rw [z, ep1] at f1; cases f1), f2, (fun z => by rw [z, es1] at f1; cases f1)⟩
      refine ⟨_, rfl, p, C, dx, _, rfl, s2 _ _ ep1, X.cl, X.ways, Nat.lt_of_le_of_lt (few (few (Nat.le_refl _))) (by show 0 + 1 + 1 < 1000; decide), ?_⟩
      have B2 : Bt (fun z => z = p) H (upd H2 p (.ins C dx (putF "ways" (.ref wA) (putF "stands" (.ref sA) (putF "start" (.int (c.start : Nat)) []))))) := (B1.trans (Bt.same s2)).trans (Bt.put rfl)
      have es2 : (upd H2 p (.ins C dx (putF "ways" (.ref wA) (putF "stands" (.ref sA) (putF "start" (.int (c.start : Nat)) []))))) sA = some (.lst (c.S.map V.int)) := by rw [upd_ne sp.symm]; exact s2 _ _ es1
      have ew2 : (upd H2 p (.ins C dx (putF "ways" (.ref wA) (putF "stands" (.ref sA) (putF "start" (.int (c.start : Nat)) []))))) wA = some (.lst (us.map V.ref)) := by rw [upd_ne wp]; exact eD
      have eu2 : ∀ i t, us[i]? = some t → (upd H2 p (.ins C dx (putF "ways" (.ref wA) (putF "stands" (.ref sA) (putF "start" (.int (c.start : Nat)) []))))) t = some (.lst ((gR c.W i).map V.int)) := fun i t et => by
        rw [upd_ne (gus i t et).1]
        exact (gu i t et).2.2
      have ep2 : (upd H2 p (.ins C dx (putF "ways" (.ref wA) (putF "stands" (.ref sA) (putF "start" (.int (c.start : Nat)) []))))) p = some (.ins C dx (putF "ways" (.ref wA) (putF "stands" (.ref sA) (putF "start" (.int (c.start : Nat)) [])))) := upd_same
      generalize (upd H2 p (.ins C dx (putF "ways" (.ref wA) (putF "stands" (.ref sA) (putF "start" (.int (c.start : Nat)) []))))) = H3 at B2 es2 ew2 eu2 ep2 ⊢
      -- self.now, self.spent
      refine ⟨_, rfl, _, rfl, p, C, dx, _, rfl, ep2, X.cl, X.now, Nat.lt_of_le_of_lt (few (few (few (Nat.le_refl _)))) (by show 0 + 1 + 1 + 1 < 1000; decide), ?_⟩
      refine ⟨_, rfl, p, C, dx, _, rfl, upd_same, X.cl, X.spent, Nat.lt_of_le_of_lt (few (few (few (few (Nat.le_refl _))))) (by show 0 + 1 + 1 + 1 + 1 < 1000; decide), ?_⟩
      -- self.tasks
      refine ⟨by show 0 ≤ sizeLine; decide, fun tA nt => ?_⟩
      have tp : p ≠ tA := fun z => by rw [← z, upd_same] at nt; cases nt
      have nt3 : H3 tA = none := by rw [upd_ne tp.symm, upd_ne tp.symm] at nt; exact nt
      refine ⟨_, rfl, p, C, dx, _, rfl, (by rw [upd_ne tp, upd_same]), X.cl, X.tasks, Nat.lt_of_le_of_lt (few (few (few (few (few (Nat.le_refl _)))))) (by show 0 + 1 + 1 + 1 + 1 + 1 < 1000; decide), ?_⟩
      have st : sA ≠ tA := fun z => by rw [← z, es2] at nt3; cases nt3
      have wt : wA ≠ tA := fun z => by rw [← z, ew2] at nt3; cases nt3
      have ut : ∀ i t, us[i]? = some t → t ≠ tA := fun i t et z => by
        have := eu2 i t et
        rw [z, nt3] at this
        cases this
      have tnH : H tA = none := by
        cases z : H tA with
        | none => rfl
        | some o => rw [B2 _ _ tp.symm z] at nt3; cases nt3
      have B3 : ∀ b o, ¬ b = p → H3 b = some o → (upd (upd (upd (upd H3 p (.ins C dx (putF "now" (.int (c.start : Nat)) (putF "ways" (.ref wA) (putF "stands" (.ref sA) (putF "start" (.int (c.start : Nat)) [])))))) p
        (.ins C dx (putF "spent" (.int 0) (putF "now" (.int (c.start : Nat)) (putF "ways" (.ref wA) (putF "stands" (.ref sA) (putF "start" (.int (c.start : Nat)) []))))))) tA (.lst [])) p
        (.ins C dx (putF "tasks" (.ref tA) (putF "spent" (.int 0) (putF "now" (.int (c.start : Nat)) (putF "ways" (.ref wA) (putF "stands" (.ref sA) (putF "start" (.int (c.start : Nat)) [])))))))) b = some o := fun b o n e => by
        rw [upd_ne n, upd_ne (ne_of_none e nt3), upd_ne n, upd_ne n]
        exact e
      have et3 : (upd (upd (upd (upd H3 p (.ins C dx (putF "now" (.int (c.start : Nat)) (putF "ways" (.ref wA) (putF "stands" (.ref sA) (putF "start" (.int (c.start : Nat)) [])))))) p
        (.ins C dx (putF "spent" (.int 0) (putF "now" (.int (c.start : Nat)) (putF "ways" (.ref wA) (putF "stands" (.ref sA) (putF "start" (.int (c.start : Nat)) []))))))) tA (.lst [])) p
        (.ins C dx (putF "tasks" (.ref tA) (putF "spent" (.int 0) (putF "now" (.int (c.start : Nat)) (putF "ways" (.ref wA) (putF "stands" (.ref sA) (putF "start" (.int (c.start : Nat)) [])))))))) tA = some (.lst []) := by rw [upd_ne tp.symm, upd_same]
      have ep3 : (upd (upd (upd (upd H3 p (.ins C dx (putF "now" (.int (c.start : Nat)) (putF "ways" (.ref wA) (putF "stands" (.ref sA) (putF "start" (.int (c.start : Nat)) [])))))) p
        (.ins C dx (putF "spent" (.int 0) (putF "now" (.int (c.start : Nat)) (putF "ways" (.ref wA) (putF "stands" (.ref sA) (putF "start" (.int (c.start : Nat)) []))))))) tA (.lst [])) p
        (.ins C dx (putF "tasks" (.ref tA) (putF "spent" (.int 0) (putF "now" (.int (c.start : Nat)) (putF "ways" (.ref wA) (putF "stands" (.ref sA) (putF "start" (.int (c.start : Nat)) [])))))))) p =
        some (.ins C dx (putF "tasks" (.ref tA) (putF "spent" (.int 0) (putF "now" (.int (c.start : Nat)) (putF "ways" (.ref wA) (putF "stands" (.ref sA) (putF "start" (.int (c.start : Nat)) []))))))) := upd_same
      generalize (upd (upd (upd (upd H3 p (.ins C dx (putF "now" (.int (c.start : Nat)) (putF "ways" (.ref wA) (putF "stands" (.ref sA) (putF "start" (.int (c.start : Nat)) [])))))) p
        (.ins C dx (putF "spent" (.int 0) (putF "now" (.int (c.start : Nat)) (putF "ways" (.ref wA) (putF "stands" (.ref sA) (putF "start" (.int (c.start : Nat)) []))))))) tA (.lst [])) p
        (.ins C dx (putF "tasks" (.ref tA) (putF "spent" (.int 0) (putF "now" (.int (c.start : Nat)) (putF "ways" (.ref wA) (putF "stands" (.ref sA) (putF "start" (.int (c.start : Nat)) [])))))))) = H4 at B3 et3 ep3 ⊢
      have hst : c.start < us.length := by rw [lu]; exact g.st
      have e0 := List.getElem?_eq_getElem hst
      have n0 := (gus _ _ e0).1
      refine ⟨_, rfl, p, C, dx, _, _, rfl, ep3, X.cl, X.ways, ?_, _, rfl, wA, _, _, V.ref us[c.start], rfl, rfl, SqL.of (B3 _ _ wp ew2), atI_nat (by rw [List.getElem?_map, e0]; rfl), _, _, rfl, .inl (SqL.of (B3 _ _ n0 (eu2 _ _ e0))), fun t0 nt0 => ?_⟩
      · rw [lookup_putF, if_neg k_ways_tasks, lookup_putF, if_neg k_ways_spent, lookup_putF, if_neg k_ways_now, lookup_putF, if_pos rfl]
      refine ⟨by show 1 ≤ sizeLine; decide, fun kA nk => ?_⟩
      have tk0 : t0 ≠ kA := fun z => by rw [← z, upd_same] at nk; cases nk
      have pk : p ≠ kA := fun z => by rw [← z, upd_ne (ne_of_none ep3 nt0), ep3] at nk; cases nk
      have pt : p ≠ t0 := ne_of_none ep3 nt0
      have nk4 : H4 kA = none := by rw [upd_ne tk0.symm] at nk; exact nk
      refine ⟨_, rfl, p, C, dx, _, rfl, (by rw [upd_ne pk, upd_ne pt]; exact ep3), X.cl, X.works, Nat.lt_of_le_of_lt (few (few (few (few (few (few (Nat.le_refl _))))))) (by show 0 + 1 + 1 + 1 + 1 + 1 + 1 < 1000; decide), ?_⟩
      have B5 : ∀ b o, ¬ b = p → H4 b = some o → (upd (upd (upd H4 t0 (.lst ((gR c.W c.start).map V.int))) kA (.lst [V.ref t0])) p (.ins C dx (polF (.int (c.start : Nat)) (.ref sA) (.ref wA) (.int (c.start : Nat)) (.int 0) (.ref tA) (.ref kA)))) b = some o := fun b o n e => by
        rw [upd_ne n, upd_ne (ne_of_none e nk4), upd_ne (ne_of_none e nt0)]
        exact e
      have a1 : ∀ b o, ¬ b = p → H3 b = some o → b ≠ kA := fun b o n e => ne_of_none (B3 b o n e) nk4
      have tk : tA ≠ kA := ne_of_none et3 nk4
      have nkH : H kA = none := by
        cases z : H kA with
        | none => rfl
        | some o => rw [B3 _ _ pk.symm (B2 _ _ pk.symm z)] at nk4; cases nk4
      refine q _ sA wA tA kA ⟨⟨dx, upd_same⟩, B5 _ _ sp.symm (B3 _ _ sp.symm es2), ⟨us, B5 _ _ wp (B3 _ _ wp ew2), by rw [lu, g.w], fun i t xs f1 f2 => ?_, fun t m => ?_⟩, ⟨[], B5 _ _ tp.symm et3, rfl, fun i t xs f1 f2 => by simp at f1, fun t m => by cases m⟩,
        ⟨[t0], ?_, rfl, fun i t xs f1 f2 => ?_, fun t m => ?_⟩, ⟨tk, wt, a1 _ _ wp ew2, st, a1 _ _ sp.symm es2⟩, fun b z n => ?_, ⟨fun z => z.2 rfl, fun z => z.1 hsA, fun z => z.1 nwH, fun z => z.1 tnH, fun z => z.1 nkH⟩⟩ (fun b o e n => B5 _ _ n (B3 _ _ n (B2 _ _ n e))) ⟨hsA, nwH, tnH, nkH⟩
      · have := gR_at f2
        rw [← this]
        exact B5 _ _ (gus i t f1).1 (B3 _ _ (gus i t f1).1 (eu2 i t f1))
      · obtain ⟨i, ei⟩ := List.mem_iff_getElem?.mp m
        rintro ((z | z) | z)
        · exact ut i t ei z
        · exact a1 _ _ (gus i t ei).1 (eu2 i t ei) z
        · have f1 := (gu i t ei).1
          cases w : H t with
          | none => exact z.1 w
          | some o => rw [B1 _ _ z.2 w] at f1; cases f1
      · rw [upd_ne pk.symm, upd_same]
        rfl
      · cases i with
        | zero =>
          cases f1
          cases f2
          show upd (upd (upd H4 t0 _) kA _) p _ t0 = _
          rw [upd_ne pt.symm, upd_ne tk0, upd_same]
        | succ i => simp at f1
      · rw [List.mem_singleton.mp m]
        rintro ((z | z) | z)
        · rw [z, et3] at nt0; cases nt0
        · exact tk0 z
        · cases w : H t0 with
          | none => exact z.1 w
          | some o => rw [B3 _ _ z.2 (B2 _ _ z.2 w)] at nt0; cases nt0
      · cases w : H b with
        | none => exact z.1 w
        | some o => exact absurd ((B5 _ _ z.2 (B3 _ _ z.2 (B2 _ _ z.2 w))).symm.trans n) (fun t => by cases t)
end
end K1
namespace K1
open PySem PySem.Spec PyProof.Rows L2 Ow Po Z3
abbrev sServe : Stmt := inClass sPol 3
abbrev NServe : List Str := ["self", "task", "at", "numbers", "chosen", "place"]
theorem scServe : FnScope NServe ["self", "task"] (defScope sServe) := ⟨rfl, rfl, rfl, by decide +kernel, rfl, by decide +kernel, by decide +kernel⟩
def chF (c : Pr) (w e : List Int) (now : Nat) : Nat := if minL (sums c w e now) < gI (sums c w e now) now then argL (sums c w e now) else now
theorem chF_lt {c : Pr} (g : Good c) {w e : List Int} {now : Nat} (h : now < c.n) : chF c w e now < c.n := by
  unfold chF
  split
  · exact (argmk g.pos).1
  · exact h
def spServe (K : PySem.W.Frag) (C : Addr) : Sp := fun vs H Q _ => ∃ (Z : Addr → Prop) (p a sA wA tA kA : Addr) (c : Pr) (now : Nat) (spent : Int) (T Kw : List (List Int)) (w e : List Int), vs = [.ref p, .ref a] ∧ PolAt C Z H p sA wA tA kA c now spent T Kw ∧ Good c ∧ c.n ≤ 1000 ∧
  LI H a e ∧ e.length = c.n ∧ a ≠ tA ∧ a ≠ kA ∧ Kw.length = T.length + 1 ∧ Kw[T.length]? = some w ∧ w.length = c.n ∧ now < c.n ∧ T.length < 1000 ∧
  ∀ H', PolAt C Z H' p sA wA tA kA c (chF c w e now) (spent + (goF c now (chF c w e now) + gI e (chF c w e now))) (T ++ [e]) (Kw ++ [stepW c w e]) → Bt (fun b => b = p ∨ b = tA ∨ b = kA) H H' → Q (.int (chF c w e now : Nat)) H'
theorem sums_len (c : Pr) (w e : List Int) (y : Nat) : (sums c w e y).length = c.n := mk_len _ _
section
variable {P : Program} {w : World} {K : PySem.W.Frag} {mg : Str → Option Value} {base : Heap}
theorem ok_serve {f C : Addr} {fd : FuncData} (F : Fun K "serve" "Policy.serve" sServe f fd) (T0 : Bl mg) (X : Txt K mg C) (DF : Kn P w K mg base 1 "first_least" ["numbers"] (spFirstLeast K))
    (DG : Kmt P w K mg base C 1 "going" ["self", "first", "second"] (spGoing C)) (DS : Kmt P w K mg base C 1 "sums" ["self", "at", "place"] (spSums C)) :
    FnOk P w K mg base CX0 2 f fd ["self", "task"] (spServe K C) := by
  refine F.ok scServe (fun vs H Q E h => ?_) (fun cdv A outer s H vs Q E hr h => ?_)
  · obtain ⟨Z, p, a, sA, wA, tA, kA, c, now, spent, T, Kw, w', e, rfl, _⟩ := h
    rfl
  · obtain ⟨Z, p, a, sA, wA, tA, kA, c, now, spent, T, Kw, w', e, rfl, D, g, hn, ha, le, at1, at2, lK, eK, lw, hnow, hT, q⟩ := h
    obtain ⟨dx, ob⟩ := D.ob
    refine ⟨_, pss_cons (ps_set (i := 2) scServe.nd rfl (.inr rfl) (pe_callB call_len_seq (by rfl) T0.len PySem.boot_len (pa_cons (pe_fld (pv 0) rfl) pa_nil)))
      (pss_cons (ps_expr (pe_bm PySem.F.plainAttrs_list PySem.F.slot_list_append PySem.F.type_list_append mt_append (pe_fld (pv 0) rfl) (pa_cons (pe_callTy call_list_of (by rfl) T0.list (by decide +kernel) (pa_cons (pv 1) pa_nil)) pa_nil)))
      (pss_cons (ps_expr (pe_bm PySem.F.plainAttrs_list PySem.F.slot_list_append PySem.F.type_list_append mt_append (pe_fld (pv 0) rfl) (pa_cons
        (pe_lc (own := [("place", 5)]) (g := gName 5) (tt := tYes) rfl scServe.nd (pi_range1 (by rfl) T0.range (pa_cons (pe_callB call_len_seq (by rfl) T0.len PySem.boot_len (pa_cons (pe_fld (pv 0) rfl) pa_nil)) pa_nil))
          (blkOk_by (own := [("place", 5)]) (N := NServe) (sc := defScope sServe) (by decide +kernel)) (fun _ _ _ _ _ => pg_name (i := 5) scServe.nd rfl (Or.inl rfl)) (fun _ _ _ _ _ => pts_nil)
          (fun _ _ _ _ _ => pe_callB (call_min_K rfl rfl) (by rfl) T0.min (by decide +kernel) (pa_cons (pe_mt DS hr (pv 0) (pa_cons (pv 2) (pa_cons (pv 5) pa_nil))) pa_nil))) pa_nil)))
      (pss_cons (ps_set (i := 3) scServe.nd rfl (.inl rfl) (pe_mt DS hr (pv 0) (pa_cons (pv 2) (pa_cons (pe_fld (pv 0) rfl) pa_nil))))
      (pss_cons (ps_set (i := 4) scServe.nd rfl (.inl rfl) (pe_fld (pv 0) rfl))
      (pss_mid (ps_if (pt_cmpR op_lt (pe_callB (cr_min rfl) (by rfl) T0.min (by decide +kernel) (pa_cons (pv 3) pa_nil)) (pe_ix ix_list (pv 3) (pv 4) (fun _ _ => rfl)) (nomark _)) (pss_one (ps_set (i := 4) scServe.nd rfl (.inl rfl) (pe_kn DF hr (pa_cons (pv 3) pa_nil)))) pss_nil)
      (pss_cons (ps_fldaug (pv 0) (pe_op op_add (pe_mt DG hr (pv 0) (pa_cons (pe_fld (pv 0) rfl) (pa_cons (pv 4) pa_nil))) (pe_ix ix_list (pv 1) (pv 4) (fun _ _ => rfl))) in_add)
      (pss_cons (ps_fld (pv 0) (pv 4) rfl)
      (pss_one (ps_ret (pv 4)))))))))), ?_⟩
    obtain ⟨ts, et, lts, gts, nts⟩ := D.t.ex
    -- at = len(self.tasks)
    refine ⟨_, rfl, p, C, dx, _, _, rfl, ob, X.cl, X.tasks, polF_tasks _ _ _ _ _ _ _, _, _, rfl, .inl (SqL.of et), ?_⟩
    -- self.tasks.append(list(task))
    refine ⟨_, rfl, p, C, dx, _, _, rfl, ob, X.cl, X.tasks, polF_tasks _ _ _ _ _ _ _, .inl ⟨rfl, _, SqL.of et⟩, _, rfl, a, _, rfl, .inl ha.seq, fun l nl => ?_⟩
    have ltA : tA ≠ l := ne_of_none et nl
    have tlen : (ts.map V.ref).length < sizeLine := by rw [List.length_map, lts]; exact small (Nat.le_of_lt hT) (by decide)
    refine ⟨tA, _, _, rfl, rfl, (by rw [upd_ne ltA]; exact et), tlen, ?_⟩
    have D1 : PolAt C Z (upd (upd H l (.lst (e.map V.int))) tA (.lst (ts.map V.ref ++ [.ref l]))) p sA wA tA kA c now spent (T ++ [e]) Kw := by
      obtain ⟨n1, n2, n3, n4, n5⟩ := D.ne
      have ptA : p ≠ tA := ne_of ob et (by intro z; cases z)
      have B : Bt (fun b => b = tA) H (upd (upd H l (.lst (e.map V.int))) tA (.lst (ts.map V.ref ++ [.ref l]))) := (Bt.new nl).trans (Bt.put (Z := fun b => b = tA) rfl)
      have hz : ∀ t, t = tA → ((t = tA ∨ t = kA) ∨ Z t) ∨ ∀ xs : List Int, ¬ LI H t xs := fun t z => .inl (.inl (.inl z))
      refine ⟨⟨dx, B _ _ ptA ob⟩, D.s.bt B n4, D.w.bt B n2 hz, LL.snoc D.t et upd_same ?_ (fun z => ?_) (fun b zs hb nb => hb.bt B fun z => nb (.inl (.inl z))), D.k.bt B n1.symm hz, D.ne, al_upd (al_upd D.al), D.nz⟩
      · show upd (upd H l _) tA _ l = _
        rw [upd_ne ltA.symm, upd_same]
      · obtain ⟨ks, ek, _⟩ := D.k.ex
        rcases z with (z | z) | z
        · exact ltA z.symm
        · exact ne_of_none ek nl z.symm
        · exact D.al _ z nl
    have B1 : Bt (fun b => b = p ∨ b = tA ∨ b = kA) H (upd (upd H l (.lst (e.map V.int))) tA (.lst (ts.map V.ref ++ [.ref l]))) := (Bt.new nl).trans (Bt.put (Z := fun b => b = p ∨ b = tA ∨ b = kA) (.inr (.inl rfl)))
    have ha1 : LI (upd (upd H l (.lst (e.map V.int))) tA (.lst (ts.map V.ref ++ [.ref l]))) a e := ha.bt B1 (fun z => by
      rcases z with z | z | z
      · rw [z] at ha; rw [ha] at ob; cases ob
      · exact at1 z
      · exact at2 z)
    generalize (upd (upd H l (.lst (e.map V.int))) tA (.lst (ts.map V.ref ++ [.ref l]))) = H1 at D1 B1 ha1 ⊢
    -- self.works.append([..])
    obtain ⟨dx1, ob1⟩ := D1.ob
    obtain ⟨ks, ek, lks, gks, nks⟩ := D1.k.ex
    refine ⟨_, rfl, p, C, dx1, _, _, rfl, ob1, X.cl, X.works, polF_works _ _ _ _ _ _ _, .inl ⟨rfl, _, SqL.of ek⟩, _, rfl, p, C, dx1, _, _, rfl, ob1, X.cl, X.stands, polF_stands _ _ _ _ _ _ _, _, _, rfl, .inl D1.s.seq, _, rfl, ?_, ?_, fun D0 nD => ?_⟩
    · rw [List.length_map, g.s]; omega
    · rw [List.length_map, g.s]; omega
    have en : (((c.S.map V.int).length : Nat) : Int).toNat = c.n := by rw [List.length_map, g.s]; rfl
    have eT1 : (T ++ [e])[(ts.map V.ref).length]? = some e := by rw [List.length_map, lts]; simp
    have eK1 : Kw[(ts.map V.ref).length]? = some w' := by rw [List.length_map, lts]; exact eK
    refine lc_mk (walk_range (lo := 0)) (fun i => V.int (minL (sums c w' e i))) (by rw [en]; exact small hn (by decide)) nD (fun _ _ => trivial) (fun i x H2 H2' N hi s2 yy fin => ?_) fun H2 s2 eD => ?_
    · obtain ⟨rfl, ex⟩ := yy
      rw [en] at hi
      have ex : x = V.int (i : Nat) := by rw [ex]; show V.int (0 + (i : Int)) = _; rw [Int.zero_add]
      subst ex
      have D2 := D1.same s2
      obtain ⟨dx2, ob2⟩ := D2.ob
      refine ⟨rfl, _, rfl, p, dx2, _, rfl, ob2, polF_no_sums _ _ _ _ _ _ _, _, rfl, _, rfl, Z, p, sA, wA, tA, kA, c, now, spent, T ++ [e], Kw, (ts.map V.ref).length, i, w', e, rfl, D2, g, hi, hn, eK1, eT1, lw, le, fun H3 l3 s3 n3 h3 => ?_⟩
      refine ⟨l3, _, rfl, h3.seq, by rw [sums_len]; exact g.pos, fun m hm hle => ?_⟩
      rw [minL_eq hm hle]
      exact fin _ s3
    rw [en] at eD
    have eD' : LI H2 D0 (stepW c w' e) := by
      show H2 D0 = _
      rw [eD]
      unfold stepW mk
      rw [List.map_map]
      rfl
    have D2 := D1.same s2
    have ekH : H2 kA = some (.lst (ks.map V.ref)) := s2 _ _ ek
    refine ⟨kA, _, _, rfl, rfl, ekH, by rw [List.length_map, lks, lK]; exact small (show T.length + 1 ≤ 1000 by omega) (by decide), ?_⟩
    obtain ⟨n1, n2, n3, n4, n5⟩ := D.ne
    have kD : kA ≠ D0 := fun z => by rw [← z, ek] at nD; cases nD
    obtain ⟨ts1, et1, _⟩ := D1.t.ex
    have tD : tA ≠ D0 := fun z => by rw [← z, et1] at nD; cases nD
    have D3 : PolAt C Z (upd H2 kA (.lst (ks.map V.ref ++ [.ref D0]))) p sA wA tA kA c now spent (T ++ [e]) (Kw ++ [stepW c w' e]) := by
      obtain ⟨dx2, ob2⟩ := D2.ob
      have pkA : p ≠ kA := ne_of ob2 ekH (by intro z; cases z)
      have B : Bt (fun b => b = kA) H2 (upd H2 kA (.lst (ks.map V.ref ++ [.ref D0]))) := Bt.put (Z := fun b => b = kA) rfl
      have hz : ∀ t, t = kA → ((t = tA ∨ t = kA) ∨ Z t) ∨ ∀ xs : List Int, ¬ LI H2 t xs := fun t z => .inl (.inl (.inr z))
      refine ⟨⟨dx2, B _ _ pkA ob2⟩, D2.s.bt B n5, D2.w.bt B n3 hz, D2.t.bt B n1 hz, LL.snoc D2.k ekH upd_same (eD'.bt B kD.symm) (fun z => ?_) (fun b zs hb nb => hb.bt B fun z => nb (.inl (.inr z))), D.ne, al_upd D2.al, D.nz⟩
      rcases z with (z | z) | z
      · exact tD z.symm
      · exact kD z.symm
      · exact D1.al _ z nD
    have B3 : Bt (fun b => b = p ∨ b = tA ∨ b = kA) H (upd H2 kA (.lst (ks.map V.ref ++ [.ref D0]))) := (B1.trans (Bt.same s2)).trans (Bt.put (Z := fun b => b = p ∨ b = tA ∨ b = kA) (.inr (.inr rfl)))
    have ha3 : LI (upd H2 kA (.lst (ks.map V.ref ++ [.ref D0]))) a e := (ha1.same s2).bt (Bt.put (Z := fun b => b = kA) rfl) at2
    generalize (upd H2 kA (.lst (ks.map V.ref ++ [.ref D0]))) = H3 at D3 B3 ha3 ⊢
    -- numbers, chosen
    obtain ⟨dx3, ob3⟩ := D3.ob
    have eK3 : (Kw ++ [stepW c w' e])[(ts.map V.ref).length]? = some w' := by rw [List.getElem?_append_left (List.getElem?_eq_some_iff.mp eK1).1]; exact eK1
    refine ⟨_, rfl, p, dx3, _, rfl, ob3, polF_no_sums _ _ _ _ _ _ _, _, rfl, _, rfl, p, C, dx3, _, _, rfl, ob3, X.cl, X.now, polF_now _ _ _ _ _ _ _, Z, p, sA, wA, tA, kA, c, now, spent, T ++ [e], _, (ts.map V.ref).length, now, w', e, rfl, D3, g, hnow, hn, eK3, eT1, lw, le, fun H4 l4 s4 nl4 h4 => ?_⟩
    have D4 := D3.same s4
    obtain ⟨dx4, ob4⟩ := D4.ob
    have sne : sums c w' e now ≠ [] := mk_ne g.pos
    refine ⟨_, rfl, p, C, dx4, _, _, rfl, ob4, X.cl, X.now, polF_now _ _ _ _ _ _ _, ?_⟩
    -- the choice
    refine ⟨fun σ' H' => σ' = [some (.ref p), some (.ref a), some (.int ((ts.map V.ref).length : Nat)), some (.ref l4), some (.int (chF c w' e now : Nat)), none] ∧ H' = H4, ?_, ?_⟩
    · refine ⟨_, rfl, l4, _, rfl, h4.seq, by rw [sums_len]; exact g.pos, fun m hm hle => ?_⟩
      refine ⟨_, rfl, _, rfl, _, _, _, _, rfl, rfl, h4.seq, atI_nat (li_at (by rw [sums_len]; exact hnow)), _, _, rfl, rfl, _, rfl, ?_⟩
      have em : m = minL (sums c w' e now) := minL_eq hm hle
      subst em
      unfold chF
      by_cases hlt : minL (sums c w' e now) < gI (sums c w' e now) now
      · rw [decide_eq_true hlt, if_pos hlt]
        refine iteT ?_
        exact ⟨_, rfl, l4, _, rfl, h4.seq, sne, rfl, rfl⟩
      · rw [decide_eq_false hlt, if_neg hlt]
        refine iteF ?_
        exact ⟨rfl, rfl⟩
    · rintro σ' H' ⟨rfl, rfl⟩
      have hc := chF_lt g (w := w') (e := e) hnow
      refine ⟨_, rfl, p, C, dx4, _, _, rfl, ob4, X.cl, X.spent, polF_spent _ _ _ _ _ _ _, _, rfl, p, dx4, _, rfl, ob4, polF_no_going _ _ _ _ _ _ _, _, rfl, p, C, dx4, _, _, rfl, ob4, X.cl, X.now, polF_now _ _ _ _ _ _ _, _, rfl,
        Z, p, sA, wA, tA, kA, c, now, spent, _, _, now, chF c w' e now, rfl, D4, g, hnow, hc, _, rfl, _, rfl, _, _, _, _, rfl, rfl, (ha3.same s4).seq, atI_nat (li_at (by rw [le]; exact hc)), _, _, rfl, rfl, ?_⟩
      refine ⟨_, _, rfl, rfl, dx4, _, ob4, Nat.lt_of_le_of_lt (polF_len _ _ _ _ _ _ _) (by decide), ?_⟩
      refine ⟨_, rfl, _, rfl, p, C, dx4, _, rfl, upd_same, X.cl, X.now, (by rw [put_spent]; exact Nat.lt_of_le_of_lt (polF_len _ _ _ _ _ _ _) (by decide)), ?_⟩
      refine ⟨_, rfl, ?_⟩
      have B : Bt (fun b => b = p) H' (upd (upd H' p (.ins C dx4 (putF "spent" (.int (spent + (goF c now (chF c w' e now) + gI e (chF c w' e now)))) (polF (.int (c.start : Nat)) (.ref sA) (.ref wA) (.int (now : Nat)) (.int spent) (.ref tA) (.ref kA))))) p
        (.ins C dx4 (putF "now" (.int (chF c w' e now : Nat)) (putF "spent" (.int (spent + (goF c now (chF c w' e now) + gI e (chF c w' e now)))) (polF (.int (c.start : Nat)) (.ref sA) (.ref wA) (.int (now : Nat)) (.int spent) (.ref tA) (.ref kA)))))) :=
        (Bt.put (Z := fun b => b = p) rfl).trans (Bt.put (Z := fun b => b = p) rfl)
      have hz : ∀ t, t = p → ((t = tA ∨ t = kA) ∨ Z t) ∨ ∀ xs : List Int, ¬ LI H' t xs := fun t z => .inr fun xs hx => by
        rw [z] at hx
        rw [show H' p = _ from hx] at ob4
        cases ob4
      obtain ⟨u1, f1, _⟩ := D4.w.ex
      obtain ⟨u2, f2, _⟩ := D4.t.ex
      obtain ⟨u3, f3, _⟩ := D4.k.ex
      refine q _ ⟨⟨dx4, by rw [upd_same, put_spent, put_now]⟩, D4.s.bt B (ne_of D4.s ob4 (by intro z; cases z)), D4.w.bt B (ne_of f1 ob4 (by intro z; cases z)) hz, D4.t.bt B (ne_of f2 ob4 (by intro z; cases z)) hz, D4.k.bt B (ne_of f3 ob4 (by intro z; cases z)) hz, D4.ne, al_upd (al_upd D4.al), D4.nz⟩ ?_
      exact (B3.trans (Bt.same s4)).trans fun b o nb eb => B b o (fun z => nb (.inl z)) eb
end
end K1
namespace K1
open PySem PySem.Spec PyProof.Rows L2 Ow Po Z3
abbrev s_law_draw : Stmt := topS 5
abbrev N_law_draw : List Str := ["script", "k", "cell", "turn", "step"]
theorem sc_law_draw : FnScope N_law_draw ["script", "k"] (defScope s_law_draw) := ⟨rfl, rfl, rfl, by decide +kernel, rfl, by decide +kernel, by decide +kernel⟩
abbrev s_law_task : Stmt := topS 7
abbrev N_law_task : List Str := ["number", "count", "k"]
theorem sc_law_task : FnScope N_law_task ["number", "count"] (defScope s_law_task) := ⟨rfl, rfl, rfl, by decide +kernel, rfl, by decide +kernel, by decide +kernel⟩
abbrev s_law_going : Stmt := topS 8
abbrev N_law_going : List Str := ["costs", "first", "second"]
theorem sc_law_going : FnScope N_law_going ["costs", "first", "second"] (defScope s_law_going) := ⟨rfl, rfl, rfl, by decide +kernel, rfl, by decide +kernel, by decide +kernel⟩
def spDraw (K : PySem.W.Frag) : Sp := fun vs H Q _ => ∃ (a : Addr) (ns : List Int) (k : Nat), vs = [.ref a, .int (k : Nat)] ∧ SqL K H a (ns.map V.int) ∧ ns.length ≤ 63 ∧ k ≤ 100000 ∧ Q (.int (drawF ns k)) H
def spTask : Sp := fun vs H Q _ => ∃ (d : Int) (n : Nat), vs = [.int d, .int (n : Nat)] ∧ n ≤ 1000 ∧ ∀ H' l, Same H H' → H l = none → LI H' l (taskF d n) → Q (.ref l) H'
/-- the prices as a tuple -/
structure CoAt (K : PySem.W.Frag) (av : Addr → Prop) (H : Hp) (t : Addr) (c : Pr) : Prop where
  ex : ∃ a b : Addr, SqT K H t [.int (c.start : Nat), .ref a, .ref b] ∧ LI H a c.S ∧ LL av H b c.W
theorem CoAt.same {K : PySem.W.Frag} {av : Addr → Prop} {H H' : Hp} {t : Addr} {c : Pr} (s : Same H H') (h : CoAt K av H t c) : CoAt K av H' t c := by
  obtain ⟨a, b, e, f, g⟩ := h.ex
  refine ⟨a, b, ?_, f.same s, g.same s⟩
  rcases e with (h | ⟨o, h⟩) | h
  · exact .inl (.inl (s _ _ h))
  · exact .inl (.inr ⟨o, s _ _ h⟩)
  · exact .inr h
def spLGoing (K : PySem.W.Frag) : Sp := fun vs H Q _ => ∃ (t : Addr) (c : Pr) (av : Addr → Prop) (x y : Nat), vs = [.ref t, .int (x : Nat), .int (y : Nat)] ∧ CoAt K av H t c ∧ Good c ∧ x < c.n ∧ y < c.n ∧ Q (.int (goF c x y)) H
theorem min60 (t : Nat) : (if (60 : Int) < ((t : Nat) : Int) then (60 : Int) else ((t : Nat) : Int)).toNat = min t 60 := by rw [Nat.min_def]; split <;> split <;> omega
theorem min60b {t : Nat} (h : t ≤ 100000) : -(2 ^ 62) ≤ (if (60 : Int) < ((t : Nat) : Int) then (60 : Int) else ((t : Nat) : Int)) ∧ (if (60 : Int) < ((t : Nat) : Int) then (60 : Int) else ((t : Nat) : Int)) < 2 ^ 62 := by
  split <;> constructor <;> omega
section
variable {P : Program} {w : World} {K : PySem.W.Frag} {mg : Str → Option Value} {base : Heap}
theorem ok_draw {f : Addr} {fd : FuncData} (F : Fun K "_law_draw" "_law_draw" s_law_draw f fd) (T0 : Bl mg) :
    FnOk P w K mg base CX0 1 f fd ["script", "k"] (spDraw K) := by
  refine F.ok sc_law_draw (fun vs H Q E h => ?_) (fun cdv A outer s H vs Q E hr h => ?_)
  · obtain ⟨a, ns, k, rfl, _⟩ := h
    rfl
  · obtain ⟨a, ns, k, rfl, hs, hl, hk, q⟩ := h
    refine ⟨_, (pss_cons (ps_if (pt_not (pt_truth (pv 0) (fun _ => rfl))) (pss_one (ps_ret (pe_op op_mod (pe_op op_mul (pv 1) pe_int) pe_int))) pss_nil)
      (pss_cons (ps_set (i := 2) sc_law_draw.nd rfl (.inl rfl) (pe_callTy call_int1 (by rfl) T0.int (by decide +kernel) (pa_cons (pe_ix ix_list (pv 0) (pe_op op_mod (pv 1) (pe_callB call_len_seq (by rfl) T0.len PySem.boot_len (pa_cons (pv 0) pa_nil))) (fun _ _ => rfl)) pa_nil)))
      (pss_cons (ps_set (i := 3) sc_law_draw.nd rfl (.inl rfl) (pe_op op_fdiv (pv 1) (pe_callB call_len_seq (by rfl) T0.len PySem.boot_len (pa_cons (pv 0) pa_nil))))
      (pss_cons (ps_if (pt_cmpR op_ge (pv 2) pe_int (nomark _)) (pss_cons (ps_for PassesOwn.never rfl (pi_range1 (by rfl) T0.range (pa_cons (pe_callB (call_min2 rfl) (by rfl) T0.min (by decide +kernel) (pa_cons (pv 3) (pa_cons pe_int pa_nil))) pa_nil)) (pg_name (i := 4) sc_law_draw.nd rfl (.inl rfl)) (pss_one (ps_set (i := 2) sc_law_draw.nd rfl (.inl rfl) (pe_op op_fdiv (pv 2) pe_int))))
      (pss_one (ps_ret (pe_op op_mod (pv 2) pe_int)))) pss_nil)
      (pss_one (ps_ret (pe_op op_mod (pe_op op_mul (pe_op op_mod (pe_op op_add (pe_op op_add (pe_op op_mul (pv 2) pe_int) (pe_op op_mul (pv 1) pe_int)) pe_int) pe_int) pe_int) pe_int))))))), ?_⟩
    refine ⟨_, rfl, _, .inl ⟨_, hs, rfl⟩, ?_⟩
    by_cases hz : ns.length = 0
    · have e0 : ns = [] := List.length_eq_zero_iff.mp hz
      subst e0
      refine iteT ?_
      refine ⟨_, rfl, _, 5, rfl, rfl, .inr ⟨by decide, by decide⟩, _, _, rfl, rfl, (by show (0 : Int) < 7; decide), ?_⟩
      unfold drawF at q
      rw [if_pos hz] at q
      exact q
    · have e0 : (ns.map V.int).isEmpty = false := by
        cases ns with
        | nil => exact absurd rfl hz
        | cons a r => rfl
      rw [e0]
      refine iteF ?_
      have pos : 0 < ns.length := Nat.pos_of_ne_zero hz
      have hm : k % ns.length < ns.length := Nat.mod_lt _ pos
      have cl : ((ns.map V.int).length : Int) = (ns.length : Int) := by rw [List.length_map]
      -- cell, turn
      refine ⟨_, rfl, _, rfl, _, rfl, a, _, rfl, .inl hs, _, _, rfl, rfl, (by show (0 : Int) < ((ns.map V.int).length : Int); rw [cl]; omega), a, _, _, V.int (gI ns (k % ns.length)), rfl, rfl, hs, ?_, .inl ⟨_, rfl, ?_⟩⟩
      · have := atI_nat (li_at hm)
        rw [show ((k : Int) % ((ns.map V.int).length : Int)) = ((k % ns.length : Nat) : Int) by rw [cl]; rfl]
        exact this
      refine ⟨_, rfl, _, rfl, a, _, rfl, .inl hs, _, _, rfl, rfl, ⟨by show (0 : Int) < ((ns.map V.int).length : Int); rw [cl]; omega, by show ((ns.map V.int).length : Int) < _; rw [cl]; omega⟩, ?_⟩
      have et : ((k : Int) / ((ns.map V.int).length : Int)) = ((k / ns.length : Nat) : Int) := by rw [cl]; rfl
      show gName 3 (V.int ((k : Int) / ((ns.map V.int).length : Int))) _ _ _
      rw [et]
      refine ⟨_, rfl, _, _, rfl, rfl, _, rfl, ?_⟩
      unfold drawF at q
      rw [if_neg hz] at q
      refine ite2 (fun hb => ?_) (fun hb => ?_)
      · have hb' := of_decide_eq_true hb
        rw [if_pos hb'] at q
        have ub : k / ns.length ≤ k := Nat.div_le_self _ _
        have ej := min60 (k / ns.length)
        have jb := min60b (show k / ns.length ≤ 100000 by omega)
        refine ⟨_, rfl, _, _, rfl, _, rfl, jb.1, jb.2, ?_⟩
        rw [ej]
        refine for_range (lo := 0) (fun i σ H' => ∃ v4, σ = [some (.ref a), some (.int (k : Nat)), some (.int (itD i (gI ns (k % ns.length)))), some (.int ((k / ns.length : Nat) : Int)), v4] ∧ H' = H) ⟨none, rfl, rfl⟩ ?_ ?_
        · rintro i σ H' hi ⟨v4, rfl, rfl⟩
          refine ⟨_, rfl, _, _, rfl, rfl, ⟨by decide, by decide⟩, some (.int (0 + (i : Int))), ?_, rfl⟩
          rw [itD_succ]
          rfl
        · rintro σ H' ⟨v4, rfl, rfl⟩
          exact ⟨_, rfl, _, _, rfl, rfl, (by show (0 : Int) < 100003; decide), q⟩
      · have hb' : ¬ _ := fun z => hb (decide_eq_true z)
        rw [if_neg hb'] at q
        refine ⟨_, rfl, _, 48271, rfl, rfl, .inr ⟨by decide, by decide⟩, _, rfl, _, 69621, rfl, rfl, .inr ⟨by decide, by decide⟩, _, _, rfl, rfl, _, _, rfl, rfl, _, _, rfl, rfl, (by show (0 : Int) < 2147483647; decide), _, _, rfl, rfl, .inr ⟨by decide, by decide⟩, _, _, rfl, rfl, (by show (0 : Int) < 2147483629; decide), q⟩
theorem ok_task {f : Addr} {fd : FuncData} (F : Fun K "_law_task" "_law_task" s_law_task f fd) (T0 : Bl mg) :
    FnOk P w K mg base CX0 1 f fd ["number", "count"] spTask := by
  refine F.ok sc_law_task (fun vs H Q E h => ?_) (fun cdv A outer s H vs Q E hr h => ?_)
  · obtain ⟨d, n, rfl, _⟩ := h
    rfl
  · obtain ⟨d, n, rfl, hn, q⟩ := h
    refine ⟨_, (pss_one (ps_ret (pe_lc (own := [("k", 2)]) (g := gName 2) (tt := tYes) rfl sc_law_task.nd (pi_range1 (by rfl) T0.range (pa_cons (pv 1) pa_nil)) (blkOk_by (own := [("k", 2)]) (N := N_law_task) (sc := defScope s_law_task) (by decide +kernel)) (fun _ _ _ _ _ => pg_name (i := 2) sc_law_task.nd rfl (Or.inl rfl)) (fun _ _ _ _ _ => pts_nil) (fun _ _ _ _ _ => (pe_op op_mod (pe_op op_fdiv (pv 0) (pe_op op_add pe_int (pe_op op_mul (pe_op op_mul pe_int (pv 2)) (pv 2)))) (pe_ix (ix_list_K rfl) (pe_lst (pa_cons pe_int (pa_cons pe_int pa_nil))) (pe_op op_mod (pv 0) pe_int) (fun _ _ => rfl))))))), ?_⟩
    refine ⟨_, rfl, _, rfl, by omega, by omega, fun D0 nD => ?_⟩
    refine lc_mk (walk_range (lo := 0)) (fun k => V.int (d / (1 + 7 * (k : Int) * (k : Int)) % (if d % 2 = 0 then 4 else 40))) (by rw [Int.toNat_natCast]; exact small hn (by decide)) nD (fun _ _ => trivial) (fun i x H2 H2' N hi s2 yy fin => ?_) fun H2 s2 eD => ?_
    · obtain ⟨rfl, ex⟩ := yy
      rw [Int.toNat_natCast] at hi
      have ex : x = V.int (i : Nat) := by rw [ex]; show V.int (0 + (i : Int)) = _; rw [Int.zero_add]
      subst ex
      have b1 : (0 : Int) < 1 + 7 * (i : Int) * (i : Int) := by
        have : (0 : Int) ≤ 7 * (i : Int) * (i : Int) := Int.mul_nonneg (by omega) (by omega)
        omega
      have b2 : 1 + 7 * (i : Int) * (i : Int) < 2 ^ 30 := by
        have h1 : (i : Int) * (i : Int) ≤ 1000 * 1000 := Int.mul_le_mul (by omega) (by omega) (by omega) (by decide)
        have h2 : 7 * (i : Int) * (i : Int) = 7 * ((i : Int) * (i : Int)) := Int.mul_assoc _ _ _
        omega
      refine ⟨rfl, _, rfl, _, rfl, _, _, rfl, rfl, .inl ⟨by decide, by decide⟩, _, rfl, _, _, rfl, rfl, .inr ⟨by omega, by omega⟩, _, _, rfl, rfl, _, _, rfl, rfl, ⟨b1, b2⟩, by show 2 ≤ sizeLine; decide, fun l nl => ?_⟩
      have md : d % 2 = 0 ∨ d % 2 = 1 := by omega
      refine ⟨_, rfl, _, _, rfl, rfl, (by show (0 : Int) < 2; decide), l, [.int 4, .int 40], _, .int (if d % 2 = 0 then 4 else 40), rfl, rfl, SqL.of upd_same, ?_, _, _, rfl, rfl, ?_, ?_⟩
      · rcases md with z | z <;> rw [z] <;> rfl
      · show (0 : Int) < (if d % 2 = 0 then 4 else 40)
        split <;> decide
      · exact fin _ (Same.new nl)
    · rw [Int.toNat_natCast] at eD
      refine q H2 D0 s2 nD ?_
      show H2 D0 = _
      rw [eD]
      unfold taskF mk
      rw [List.map_map]
      rfl
theorem ok_lgoing {f : Addr} {fd : FuncData} (F : Fun K "_law_going" "_law_going" s_law_going f fd) :
    FnOk P w K mg base CX0 1 f fd ["costs", "first", "second"] (spLGoing K) := by
  refine F.ok sc_law_going (fun vs H Q E h => ?_) (fun cdv A outer s H vs Q E hr h => ?_)
  · obtain ⟨t, c, av, x, y, rfl, _⟩ := h
    rfl
  · obtain ⟨t, c, av, x, y, rfl, D, g, hx, hy, q⟩ := h
    obtain ⟨a, b, et, es, ew⟩ := D.ex
    refine ⟨_, (pss_one (ps_ret (pe_op op_fdiv (pe_op op_sub (pe_op op_add (pe_ix ix_list (pe_ix ix_list (pe_ix ix_tup (pv 0) pe_int (fun _ _ => rfl)) (pv 1) (fun _ _ => rfl)) (pv 2) (fun _ _ => rfl)) (pe_ix ix_list (pe_ix ix_tup (pv 0) pe_int (fun _ _ => rfl)) (pv 2) (fun _ _ => rfl))) (pe_ix ix_list (pe_ix ix_tup (pv 0) pe_int (fun _ _ => rfl)) (pv 1) (fun _ _ => rfl))) pe_int))), ?_⟩
    obtain ⟨ws, u, e0, lw, e1, eu, _⟩ := ew.at (at_gR (W := c.W) (i := x) (by rw [g.w]; exact hx))
    have ly : y < (gR c.W x).length := by rw [g.r x hx]; exact hy
    have tl : ∀ {v : V} {k : Int}, atI ([.int (c.start : Nat), .ref a, .ref b] : List V) k = some v → atI ([.int (c.start : Nat), .ref a, .ref b] : List V) k = some v := id
    refine ⟨_, rfl, t, _, 2, .ref b, rfl, rfl, et, rfl, _, rfl, _, _, _, _, rfl, rfl, SqL.of e0, atI_nat e1, _, rfl, _, _, _, _, rfl, rfl, eu.seq, atI_nat (li_at ly), _, rfl, t, _, 1, .ref a, rfl, rfl, et, rfl, _, rfl, _, _, _, _, rfl, rfl, es.seq, atI_nat (li_at (by rw [g.s]; exact hy)), _, _, rfl, rfl,
      _, rfl, t, _, 1, .ref a, rfl, rfl, et, rfl, _, rfl, _, _, _, _, rfl, rfl, es.seq, atI_nat (li_at (by rw [g.s]; exact hx)), _, _, rfl, rfl, _, _, rfl, rfl, ⟨by decide, by decide⟩, q⟩
end
end K1
namespace K1
open PySem PySem.Spec PyProof.Rows L2 Ow Po Z3
abbrev s_law_costs : Stmt := topS 6
abbrev N_law_costs : List Str := ["script", "count", "k", "sizes", "layouts", "number", "stands", "ways", "first", "row", "second", "layout", "size", "bit"]
theorem sc_law_costs : FnScope N_law_costs ["script"] (defScope s_law_costs) := ⟨rfl, rfl, rfl, by decide +kernel, rfl, by decide +kernel, by decide +kernel⟩
abbrev scJ : Scope := { kind := .function, names := [(".0", .local), ("layout", .local), ("sum", .globalImplicit), ("zip", .globalImplicit), ("sizes", .cell)], isGenerator := false, isCoroutine := false, more := [] }
def spCosts (K : PySem.W.Frag) : Sp := fun vs H Q _ => ∃ (a : Addr) (ns : List Int), vs = [.ref a] ∧ SqL K H a (ns.map V.int) ∧ ns.length ≤ 63 ∧
  ∀ H' t, Same H H' → H t = none → CoAt K (fun b => H b ≠ none) H' t (costF ns) → (∀ a1 a2, H' t = some (.tup [.int ((costF ns).start : Nat), .ref a1, .ref a2]) → H a1 = none ∧ H a2 = none) → (∃ a1 a2, H' t = some (.tup [.int ((costF ns).start : Nat), .ref a1, .ref a2])) → Q (.ref t) H'
theorem mk_succ (n : Nat) (f : Nat → Int) : mk (n + 1) f = mk n f ++ [f n] := by unfold mk; rw [List.range_succ, List.map_append]; rfl
theorem xi {x : V} {i : Nat} (h : x = V.int (0 + (i : Int))) : x = V.int (i : Nat) := by rw [h, Int.zero_add]
section
variable {P : Program} {w : World} {K : PySem.W.Frag} {mg : Str → Option Value} {base : Heap}
theorem ok_costs {f : Addr} {fd : FuncData} (F : Fun K "_law_costs" "_law_costs" s_law_costs f fd) (T0 : Bl mg) (D_law_draw : Kn P w K mg base 1 "_law_draw" ["script", "k"] (spDraw K)) :
    FnOk P w K mg base CX0 2 f fd ["script"] (spCosts K) := by
  refine F.ok sc_law_costs (fun vs H Q E h => ?_) (fun cdv A outer s H vs Q E hr h => ?_)
  · obtain ⟨a, ns, rfl, _⟩ := h
    rfl
  · obtain ⟨a, ns, rfl, hs, hl, q⟩ := h
    refine ⟨_, (pss_cons (ps_set (i := 1) sc_law_costs.nd rfl (.inl rfl) (pe_op op_add pe_int (pe_op op_mod (pe_kn D_law_draw hr (pa_cons (pv 0) (pa_cons pe_int pa_nil))) pe_int)))
      (pss_cons (ps_set (i := 3) sc_law_costs.nd rfl (.inr rfl) (pe_lc (own := [("k", 2)]) (g := gName 2) (tt := tYes) rfl sc_law_costs.nd (pi_range1 (by rfl) T0.range (pa_cons pe_int pa_nil)) (blkOk_by (own := [("k", 2)]) (N := N_law_costs) (sc := defScope s_law_costs) (by decide +kernel)) (fun _ _ _ _ _ => pg_name (i := 2) sc_law_costs.nd rfl (Or.inl rfl)) (fun _ _ _ _ _ => pts_nil) (fun _ _ _ _ _ => (pe_op op_add pe_int (pe_op op_mod (pe_kn D_law_draw hr (pa_cons (pv 0) (pa_cons (pe_op op_add pe_int (pv 2)) pa_nil))) pe_int)))))
      (pss_cons (ps_set (i := 4) sc_law_costs.nd rfl (.inl rfl) (pe_lst pa_nil))
      (pss_cons (ps_for PassesOwn.never rfl (pi_range1 (by rfl) T0.range (pa_cons (pv 1) pa_nil)) (pg_name (i := 2) sc_law_costs.nd rfl (.inl rfl)) (pss_cons (ps_set (i := 5) sc_law_costs.nd rfl (.inl rfl) (pe_kn D_law_draw hr (pa_cons (pv 0) (pa_cons (pe_op op_add pe_int (pv 2)) pa_nil))))
      (pss_one (ps_expr (pe_bm PySem.F.plainAttrs_list PySem.F.slot_list_append PySem.F.type_list_append mt_append (pv 4) (pa_cons (pe_lst (pa_cons (pe_op op_mod (pv 5) pe_int) (pa_cons (pe_op op_mod (pe_op op_fdiv (pv 5) pe_int) pe_int) (pa_cons (pe_op op_mod (pe_op op_fdiv (pv 5) pe_int) pe_int) (pa_cons (pe_op op_mod (pe_op op_fdiv (pv 5) pe_int) pe_int) pa_nil))))) pa_nil))))))
      (pss_cons (ps_setLc (i := 6) (own := [("layout", 11)]) (g := gName 11) (tt := tYes) rfl sc_law_costs.nd rfl rfl (sw_true rfl rfl rfl (by decide +kernel)) (pi_list (pv 4)) (blkOk_by (own := [("layout", 11)]) (N := N_law_costs) (sc := defScope s_law_costs) (by decide +kernel)) (fun _ _ _ _ _ => pg_name (i := 11) sc_law_costs.nd rfl (Or.inl rfl)) (fun _ _ _ _ _ => pts_nil) (fun _ _ _ _ _ => (pe_callB (call_sum_K rfl rfl) (by rfl) T0.sum (by decide +kernel) (pa_cons (pe_lc (own := [("size", 12), ("bit", 13)]) (g := gTup K 2 (gCons (gName 12) (gCons (gName 13) gNil))) (tt := tYes) rfl sc_law_costs.nd (pi_zip_K (K := K) rfl (by rfl) T0.zip (pa_cons (pv 3) (pa_cons (pv 11) pa_nil))) (blkOk_by (own := [("size", 12), ("bit", 13)]) (N := N_law_costs) (sc := scJ) (by decide +kernel)) (fun _ _ _ _ _ => pg_tup rfl (pgs_cons (pg_name (i := 12) sc_law_costs.nd rfl (Or.inl rfl)) (pgs_cons (pg_name (i := 13) sc_law_costs.nd rfl (Or.inl rfl)) pgs_nil))) (fun _ _ _ _ _ => pts_nil) (fun _ _ _ _ _ => (pe_op op_mul (pv 12) (pv 13)))) pa_nil))))
      (pss_cons (ps_set (i := 7) sc_law_costs.nd rfl (.inl rfl) (pe_lst pa_nil))
      (pss_cons (ps_for PassesOwn.never rfl (pi_list (pv 4)) (pg_name (i := 8) sc_law_costs.nd rfl (.inr rfl)) (pss_cons (ps_set (i := 9) sc_law_costs.nd rfl (.inl rfl) (pe_lst pa_nil))
      (pss_cons (ps_for PassesOwn.never rfl (pi_list (pv 4)) (pg_name (i := 10) sc_law_costs.nd rfl (.inr rfl)) (pss_one (ps_expr (pe_bm PySem.F.plainAttrs_list PySem.F.slot_list_append PySem.F.type_list_append mt_append (pv 9) (pa_cons (pe_callB (call_sum_K rfl rfl) (by rfl) T0.sum (by decide +kernel) (pa_cons (pe_lc (own := [("k", 2)]) (g := gName 2) (tt := tYes) rfl sc_law_costs.nd (pi_range1 (by rfl) T0.range (pa_cons pe_int pa_nil)) (blkOk_by (own := [("k", 2)]) (N := N_law_costs) (sc := defScope s_law_costs) (by decide +kernel)) (fun _ _ _ _ _ => pg_name (i := 2) sc_law_costs.nd rfl (Or.inl rfl)) (fun _ _ _ _ _ => pts_nil) (fun _ _ _ _ _ => (pe_op op_mul (pe_ix (ix_list_K rfl) (pv 3) (pv 2) (fun _ _ => rfl)) (pe_callB call_abs (by rfl) T0.abs (by decide +kernel) (pa_cons (pe_op op_sub (pe_ix (ix_list_K rfl) (pv 8) (pv 2) (fun _ _ => rfl)) (pe_ix (ix_list_K rfl) (pv 10) (pv 2) (fun _ _ => rfl))) pa_nil))))) pa_nil)) pa_nil)))))
      (pss_one (ps_expr (pe_bm PySem.F.plainAttrs_list PySem.F.slot_list_append PySem.F.type_list_append mt_append (pv 7) (pa_cons (pv 9) pa_nil)))))))
      (pss_one (ps_ret (pe_tup (pa_cons (pe_op op_mod (pe_kn D_law_draw hr (pa_cons (pv 0) (pa_cons pe_int pa_nil))) (pv 1)) (pa_cons (pv 6) (pa_cons (pv 7) pa_nil))))))))))))), ?_⟩
    have nb := nF_b ns
    -- count, sizes
    refine ⟨_, rfl, a, ns, 0, rfl, hs, hl, by decide, _, _, rfl, rfl, (by show (0 : Int) < 5; decide), _, _, rfl, rfl, _, rfl, by decide, by decide, fun sA nS => ?_⟩
    refine lc_mk (walk_range (lo := 0)) (fun k => V.int (szF ns k)) (by decide) nS (fun _ _ => trivial) (fun i x H2 H2' N hi s2 yy fin => ?_) fun H1 s1 eS0 => ?_
    · obtain ⟨rfl, ex⟩ := yy
      have hi : i < 4 := hi
      have ex := xi ex
      subst ex
      refine ⟨rfl, _, rfl, _, rfl, _, _, rfl, rfl, a, ns, 1 + i, rfl, s2.seq hs, hl, by omega, _, _, rfl, rfl, (by show (0 : Int) < 30; decide), _, _, rfl, rfl, ?_⟩
      exact fin _ (Same.refl _)
    have eS : LI H1 sA (szL ns) := eS0
    clear eS0
    -- layouts
    refine ⟨by show 0 ≤ sizeLine; decide, fun ll nl => ?_⟩
    refine ⟨_, rfl, _, rfl, by omega, by omega, ?_⟩
    rw [show (1 + drawF ns 0 % 5).toNat = nF ns from rfl]
    refine for_range (lo := 0) (fun i σ H' => ∃ v2 v5, σ = [some (.ref a), some (.int (1 + drawF ns 0 % 5)), v2, some (.ref sA), some (.ref ll), v5, none, none, none, none, none, none, none, none] ∧ Same H1 H' ∧
      ∃ ts : List Addr, H' ll = some (.lst (ts.map V.ref)) ∧ ts.length = i ∧ ∀ (j : Nat) t, ts[j]? = some t → LI H' t (layL ns j) ∧ H1 t = none ∧ t ≠ ll)
      ⟨none, none, rfl, Same.new nl, [], upd_same, rfl, fun j t e => by simp at e⟩ ?_ ?_
    · rintro i σ H' hi ⟨v2, v5, rfl, s2, ts, el, lt, gt⟩
      refine ⟨_, rfl, _, rfl, _, _, rfl, rfl, a, ns, 6 + i, ?_, (s1.trans s2).seq hs, hl, by omega, ?_⟩
      · show [V.ref a, V.int (6 + (0 + (i : Int)))] = _
        rw [Int.zero_add]
        rfl
      refine ⟨_, rfl, .inl ⟨rfl, _, SqL.of el⟩, _, rfl, _, _, rfl, rfl, (by show (0 : Int) < 2; decide), _, rfl, _, _, rfl, rfl, ⟨by decide, by decide⟩, _, _, rfl, rfl, (by show (0 : Int) < 2; decide), _, rfl, _, _, rfl, rfl, ⟨by decide, by decide⟩, _, _, rfl, rfl, (by show (0 : Int) < 2; decide),
        _, rfl, _, _, rfl, rfl, ⟨by decide, by decide⟩, _, _, rfl, rfl, (by show (0 : Int) < 2; decide), by show 4 ≤ sizeLine; decide, fun l nl' => ?_⟩
      have ll1 : ll ≠ l := ne_of_none el nl'
      refine ⟨ll, _, _, rfl, rfl, (by rw [upd_ne ll1]; exact el), by rw [List.length_map, lt]; exact small (show i ≤ 5 by omega) (by decide), ?_⟩
      refine ⟨_, _, rfl, Same.over (Same.over s2 (Same.free s2 nl')) nl, ts ++ [l], ?_, by rw [List.length_append, lt]; rfl, fun j t ej => ?_⟩
      · rw [upd_same, List.map_append]
        rfl
      · rcases Nat.lt_trichotomy j ts.length with h1 | h1 | h1
        · rw [List.getElem?_append_left h1] at ej
          obtain ⟨f1, f2, f3⟩ := gt j t ej
          exact ⟨by show upd (upd H' l _) ll _ t = _; rw [upd_ne f3, upd_ne (ne_of_none f1 nl')]; exact f1, f2, f3⟩
        · subst h1
          have e2 : l = t := by simpa using ej
          subst e2
          rw [lt]
          exact ⟨by show upd (upd H' l _) ll _ l = _; rw [upd_ne ll1.symm, upd_same]; rfl, Same.free s2 nl', ll1.symm⟩
        · rw [List.getElem?_eq_none (by rw [List.length_append, List.length_singleton]; omega)] at ej
          cases ej
    · rintro σ H4 ⟨v2, v5, rfl, s4, ts, el, lt, gt⟩
      have eS4 := eS.same s4
      have en : (ts.map V.ref).length = nF ns := by rw [List.length_map, lt]
      have tsl : ∀ i (h : i < nF ns), ts[i]? = some (ts[i]'(by rw [lt]; exact h)) := fun i h => List.getElem?_eq_getElem _
      have szl : (szL ns).length = 4 := mk_len _ _
      -- stands
      refine ⟨_, rfl, ll, rfl, ⟨_, SqL.of el⟩, fun aS nA => ?_⟩
      refine lc_mk (walk_list (K := K) (a := ll) (xs := ts.map V.ref)) (fun x => V.int (stF ns x)) (by rw [en]; exact small (show nF ns ≤ 5 by omega) (by decide)) nA (fun H s => SqL.of (s _ _ el)) (fun x v H5 H5' N hi s5 yy fin => ?_) fun H5 s5 eD => ?_
      · obtain ⟨rfl, ev⟩ := yy
        rw [en] at hi
        rw [List.getElem?_map, tsl x hi] at ev
        cases ev
        obtain ⟨g1, _, _⟩ := gt x _ (tsl x hi)
        have g1' := g1.same s5
        have eS5 := eS4.same s5
        refine ⟨rfl, _, rfl, _, rfl, _, _, _, _, rfl, eS5.seq, g1'.seq, fun D5 nD5 => ?_⟩
        have hm : 4 = min ((szL ns).map V.int).length ((layL ns x).map V.int).length := by rw [List.length_map, szl]; rfl
        refine lc_mk (walk_zip (K := K) hm) (fun k => V.int (gI (szL ns) k * gI (layL ns x) k)) (by decide) nD5 (fun H s => ⟨(eS5.same s).seq, (g1'.same s).seq⟩) (fun k v H6 H6' N6 hk s6 yy6 fin6 => ?_) fun H6 s6 eD6 => ?_
        · obtain ⟨t, x1, y1, rfl, nt, rfl, h1, h2⟩ := yy6
          dsimp only at h1 h2
          rw [li_at (by rw [szl]; exact hk)] at h1
          rw [li_at (show k < (layL ns x).length from hk)] at h2
          cases h1
          cases h2
          have b1 : -(2 ^ 64) < gI (szL ns) k ∧ gI (szL ns) k < 2 ^ 64 := by
            unfold szL
            rw [gI_mk hk]
            unfold szF
            have := Int.emod_nonneg (drawF ns (1 + k)) (show (30 : Int) ≠ 0 by decide)
            have := Int.emod_lt_of_pos (drawF ns (1 + k)) (show (0 : Int) < 30 by decide)
            omega
          refine ⟨_, _, rfl, SqT.of upd_same, rfl, _, _, rfl, _, _, rfl, rfl, rfl, _, rfl, _, rfl, _, _, rfl, rfl, .inl b1, ?_⟩
          exact fin6 _ (Same.new nt)
        · have e6 : LI H6 D5 (mk 4 fun k => gI (szL ns) k * gI (layL ns x) k) := by
            show H6 D5 = _
            rw [eD6]
            unfold mk
            rw [List.map_map]
            rfl
          refine ⟨D5, _, rfl, e6.seq, ?_⟩
          exact fin _ s6
      rw [en] at eD
      have eA : LI H5 aS (costF ns).S := by
        show H5 aS = _
        rw [eD]
        show _ = some (HO.lst ((mk (nF ns) (stF ns)).map V.int))
        unfold mk
        rw [List.map_map]
        rfl
      clear eD
      -- ways
      refine ⟨by show 0 ≤ sizeLine; decide, fun wA nW => ?_⟩
      have el5 := s5 _ _ el
      have gt5 : ∀ j (h : j < nF ns), ∃ t, (ts.map V.ref)[j]? = some (V.ref t) ∧ LI H5 t (layL ns j) := fun j h => ⟨_, by rw [List.getElem?_map, tsl j h]; rfl, (gt j _ (tsl j h)).1.same s5⟩
      have eS5 := eS4.same s5
      refine ⟨_, rfl, ll, rfl, ⟨_, SqL.of (show (upd H5 wA (.lst [])) ll = some (.lst (ts.map V.ref)) by rw [upd_ne (ne_of_none el5 nW)]; exact el5)⟩, for_list (K := K) (a := ll) (xs := ts.map V.ref)
        (fun i σ H' => ∃ v8 v9 v10, σ = [some (.ref a), some (.int (1 + drawF ns 0 % 5)), v2, some (.ref sA), some (.ref ll), v5, some (.ref aS), some (.ref wA), v8, v9, v10, none, none, none] ∧ Same H5 H' ∧
          ∃ us : List Addr, H' wA = some (.lst (us.map V.ref)) ∧ us.length = i ∧ ∀ (j : Nat) t, us[j]? = some t → LI H' t (mk (nF ns) (wyF ns j)) ∧ H5 t = none ∧ t ≠ wA)
        ⟨none, none, none, rfl, Same.new nW, [], upd_same, rfl, fun j t e => by simp at e⟩ (fun i σ H' _ ⟨_, _, _, _, s, _⟩ => SqL.of (s _ _ el5)) ?_ ?_⟩
      · rintro x v σ H6 hx ⟨v8, v9, v10, rfl, s6, us, ew, lu, gu⟩
        have hxn : x < nF ns := by rw [← en]; exact (List.getElem?_eq_some_iff.mp hx).1
        obtain ⟨tx, e1, f1⟩ := gt5 x hxn
        rw [e1] at hx
        cases hx
        -- row
        refine ⟨by show 0 ≤ sizeLine; decide, fun rA nR => ?_⟩
        have f1' := f1.same s6
        have wr : wA ≠ rA := ne_of_none ew nR
        have el6 := s6 _ _ el5
        refine ⟨_, rfl, ll, rfl, ⟨_, SqL.of (show (upd H6 rA (.lst [])) ll = some (.lst (ts.map V.ref)) by rw [upd_ne (ne_of_none el6 nR)]; exact el6)⟩, for_list (K := K) (a := ll) (xs := ts.map V.ref)
          (fun k σ H' => ∃ v10, σ = [some (.ref a), some (.int (1 + drawF ns 0 % 5)), v2, some (.ref sA), some (.ref ll), v5, some (.ref aS), some (.ref wA), some (.ref tx), some (.ref rA), v10, none, none, none] ∧ Same H6 H' ∧ LI H' rA (mk k (wyF ns x)))
          ⟨v10, rfl, Same.new nR, upd_same⟩ (fun i σ H' _ ⟨_, _, s, _⟩ => SqL.of (s _ _ el6)) ?_ ?_⟩
        · rintro y v σ H7 hy ⟨v10, rfl, s7, er⟩
          have hyn : y < nF ns := by rw [← en]; exact (List.getElem?_eq_some_iff.mp hy).1
          obtain ⟨ty, e2, f2⟩ := gt5 y hyn
          rw [e2] at hy
          cases hy
          have f1'' := f1'.same s7
          have f2' := f2.same (Same.trans s6 s7)
          have eS7 := eS5.same (Same.trans s6 s7)
          refine ⟨_, rfl, .inl ⟨rfl, _, er.seq⟩, _, rfl, by decide, by decide, fun D nD => ?_⟩
          refine lc_mk (walk_range (lo := 0)) (fun k => V.int (gI (szL ns) k * absF (gI (layL ns x) k - gI (layL ns y) k))) (by decide) nD (fun _ _ => trivial) (fun k v H8 H8' N hk s8 yy fin => ?_) fun H8 s8 eD => ?_
          · obtain ⟨rfl, ex⟩ := yy
            have hk : k < 4 := hk
            have ex := xi ex
            subst ex
            have b1 : -(2 ^ 64) < gI (szL ns) k ∧ gI (szL ns) k < 2 ^ 64 := by
              unfold szL
              rw [gI_mk hk]
              unfold szF
              have := Int.emod_nonneg (drawF ns (1 + k)) (show (30 : Int) ≠ 0 by decide)
              have := Int.emod_lt_of_pos (drawF ns (1 + k)) (show (0 : Int) < 30 by decide)
              omega
            refine ⟨rfl, _, rfl, _, rfl, _, _, _, _, rfl, rfl, (eS7.same s8).seq, atI_nat (li_at (by rw [szl]; exact hk)), _, rfl, _, rfl, _, _, _, _, rfl, rfl, (f1''.same s8).seq, atI_nat (li_at (show k < (layL ns x).length from hk)), _, rfl, _, rfl, _, _, _, _, rfl, rfl, (f2'.same s8).seq, atI_nat (li_at (show k < (layL ns y).length from hk)),
              _, _, rfl, rfl, _, rfl, _, _, rfl, rfl, .inl b1, ?_⟩
            exact fin _ (Same.refl _)
          · have e8 : LI H8 D (mk 4 fun k => gI (szL ns) k * absF (gI (layL ns x) k - gI (layL ns y) k)) := by
              show H8 D = _
              rw [eD]
              unfold mk
              rw [List.map_map]
              rfl
            refine ⟨D, _, rfl, e8.seq, rA, _, _, rfl, rfl, s8 _ _ er, ?_, ?_⟩
            · rw [List.length_map, mk_len]
              exact small (show y ≤ 5 by omega) (by decide)
            · refine ⟨some (.ref ty), rfl, Same.over (Same.trans s7 s8) nR, ?_⟩
              show upd H8 rA _ rA = _
              rw [upd_same, mk_succ y, List.map_append]
              rfl
        · rintro σ H7 ⟨v10, rfl, s7, er⟩
          rw [en] at er
          refine ⟨_, rfl, .inl ⟨rfl, _, SqL.of (s7 _ _ ew)⟩, _, rfl, wA, _, _, rfl, rfl, s7 _ _ ew, by rw [List.length_map, lu]; exact small (show x ≤ 5 by omega) (by decide), ?_⟩
          refine ⟨some (.ref tx), some (.ref rA), v10, rfl, Same.over (Same.trans s6 s7) nW, us ++ [rA], ?_, by rw [List.length_append, lu]; rfl, fun j t ej => ?_⟩
          · rw [upd_same, List.map_append]
            rfl
          · rcases Nat.lt_trichotomy j us.length with h1 | h1 | h1
            · rw [List.getElem?_append_left h1] at ej
              obtain ⟨g1, g2, g3⟩ := gu j t ej
              exact ⟨by show upd H7 wA _ t = _; rw [upd_ne g3]; exact s7 _ _ g1, g2, g3⟩
            · subst h1
              have e2 : rA = t := by simpa using ej
              subst e2
              rw [lu]
              exact ⟨by show upd H7 wA _ rA = _; rw [upd_ne wr.symm]; exact er, Same.free s6 nR, wr.symm⟩
            · rw [List.getElem?_eq_none (by rw [List.length_append, List.length_singleton]; omega)] at ej
              cases ej
      · rintro σ H6 ⟨v8, v9, v10, rfl, s6, us, ew, lu, gu⟩
        rw [en] at lu
        have sH := Same.trans (Same.trans (Same.trans s1 s4) s5) s6
        refine ⟨_, rfl, a, ns, 12, rfl, sH.seq hs, hl, by decide, _, rfl, _, _, rfl, rfl, (by show (0 : Int) < 1 + drawF ns 0 % 5; omega), _, rfl, _, rfl, by show 3 ≤ sizeLine; decide, fun t nt => ?_⟩
        have est : drawF ns 12 % (1 + drawF ns 0 % 5) = (((costF ns).start : Nat) : Int) := by rw [costF_start, nb.2.2]
        show Q (.ref t) (upd H6 t (.tup [.int (drawF ns 12 % (1 + drawF ns 0 % 5)), .ref aS, .ref wA]))
        rw [est]
        have nA0 : H aS = none := Same.free (Same.trans s1 s4) nA
        have nW0 : H wA = none := Same.free (Same.trans (Same.trans s1 s4) s5) nW
        refine q _ t (Same.over sH (Same.free sH nt)) (Same.free sH nt) ⟨aS, wA, SqT.of upd_same, (eA.same s6).same (Same.new nt), LL.same (Same.new nt) ⟨us, ew, ?_, fun i u xs f1 f2 => ?_, fun u m => ?_⟩⟩ (fun a1 a2 e => ?_) ⟨aS, wA, upd_same⟩
        · rw [lu]
          show _ = ((List.range (nF ns)).map _).length
          rw [List.length_map, List.length_range]
        · have hi : i < nF ns := by rw [← lu]; exact (List.getElem?_eq_some_iff.mp f1).1
          have e3 := gR_at f2
          rw [costF_W hi] at e3
          rw [← e3]
          exact (gu i u f1).1
        · obtain ⟨j, ej⟩ := List.mem_iff_getElem?.mp m
          have := (gu j u ej).2.1
          rw [Same.free (Same.trans (Same.trans s1 s4) s5) this]
          simp
        · rw [upd_same] at e
          cases e
          exact ⟨nA0, nW0⟩
end
end K1
/-! k43: what is apart from the policy; the choice -/
namespace K1
open PySem PySem.Spec PyProof.Rows L2 Ow Po Z3
theorem LL.grow {av : Addr → Prop} {H H' : Hp} {a g : Addr} {xss : List (List Int)} (n : H g = none) (s : Same H H') (h : LL av H a xss) : LL (fun t => av t ∨ t = g) H' a xss := by
  obtain ⟨ts, e, l, gt, na⟩ := h
  refine ⟨ts, s _ _ e, l, fun i t xs e1 e2 => s _ _ (gt i t xs e1 e2), fun t m z => ?_⟩
  rcases z with z | z
  · exact na t m z
  · obtain ⟨i, ei⟩ := List.mem_iff_getElem?.mp m
    have hi := (List.getElem?_eq_some_iff.mp ei).1
    have := gt i t _ ei (List.getElem?_eq_getElem (by rw [← l]; exact hi))
    rw [z] at this
    have e2 : H g = _ := this
    rw [n] at e2
    cases e2
theorem LL.weak {av av' : Addr → Prop} {H : Hp} {a : Addr} {xss : List (List Int)} (w : ∀ t, av' t → av t) (h : LL av H a xss) : LL av' H a xss := by
  obtain ⟨ts, e, l, gt, na⟩ := h
  exact ⟨ts, e, l, gt, fun t m z => na t m (w t z)⟩
/-- an address that is told apart is changed -/
theorem LL.mut {av : Addr → Prop} {H : Hp} {a g : Addr} {o : HO} {xss : List (List Int)} (z : av g) (n : a ≠ g) (h : LL av H a xss) : LL av (upd H g o) a xss := LL.bt (Z := fun b => b = g) (Bt.put rfl) n (fun t e => .inl (by rw [e]; exact z)) h
theorem PolAt.mut {C : Addr} {Z : Addr → Prop} {H : Hp} {p sA wA tA kA g : Addr} {c : Pr} {now : Nat} {spent : Int} {T Kw : List (List Int)} {o : HO} (D : PolAt C Z H p sA wA tA kA c now spent T Kw) (z : Z g) : PolAt C Z (upd H g o) p sA wA tA kA c now spent T Kw := by
  obtain ⟨dx, ob⟩ := D.ob
  obtain ⟨z1, z2, z3, z4, z5⟩ := D.nz
  have ne : ∀ {b : Addr}, ¬ Z b → b ≠ g := fun nb e => nb (by rw [e]; exact z)
  exact ⟨⟨dx, by rw [upd_ne (ne z1)]; exact ob⟩, D.s.bt (Bt.put (Z := fun b => b = g) rfl) (ne z2), D.w.mut (.inr z) (ne z3), D.t.mut (.inr z) (ne z4), D.k.mut (.inr z) (ne z5), D.ne, al_upd D.al, D.nz⟩
theorem PolAt.grow {C : Addr} {Z : Addr → Prop} {H H' : Hp} {p sA wA tA kA g : Addr} {c : Pr} {now : Nat} {spent : Int} {T Kw : List (List Int)} (D : PolAt C Z H p sA wA tA kA c now spent T Kw) (n : H g = none) (s : Same H H') (e : H' g ≠ none) : PolAt C (fun b => Z b ∨ b = g) H' p sA wA tA kA c now spent T Kw := by
  obtain ⟨dx, ob⟩ := D.ob
  obtain ⟨z1, z2, z3, z4, z5⟩ := D.nz
  have ne : ∀ {b : Addr} {o : HO}, H b = some o → ¬ Z b → ¬ (Z b ∨ b = g) := fun eb nb z => by
    rcases z with z | z
    · exact nb z
    · rw [z, n] at eb; cases eb
  obtain ⟨_, ew, _⟩ := D.w.ex
  obtain ⟨_, et, _⟩ := D.t.ex
  obtain ⟨_, ek, _⟩ := D.k.ex
  have wk : ∀ {a : Addr} {xss : List (List Int)}, LL (fun t => (t = tA ∨ t = kA) ∨ Z t) H a xss → LL (fun t => (t = tA ∨ t = kA) ∨ (Z t ∨ t = g)) H' a xss := fun h => (h.grow n s).weak fun t z => by
    rcases z with z | z | z
    · exact .inl (.inl z)
    · exact .inl (.inr z)
    · exact .inr z
  refine ⟨⟨dx, s _ _ ob⟩, D.s.same s, wk D.w, wk D.t, wk D.k, D.ne, fun b z => ?_, ne ob z1, ne D.s z2, ne ew z3, ne et z4, ne ek z5⟩
  rcases z with z | z
  · exact al_same s D.al b z
  · rw [z]; exact e
/-- the choice, walked -/
structure Ch (s : Nat → Int) (now i g : Nat) : Prop where
  le : ∀ x, x < i → s g ≤ s x
  nw : s g ≤ s now
  or : g = now ∨ (g < i ∧ s g < s now ∧ ∀ y, y < g → s g < s y)
theorem Ch.zero (s : Nat → Int) (now : Nat) : Ch s now 0 now := ⟨fun x h => absurd h (by omega), Int.le_refl _, .inl rfl⟩
theorem Ch.step {s : Nat → Int} {now i g : Nat} (h : Ch s now i g) : Ch s now (i + 1) (if s i < s g then i else g) := by
  by_cases l : s i < s g
  · rw [if_pos l]
    refine ⟨fun x hx => ?_, Int.le_trans (Int.le_of_lt l) h.nw, .inr ⟨by omega, Int.lt_of_lt_of_le l h.nw, fun y hy => Int.lt_of_lt_of_le l (h.le y hy)⟩⟩
    rcases Nat.lt_or_ge x i with z | z
    · exact Int.le_trans (Int.le_of_lt l) (h.le x z)
    · have : x = i := by omega
      rw [this]; exact Int.le_refl _
  · rw [if_neg l]
    refine ⟨fun x hx => ?_, h.nw, ?_⟩
    · rcases Nat.lt_or_ge x i with z | z
      · exact h.le x z
      · have : x = i := by omega
        rw [this]; omega
    · rcases h.or with z | ⟨a, b, c⟩
      · exact .inl z
      · exact .inr ⟨by omega, b, c⟩
theorem Ch.end {c : Pr} {w e : List Int} {now g : Nat} (gd : Po.Good c) (hn : now < c.n) (h : Ch (sumF c w e now) now c.n g) : g = chF c w e now := by
  have gn : g < c.n := by
    rcases h.or with z | ⟨a, _⟩
    · rw [z]; exact hn
    · exact a
  have gat : ∀ {x : Nat}, x < c.n → gI (sums c w e now) x = sumF c w e now x := fun hx => gI_mk hx
  have mem : sumF c w e now g ∈ sums c w e now := List.mem_of_getElem? (mk_at gn)
  have em : sumF c w e now g = minL (sums c w e now) := minL_eq mem fun y m => by
    obtain ⟨i, ei⟩ := List.mem_iff_getElem?.mp m
    have hi : i < c.n := by
      have := (List.getElem?_eq_some_iff.mp ei).1
      unfold sums at this
      rw [mk_len] at this
      exact this
    unfold sums at ei
    rw [mk_at hi] at ei
    rw [← Option.some.inj ei]
    exact h.le i hi
  unfold chF
  rw [← em, gat hn]
  rcases h.or with z | ⟨a, b, f⟩
  · rw [if_neg (by rw [z]; omega)]
    exact z
  · rw [if_pos b]
    have ne : sums c w e now ≠ [] := mk_ne gd.pos
    have al := argL_at ne
    have ak := argmk (f := sumF c w e now) gd.pos
    have ak2 : minL (sums c w e now) = sumF c w e now (argL (sums c w e now)) := ak.2
    have ak1 : argL (sums c w e now) < c.n := ak.1
    rcases Nat.lt_trichotomy g (argL (sums c w e now)) with z | z | z
    · exact absurd em (argL_no z (mk_at gn))
    · exact z
    · have := f _ z
      omega
end K1
/-! the prices as data -/
namespace K1
open PySem PySem.Spec PyProof.Rows L2 Ow Po Z3
theorem intsD {K : PySem.W.Frag} {H : Hp} : ∀ s : List Int, DpAll K H (s.map V.int) (s.map PyData.int)
  | [] => .nil
  | x :: s => .cons (.int x) (intsD s)
theorem intsE : ∀ s : List Int, PyData.eqvAll (s.map PyData.int) (s.map PyData.int) = true
  | [] => rfl
  | x :: s => by
    rw [List.map_cons, PyData.eqvAll, intsE s, PyData.eqv]
    simp
theorem intsC : ∀ s : List Int, PyData.canLayAll0 (s.map PyData.int) = true
  | [] => rfl
  | x :: s => by
    rw [List.map_cons, PyData.canLayAll0, intsC s]
    rfl
theorem intsDep : ∀ s : List Int, PyData.depthAll (s.map PyData.int) = 0
  | [] => by simp [PyData.depthAll]
  | x :: s => by rw [List.map_cons, PyData.depthAll, intsDep s]; simp [PyData.depth]
theorem liD {K : PySem.W.Frag} {H : Hp} {a : Addr} {xs : List Int} (h : LI H a xs) : Dp K H (.ref a) (.list (xs.map PyData.int)) := .lst h.seq (intsD xs)
theorem shInts (xs : List Int) : SeqAt.shaped (.list (xs.map PyData.int)) = true := by
  unfold SeqAt.shaped
  rw [PyData.canLay0, intsC, PyData.depth, intsDep]
  rfl
theorem llD {K : PySem.W.Frag} {H : Hp} : ∀ (ts : List Addr) (W : List (List Int)), ts.length = W.length → (∀ (i : Nat) (t : Addr) (xs : List Int), ts[i]? = some t → W[i]? = some xs → LI H t xs) → DpAll K H (ts.map V.ref) (W.map fun r => PyData.list (r.map PyData.int))
  | [], [], _, _ => .nil
  | t :: ts, r :: W, l, h => .cons (liD (h 0 t r rfl rfl)) (llD ts W (Nat.succ.inj l) fun i t xs e1 e2 => h (i + 1) t xs e1 e2)
  | [], _ :: _, l, _ => by cases l
  | _ :: _, [], l, _ => by cases l
theorem LL.data {K : PySem.W.Frag} {av : Addr → Prop} {H : Hp} {a : Addr} {W : List (List Int)} (h : LL av H a W) : Dp K H (.ref a) (.list (W.map fun r => PyData.list (r.map PyData.int))) := by
  obtain ⟨ts, e, l, g, _⟩ := h.ex
  exact .lst (SqL.of e) (llD ts W l g)
def cD (c : Pr) : PyData := .tuple [.int (c.start : Nat), .list (c.S.map PyData.int), .list (c.W.map fun r => PyData.list (r.map PyData.int))]
theorem CoAt.data {K : PySem.W.Frag} {av : Addr → Prop} {H : Hp} {t : Addr} {c : Pr} (h : CoAt K av H t c) : Dp K H (.ref t) (cD c) := by
  obtain ⟨a, b, e, f, g⟩ := h.ex
  exact .tup e (.cons (.int _) (.cons (liD f) (.cons g.data .nil)))
def Sml (xs : List Int) : Prop := xs.length ≤ 5 ∧ ∀ x ∈ xs, x.natAbs < 1000
theorem intW : ∀ {xs : List Int}, (∀ x ∈ xs, x.natAbs < 1000) → PyData.weightAll (xs.map PyData.int) ≤ 12 * xs.length
  | [], _ => Nat.le_refl _
  | x :: r, h => by
    rw [List.map_cons, PyData.weightAll, List.length_cons]
    have h1 := intW (xs := r) fun y m => h y (List.mem_cons_of_mem _ m)
    have h2 : PyData.weight (.int x) ≤ 11 := by
      rw [PyData.weight]
      split
      · omega
      · have := h x List.mem_cons_self
        have h3 : x.natAbs.log2 < 10 := by
          by_cases z : x.natAbs = 0
          · rw [z]; decide
          · exact (Nat.log2_lt z).mpr (by omega)
        omega
    omega
theorem rowW : ∀ {W : List (List Int)}, (∀ r ∈ W, Sml r) → PyData.weightAll (W.map fun r => PyData.list (r.map PyData.int)) ≤ 61 * W.length
  | [], _ => Nat.le_refl _
  | x :: r, h => by
    rw [List.map_cons, PyData.weightAll, List.length_cons, PyData.weight]
    have h1 := rowW (W := r) fun y m => h y (List.mem_cons_of_mem _ m)
    have h2 := intW (h x List.mem_cons_self).2
    have h3 := (h x List.mem_cons_self).1
    omega
theorem rowsC : ∀ W : List (List Int), PyData.canLayAll0 (W.map fun r => PyData.list (r.map PyData.int)) = true
  | [] => rfl
  | x :: r => by
    rw [List.map_cons, PyData.canLayAll0, rowsC r, PyData.canLay0, intsC]
    rfl
theorem rowsDep : ∀ W : List (List Int), PyData.depthAll (W.map fun r => PyData.list (r.map PyData.int)) ≤ 1
  | [] => by simp [PyData.depthAll]
  | x :: r => by
    rw [List.map_cons, PyData.depthAll, PyData.depth, intsDep]
    have := rowsDep r
    omega
theorem rowsI : ∀ {W : List (List Int)}, (∀ r ∈ W, Sml r) → PyData.intsShortAll 13 (W.map fun r => PyData.list (r.map PyData.int)) = true
  | [], _ => rfl
  | x :: r, h => by
    rw [List.map_cons, PyData.intsShortAll, PyData.intsShort, PyData.intsShortAll_ints _ fun n m => Nat.lt_trans ((h x List.mem_cons_self).2 n m) (by decide), rowsI fun y m => h y (List.mem_cons_of_mem _ m)]
    rfl
theorem intsS : ∀ {xs : List Int}, (∀ x ∈ xs, x.natAbs < 1000) → PyData.showableAll (xs.map PyData.int) = true
  | [], _ => rfl
  | x :: r, h => by
    rw [List.map_cons, PyData.showableAll, PyData.showable, intsS fun y m => h y (List.mem_cons_of_mem _ m), decide_eq_true (Nat.lt_of_le_of_lt (Nat.log2_le_self _) (Nat.lt_trans (h x List.mem_cons_self) (by decide)))]
    rfl
theorem rowsS : ∀ {W : List (List Int)}, (∀ r ∈ W, Sml r) → PyData.showableAll (W.map fun r => PyData.list (r.map PyData.int)) = true
  | [], _ => rfl
  | x :: r, h => by
    rw [List.map_cons, PyData.showableAll, PyData.showable, intsS (h x List.mem_cons_self).2, rowsS fun y m => h y (List.mem_cons_of_mem _ m)]
    rfl
structure Small (c : Pr) : Prop where
  st : c.start < 5
  s : Sml c.S
  w : c.W.length ≤ 5 ∧ ∀ r ∈ c.W, Sml r
theorem cD_facts {c : Pr} (h : Small c) : (cD c).showable = true ∧ (cD c).hasDict = false ∧ (cD c).depth ≤ 60 ∧ (cD c).shown.length ≤ sizeLine := by
  have e1 : PyData.canLay0 (cD c) = true := by
    unfold cD
    rw [PyData.canLay0, PyData.canLayAll0, PyData.canLayAll0, PyData.canLayAll0, PyData.canLayAll0, PyData.canLay0, PyData.canLay0, PyData.canLay0, intsC, rowsC]
    rfl
  have e2 : (cD c).depth ≤ 60 := by
    unfold cD
    have := rowsDep c.W
    simp [PyData.depth, PyData.depthAll, intsDep]
    omega
  have sa : ((c.start : Nat) : Int).natAbs < 1000 := by have := h.st; omega
  have e3 : PyData.weight (cD c) ≤ 2 ^ 20 := by
    unfold cD
    rw [PyData.weight, PyData.weightAll, PyData.weightAll, PyData.weightAll, PyData.weightAll, PyData.weight, PyData.weight, PyData.weight]
    have h1 := intW h.s.2
    have h2 := rowW h.w.2
    have h3 := h.s.1
    have h4 := h.w.1
    have h5 := intW (xs := [((c.start : Nat) : Int)]) (by intro x m; rw [List.mem_singleton.mp m]; exact sa)
    rw [List.map_cons, PyData.weightAll, PyData.weight] at h5
    simp only [List.length_singleton] at h5
    omega
  have e4 : (cD c).intsShort 13 = true := by
    unfold cD
    rw [PyData.intsShort, PyData.intsShortAll, PyData.intsShortAll, PyData.intsShortAll, PyData.intsShortAll, PyData.intsShort, PyData.intsShort, PyData.intsShort, PyData.intsShortAll_ints _ fun n m => Nat.lt_trans (h.s.2 n m) (by decide), rowsI h.w.2, decide_eq_true (PyData.shown_int_le (Nat.lt_trans sa (by decide)))]
    rfl
  have e5 : (cD c).showable = true := by
    unfold cD
    rw [PyData.showable, PyData.showableAll, PyData.showableAll, PyData.showableAll, PyData.showableAll, PyData.showable, PyData.showable, PyData.showable, intsS h.s.2, rowsS h.w.2, decide_eq_true (Nat.lt_of_le_of_lt (Nat.log2_le_self _) (Nat.lt_trans sa (by decide)))]
    rfl
  refine ⟨e5, PyData.hasDict_of_canLay _ e1, e2, PyData.shown_fits_of_layable0 (B := 13) (by decide) (by decide) ?_ e4⟩
  unfold PyData.layable0
  rw [e1, decide_eq_true (show (cD c).depth ≤ 64 by omega), decide_eq_true e3]
  rfl
end K1
/-! the prices are small -/
namespace K1
open PySem PySem.Spec PyProof.Rows L2 Ow Po Z3
theorem bit_b (d : Int) : ∀ k : Nat, 0 ≤ bitF d k ∧ bitF d k ≤ 1 := by
  have h : ∀ x : Int, 0 ≤ x % 2 ∧ x % 2 ≤ 1 := fun x => by omega
  intro k
  match k with
  | 0 => exact h _
  | 1 => exact h _
  | 2 => exact h _
  | n + 3 => exact h _
theorem sz_b (ns : List Int) {k : Nat} (h : k < 4) : 1 ≤ gI (szL ns) k ∧ gI (szL ns) k ≤ 30 := by
  unfold szL
  rw [gI_mk h]
  unfold szF
  omega
theorem pr_b {s b : Int} (hs : 1 ≤ s ∧ s ≤ 30) (hb : 0 ≤ b ∧ b ≤ 1) : 0 ≤ s * b ∧ s * b ≤ 30 := by
  have : b = 0 ∨ b = 1 := by omega
  rcases this with z | z
  · rw [z, Int.mul_zero]; omega
  · rw [z, Int.mul_one]; omega
theorem st_b (ns : List Int) (x : Nat) : 0 ≤ stF ns x ∧ stF ns x ≤ 120 := by
  unfold stF
  rw [sum4]
  have h : ∀ k : Nat, k < 4 → 0 ≤ gI (szL ns) k * gI (layL ns x) k ∧ gI (szL ns) k * gI (layL ns x) k ≤ 30 := fun k hk => by
    rw [layL_at ns x k hk]
    exact pr_b (sz_b ns hk) (bit_b _ k)
  have h0 := h 0 (by decide)
  have h1 := h 1 (by decide)
  have h2 := h 2 (by decide)
  have h3 := h 3 (by decide)
  omega
theorem wy_b (ns : List Int) (x y : Nat) : 0 ≤ wyF ns x y ∧ wyF ns x y ≤ 120 := by
  unfold wyF
  rw [sum4]
  have h : ∀ k : Nat, k < 4 → 0 ≤ gI (szL ns) k * absF (gI (layL ns x) k - gI (layL ns y) k) ∧ gI (szL ns) k * absF (gI (layL ns x) k - gI (layL ns y) k) ≤ 30 := fun k hk => by
    rw [layL_at ns x k hk, layL_at ns y k hk]
    refine pr_b (sz_b ns hk) ?_
    have a := bit_b (drawF ns (6 + x)) k
    have b := bit_b (drawF ns (6 + y)) k
    unfold absF
    split <;> omega
  have h0 := h 0 (by decide)
  have h1 := h 1 (by decide)
  have h2 := h 2 (by decide)
  have h3 := h 3 (by decide)
  omega
theorem mk_sml {n : Nat} {f : Nat → Int} (hn : n ≤ 5) (hf : ∀ i, 0 ≤ f i ∧ f i ≤ 120) : Sml (mk n f) := by
  refine ⟨by rw [mk_len]; exact hn, fun x m => ?_⟩
  unfold mk at m
  obtain ⟨i, _, rfl⟩ := List.mem_map.mp m
  have := hf i
  omega
theorem costF_small (ns : List Int) : Small (costF ns) := by
  have b := nF_b ns
  refine ⟨?_, mk_sml b.2.1 (st_b ns), ?_, fun r m => ?_⟩
  · have g := (costF_good ns).st
    have : (costF ns).n ≤ 5 := b.2.1
    omega
  · show ((List.range (nF ns)).map _).length ≤ 5
    rw [List.length_map, List.length_range]
    exact b.2.1
  · obtain ⟨x, _, rfl⟩ := List.mem_map.mp m
    exact mk_sml b.2.1 (wy_b ns x)
end K1
/-! repr of data, where nothing is being shown -/
namespace Ow
open PySem PySem.Spec PyProof.Rows L2
theorem noDict_of {d : PyData} {as : List Addr} (h : d.hasDict = false) : d.hasDict = true → sysModules ∉ as := fun z => by rw [h] at z; cases z
theorem call_reprD {X : Cx} {K : PySem.W.Frag} (e : X.K = K) (hg : X.A.guards = some []) (hu : X.A.units + 70 < cLine) : CallR X (.builtin "repr") (fun xs H Q => ∃ (a : Addr) (d : PyData), xs = [.ref a] ∧ Dp K H (.ref a) d ∧ d.showable = true ∧ d.hasDict = false ∧ d.depth ≤ 60 ∧ d.shown.length ≤ sizeLine ∧ Q (.str d.shown) H) := by
  subst e
  intro pins s σ H xs us Q I r h
  obtain ⟨a, d, rfl, hd, hs, nd, dp, hz, q⟩ := h
  cases r with
  | cons r1 r2 =>
    cases r2
    obtain ⟨as, rd⟩ := Dp.reads I d _ _ hd r1
    cases r1
    exact repr_of_reads' rd hs (noDict_of nd) hg (by omega) (fun b o e => e) (fun h' u tk keep => ⟨.str _, H, I.kept (t' := tk) keep, ⟨u, rfl⟩, q⟩) hz
end Ow
/-! a def that is called by the caller of the claim alone: nothing is being shown around it -/
namespace Ow
open PySem PySem.Spec PyProof.Rows L2
theorem caller_guards (env : Env) : (callerA.deeper env).guards = some [] := rfl
def TopOk (P : Program) (w : World) (K : PySem.W.Frag) (mg : Str → Option Value) (base : Heap) (fa : Addr) (fd : FuncData) (ps : List Str) (sp : Sp) : Prop :=
  ∀ (t : Shared) (H : Hp) (ar : Args) (us : List Value) (vs : List V) (Q : VK) (E : XK), Env0 P w K mg base callerA [] t H → BindsTo t fd ar (ps.zip us) → Vals vs us → sp vs H Q E →
    codeAny (model P w) callerA (.call (.ref fa) ar) (CR CX0 [] P w H t Q E) t
section
variable {P : Program} {w : World} {K : PySem.W.Frag} {mg : Str → Option Value} {base : Heap}
theorem top_def {x qual : Str} {st : Stmt} {fa : Addr} {fd : FuncData} {N ps : List Str} {k : Nat} {sp : Sp} (F : Fun K x qual st fa fd) (S : FnScope N ps (defScope st)) (room : Room (k + 1) callerA) (len : ∀ vs H Q E, sp vs H Q E → vs.length = ps.length)
    (body : ∀ (cdv : Value) (t : Shared) (H : Hp) (vs : List V) (Q : VK) (E : XK), Room k (callerA.deeper (envOfC qual (defScope st) t.heap.objs.size fa cdv)) → sp vs H Q E →
      ∃ τ, PSs (cxOf CX0 P w K mg base N qual (defScope st) fa cdv callerA [] t H E).nox (defBody st) τ ∧ τ { nx := fun _ H' => Q .non H', rt := Q } (start N vs) H) : TopOk P w K mg base fa fd ps sp := by
  obtain ⟨oc, od, kV, doc, pm, an, cdv, ct, osl, rfl, lk, hcd⟩ := F.ex
  intro t H ar us vs Q E e0 hb rv hsp
  have kin : K.In t.heap := e0.mod.kin.keeps fun p ob z => (e0.bs p ob z).1
  have nolim : t.heap.NoLimit := e0.mod.nolimit.keeps fun p ob z => (e0.bs p ob z).1
  obtain ⟨τ, hτ, hq⟩ := body cdv t H vs Q E (room.deeper _) hsp
  have hτ' := hτ.nox
  have places : ∀ y ∈ ps.zip us, (defScope st).names.lookup y.1 = some .local ∨ ((defScope st).names.lookup y.1 = some .cell ∧ ((cellsFrom (t.heap.objs.size + 1) (defScope st).names []).lookup y.1).isSome = true) := by
    intro y hy
    have m : y.1 ∈ ps := (List.of_mem_zip (show (y.1, y.2) ∈ ps.zip us from hy)).1
    exact (S.par _ m).imp id fun z => ⟨z, PySem.W.cellsFrom_some _ _ _ (.inl z)⟩
  apply codeAny_call_function room.depth (kin _ _ lk) rfl S.co S.gen rfl (PySem.W.codeRec_of kin hcd)
  apply hb
  apply wpAny_newFunctionEnv_cells S.kind places
  intro env he t1 inC
  cases he
  refine ⟨nolim.keeps inC.toInCall.keep, codeAny_func ?_⟩
  have J0 := inv_start (CX := CX0) (mg := mg) (E := E) S room.hd e0 (len _ _ _ _ hsp) rv inC
  refine wpAny_mono (hτ'.run [] t1 (start N vs) H _ J0 hq) ?_ (fun _ _ z => z)
  have done : ∀ {σ2 : L2.St} {H2 : Hp} {v : V} {u : Value} {t2 : Shared}, Inv (cxOf CX0 P w K mg base N qual (defScope st) fa cdv callerA [] t H E) [] σ2 H2 t2 → RelV v u → Q v H2 → CE [] P w H t Q u t2 :=
    fun J rvu qv => ⟨_, _, J.os, J.bare, J.base, J.hok, rvu, qv⟩
  intro fl t2 z
  match fl, z with
  | .ret u, ⟨_, _, _, J, rvu, qv⟩ => exact done J rvu qv
  | .next, ⟨_, _, J, qv⟩ => exact done (v := .non) (u := .none) J rfl qv
  | .brk, ⟨_, _, _, no⟩ => exact no.elim
  | .cont, ⟨_, _, _, no⟩ => exact no.elim
/-- the numbers of a script, read -/
theorem script_vals : ∀ {vs : List Value} {ns : List Int}, IntsAre vs ns → Vals (ns.map V.int) vs ∧ vs.length = ns.length := fun h => ⟨vals_ints h, h.length⟩
theorem top_call {fa a : Addr} {fd : FuncData} {x : Str} {sp : Sp} {t : Shared} {mb : Str → Option Value} {vs : List Value} {ns : List Int}
    (kin : K.In t.heap) (gl : t.heap.Ns mainGlobals mg) (bn : t.heap.Ns builtinsNs mb) (bnb : ∀ y : Str, y ≠ "__name__" → mb y = bootBuiltins y) (nolim : t.heap.NoLimit) (noG : t.gens = #[])
    (ob : t.heap.get? a = some { cls := .type "list", data := .seq vs.toArray }) (num : IntsAre vs ns) (few : ns.length ≤ sizeLine)
    (F : ∀ b : Heap, K.In b → b.Ns mainGlobals mg → TopOk P w K mg b fa fd [x] sp) (bind : ∀ (t : Shared) (u : Value), BindsTo t fd ⟨[u], []⟩ [(x, u)])
    (hsp : ∀ H : Hp, Only H → SqL K H a (ns.map V.int) → sp [.ref a] H (fun v _ => v = .bl true) fun _ _ _ => False) :
    codeAny (model P w) callerA (.call (.ref fa) ⟨[.ref a], []⟩) (fun r t' => r = .ok (.ret (.bool true)) ∧ OldK t.heap t'.heap ∧ t'.os = t.os ∧ AllBare t'.gens) t := by
  obtain ⟨rv, len⟩ := script_vals num
  let own : HO := .frz { cls := .type "list", data := .seq vs.toArray } (.lst (ns.map V.int))
  let H : Hp := fun b => if b = a ∧ K.lookup a = none then some own else none
  have Hat : ∀ {b : Addr} {u : HO}, H b = some u → b = a ∧ K.lookup a = none ∧ u = own := fun {b u} z => by
    by_cases c : b = a ∧ K.lookup a = none
    · have z' : (if b = a ∧ K.lookup a = none then some own else none) = some u := z
      rw [if_pos c] at z'
      exact ⟨c.1, c.2, (Option.some.inj z').symm⟩
    · have z' : (if b = a ∧ K.lookup a = none then some own else none) = some u := z
      rw [if_neg c] at z'
      cases z'
  have only : Only H := fun b => by
    cases z : H b with
    | none => exact .inl rfl
    | some u => exact .inr ⟨_, _, by rw [(Hat z).2.2]⟩
  have seq : SqL K H a (ns.map V.int) := by
    cases z : K.lookup a with
    | none => exact .inl (.inr ⟨_, if_pos ⟨rfl, z⟩⟩)
    | some o2 =>
      have z2 := kin _ _ z
      rw [ob] at z2
      cases z2
      exact .inr ⟨_, vs.toArray, _, z, rfl, rfl, rfl, by rw [List.size_toArray, len]; exact few, by simpa using rv⟩
  have good : HOk P w H t.heap := fun b u z => by
    obtain ⟨e1, _, e3⟩ := Hat z
    subst e1 e3
    exact ⟨ob, by rw [List.length_map]; exact few, vs, _, rv, ob⟩
  -- what is no list is not hidden
  have seen : ∀ {b : Addr} {o2 : Obj}, t.heap.get? b = some o2 → H b = none → (hidT t.heap H).get? b = some o2 := fun e z => hidT_get e z
  have notA : ∀ {b : Addr} {o2 : Obj} {es : Array DictEntry} {ep : Nat}, t.heap.get? b = some o2 → o2.data = .dict es ep → H b = none := fun {b o2 es ep} e d => by
    cases z : H b with
    | none => rfl
    | some u =>
      obtain ⟨e1, _, _⟩ := Hat z
      subst e1
      rw [ob] at e
      cases e
      cases d
  have nsOf : ∀ {b : Addr} {m : Str → Option Value}, t.heap.Ns b m → (hidT t.heap H).Ns b m := fun {b m} n => by
    obtain ⟨o2, es, ep, e, d, r⟩ := n
    exact ⟨o2, es, ep, seen e (notA e d), d, r⟩
  have kinB : K.In (hidT t.heap H) := fun b o2 e => by
    refine seen (kin b o2 e) ?_
    cases z : H b with
    | none => rfl
    | some u =>
      obtain ⟨e1, e2, _⟩ := Hat z
      subst e1
      rw [e2] at e
      cases e
  have modB : Mod K mg (hidT t.heap H) := by
    refine ⟨kinB, nsOf gl, ⟨mb, nsOf bn, bnb⟩, ?_⟩
    obtain ⟨mc, h1, h2⟩ := nolim
    exact ⟨mc, nsOf h1, h2⟩
  have noOuter : ∀ b : Addr, b ∉ ([] : List Addr) := fun b z => by cases z
  have env : Env0 P w K mg (hidT t.heap H) callerA [] t H := ⟨rfl, modB, fun b o2 e => of_hidT e, Nat.le_of_eq (hidT_size _ _), trivial, fun b z => absurd z (noOuter b), good, .of_eq noG⟩
  refine codeAny_mono (F _ kinB (nsOf gl) t H ⟨[.ref a], []⟩ [.ref a] [.ref a] _ _ env (bind t (.ref a)) (.cons rfl .nil) (hsp H only seq)) ?_
  intro r t' z
  match r, z with
  | .ok (.ret u), ⟨v, H', os, bare, un, good', ru, q⟩ =>
    have q' : v = .bl true := q
    subst q'
    have ru' : u = Value.bool true := ru
    subst ru'
    refine ⟨rfl, OldK.of_keep fun b o2 e => ?_, os, bare⟩
    cases z : H b with
    | none => exact un.keep b o2 e z (noOuter b) (by simp)
    | some x2 =>
      have fz : x2 = own := (Hat z).2.2
      subst fz
      have z2 := un.frzs b _ _ z
      have g1 := (good b _ z).1
      have g2 := (good' b _ z2).1
      rw [e] at g1
      cases g1
      exact g2
end
theorem top_walk {l : PySem.W.OpenLaw} {n : Nat} {q : Program} {loose : List Str} {XP : (Str → Option Value) → Heap → Prop} {YP : World → Heap → Prop} {d : DefRec} {K : Params → PySem.W.Frag} {sp : World → Sp} {x : Str}
    (most : l.most = some n) (few : n ≤ sizeLine) (plain : d.params.defaults = [])
    (kin : ∀ (w : World) (h : Heap), YP w h → (K w.params).In h)
    (F : ∀ (w : World) (mg : Str → Option Value) (fa : Addr) (h : Heap), (K w.params).In h → h.Ns mainGlobals mg → mg d.name = some (.ref fa) →
      ∃ fd : FuncData, (∀ (t : Shared) (u : Value), BindsTo t fd ⟨[u], []⟩ [(x, u)]) ∧ ∀ b : Heap, (K w.params).In b → b.Ns mainGlobals mg → TopOk l.prog w (K w.params) mg b fa fd [x] (sp w))
    (hsp : ∀ (w : World) (H : Hp) (a : Addr) (ns : List Int), ns.length ≤ n → Only H → SqL (K w.params) H a (ns.map V.int) → sp w [.ref a] H (fun v _ => v = .bl true) fun _ _ _ => False) :
    PySem.W.WalkO q loose XP YP l.row.toRowW d [] (fun f vs => PySem.call f vs) := by
  refine Att.attach_call most plain fun w t0 t mg mb fa o pm cd doc a vs ns G Y ho hd hcd gl obj num len noG => ?_
  obtain ⟨fd, bind, top⟩ := F w mg fa _ (kin w _ Y) G.T.g gl
  exact top_call (kin w _ Y) G.T.g G.T.b G.T.builtins G.T.nolimit noG obj num (Nat.le_trans len few) top bind fun H only seq => hsp w H a ns len only seq
end Ow
namespace K1
open PySem PySem.Spec PyProof.Rows L2 Ow Po Z3
abbrev slaw : Stmt := topS 9
abbrev Nlaw : List Str := ["script", "costs", "count", "passed", "given_stands", "given_ways", "policy", "works", "now", "spent", "tasks", "k", "task", "x", "sums", "goal", "given", "told", "after", "s", "row"]
theorem sclaw : FnScope Nlaw ["script"] (defScope slaw) := ⟨rfl, rfl, rfl, by decide +kernel, rfl, by decide +kernel, by decide +kernel⟩
def spLaw (K : PySem.W.Frag) : Sp := fun vs H Q _ => ∃ (a : Addr) (ns : List Int), vs = [.ref a] ∧ SqL K H a (ns.map V.int) ∧ ns.length ≤ 63 ∧ ∀ H', Q (.bl true) H'
theorem li_ne {H : Hp} {a b : Addr} {xs : List Int} {rs : List V} (ha : LI H a xs) (ne : 0 < xs.length) (hb : H b = some (.lst rs)) (hr : ∀ v ∈ rs, ∃ q, v = V.ref q) : a ≠ b := by
  intro e
  rw [e] at ha
  have e2 : rs = xs.map V.int := by
    have := hb.symm.trans ha
    cases this
    rfl
  cases xs with
  | nil => simp at ne
  | cons x xs =>
    obtain ⟨q, e3⟩ := hr (V.int x) (by rw [e2]; exact List.mem_cons_self)
    cases e3
theorem rowsE : ∀ W : List (List Int), PyData.eqvAll (W.map fun r => PyData.list (r.map PyData.int)) (W.map fun r => PyData.list (r.map PyData.int)) = true
  | [] => rfl
  | x :: r => by
    rw [List.map_cons, PyData.eqvAll, rowsE r, PyData.eqv, intsE]
    rfl
theorem rowsSh (W : List (List Int)) : SeqAt.shaped (.list (W.map fun r => PyData.list (r.map PyData.int))) = true := by
  unfold SeqAt.shaped
  have := rowsDep W
  rw [PyData.canLay0, rowsC, PyData.depth, decide_eq_true (by omega)]
  rfl
theorem ix_last {n : Nat} (h : 0 < n) : ixN n (-1) = some (n - 1) := by
  unfold ixN
  rw [if_neg (by decide), if_pos (by omega)]
  congr 1
  omega
theorem at_last {xs : List V} {v : V} (h : 0 < xs.length) (e : xs[xs.length - 1]? = some v) : atI xs (-1) = some v := by
  unfold atI
  rw [ix_last h]
  exact e
section
variable {P : Program} {w : World} {K : PySem.W.Frag} {mg : Str → Option Value} {base : Heap}
theorem ok_law {f C : Addr} {fd : FuncData} (F : Fun K "law" "law" slaw f fd) (T0 : Bl mg) (X : Txt K mg C) (DP : Kmk P w K mg base C 1 ["self", "start", "stands", "ways"] (spInit K C))
    (DV : Kmt P w K mg base C 2 "serve" ["self", "task"] (spServe K C)) (D_law_draw : Kn P w K mg base 1 "_law_draw" ["script", "k"] (spDraw K))
    (D_law_costs : Kn P w K mg base 2 "_law_costs" ["script"] (spCosts K)) (D_law_task : Kn P w K mg base 1 "_law_task" ["number", "count"] spTask) (D_law_going : Kn P w K mg base 1 "_law_going" ["costs", "first", "second"] (spLGoing K)) :
    TopOk P w K mg base f fd ["script"] (spLaw K) := by
  refine top_def F sclaw (k := 2) ⟨rfl, by decide, by decide⟩ (fun vs H Q E h => ?_) (fun cdv s H vs Q E hr h => ?_)
  · obtain ⟨a, ns, rfl, _⟩ := h
    rfl
  · obtain ⟨a, ns, rfl, hs, hl, q⟩ := h
    have hu70 : (callerA.deeper (envOfC "law" (defScope slaw) s.heap.objs.size f cdv)).units + 70 < cLine := by have := hr.un; omega
    refine ⟨_, (pss_cons (ps_set (i := 1) sclaw.nd rfl (.inr rfl) (pe_kn D_law_costs hr (pa_cons (pv 0) pa_nil)))
      (pss_cons (ps_set (i := 2) sclaw.nd rfl (.inl rfl) (pe_callB call_len_seq (by rfl) T0.len PySem.boot_len (pa_cons (pe_ix ix_tup (pv 1) pe_int (fun _ _ => rfl)) pa_nil)))
      (pss_cons (ps_set (i := 3) sclaw.nd rfl (.inl rfl) (pe_callB (call_reprD (K := K) rfl rfl hu70) (by rfl) T0.repr (by decide +kernel) (pa_cons (pv 1) pa_nil)))
      (pss_cons (ps_set (i := 4) sclaw.nd rfl (.inl rfl) (pe_callTy call_list_of (by rfl) T0.list (by decide +kernel) (pa_cons (pe_ix ix_tup (pv 1) pe_int (fun _ _ => rfl)) pa_nil)))
      (pss_cons (ps_setLc (i := 5) (own := [("row", 20)]) (g := gName 20) (tt := tYes) rfl sclaw.nd rfl rfl (sw_true rfl rfl rfl (by decide +kernel)) (pi_list (pe_ix ix_tup (pv 1) pe_int (fun _ _ => rfl))) (blkOk_by (own := [("row", 20)]) (N := Nlaw) (sc := defScope slaw) (by decide +kernel)) (fun _ _ _ _ _ => pg_name (i := 20) sclaw.nd rfl (Or.inl rfl)) (fun _ _ _ _ _ => pts_nil) (fun _ _ _ _ _ => (pe_callTy (call_list_K (K := K) rfl) (by rfl) T0.list (by decide +kernel) (pa_cons (pv 20) pa_nil))))
      (pss_cons (ps_set (i := 6) sclaw.nd rfl (.inl rfl) (pe_mk DP X.mgC hr (pa_cons (pe_ix ix_tup (pv 1) pe_int (fun _ _ => rfl)) (pa_cons (pv 4) (pa_cons (pv 5) pa_nil)))))
      (pss_cons (ps_asg (pe_op op_add (pe_ix ix_list (pv 4) pe_int (fun _ _ => rfl)) pe_int) (pg_sub (pv 4) pe_int set_list))
      (pss_cons (ps_asg (pe_op op_add (pe_ix ix_list (pe_ix ix_list (pv 5) pe_int (fun _ _ => rfl)) (pe_un un_neg pe_int) (fun _ _ => rfl)) pe_int) (pg_sub (pe_ix ix_list (pv 5) pe_int (fun _ _ => rfl)) (pe_un un_neg pe_int) set_list))
      (pss_cons (ps_set (i := 7) sclaw.nd rfl (.inr rfl) (pe_callTy call_list_of (by rfl) T0.list (by decide +kernel) (pa_cons (pe_ix ix_list (pe_ix ix_tup (pv 1) pe_int (fun _ _ => rfl)) (pe_ix ix_tup (pv 1) pe_int (fun _ _ => rfl)) (fun _ _ => rfl)) pa_nil)))
      (pss_cons (ps_set (i := 8) sclaw.nd rfl (.inr rfl) (pe_ix ix_tup (pv 1) pe_int (fun _ _ => rfl)))
      (pss_cons (ps_set (i := 9) sclaw.nd rfl (.inl rfl) pe_int)
      (pss_cons (ps_set (i := 10) sclaw.nd rfl (.inl rfl) (pe_lst pa_nil))
      (pss_cons (ps_for PassesOwn.never rfl (pi_range1 (by rfl) T0.range (pa_cons (pe_callB (call_min2 rfl) (by rfl) T0.min (by decide +kernel) (pa_cons pe_int (pa_cons (pe_callB call_len_seq (by rfl) T0.len PySem.boot_len (pa_cons (pv 0) pa_nil)) pa_nil))) pa_nil)) (pg_name (i := 11) sclaw.nd rfl (.inl rfl)) (pss_cons (ps_set (i := 12) sclaw.nd rfl (.inr rfl) (pe_kn D_law_task hr (pa_cons (pe_kn D_law_draw hr (pa_cons (pv 0) (pa_cons (pe_op op_add pe_int (pv 11)) pa_nil))) (pa_cons (pv 2) pa_nil))))
      (pss_cons (ps_setLc (i := 14) (own := [("x", 13)]) (g := gName 13) (tt := tYes) rfl sclaw.nd rfl rfl (sw_true rfl rfl rfl (by decide +kernel)) (pi_range1 (by rfl) T0.range (pa_cons (pv 2) pa_nil)) (blkOk_by (own := [("x", 13)]) (N := Nlaw) (sc := defScope slaw) (by decide +kernel)) (fun _ _ _ _ _ => pg_name (i := 13) sclaw.nd rfl (Or.inl rfl)) (fun _ _ _ _ _ => pts_nil) (fun _ _ _ _ _ => (pe_op op_add (pe_op op_add (pe_ix (ix_list_K (K := K) rfl) (pv 7) (pv 13) (fun _ _ => rfl)) (pe_op op_mul pe_int (pe_ix (ix_list_K (K := K) rfl) (pv 12) (pv 13) (fun _ _ => rfl)))) (pe_ix (ix_list_K (K := K) rfl) (pe_ix (ix_list_K (K := K) rfl) (pe_ix (ix_tup_K (K := K) rfl) (pv 1) pe_int (fun _ _ => rfl)) (pv 13) (fun _ _ => rfl)) (pv 8) (fun _ _ => rfl)))))
      (pss_cons (ps_set (i := 15) sclaw.nd rfl (.inl rfl) (pv 8))
      (pss_cons (ps_for PassesOwn.never rfl (pi_range1 (by rfl) T0.range (pa_cons (pv 2) pa_nil)) (pg_name (i := 13) sclaw.nd rfl (.inl rfl)) (pss_one (ps_if (pt_cmpR op_lt (pe_ix ix_list (pv 14) (pv 13) (fun _ _ => rfl)) (pe_ix ix_list (pv 14) (pv 15) (fun _ _ => rfl)) (nomark _)) (pss_one (ps_set (i := 15) sclaw.nd rfl (.inl rfl) (pv 13))) pss_nil)))
      (pss_cons (ps_set (i := 16) sclaw.nd rfl (.inl rfl) (pe_callTy call_list_of (by rfl) T0.list (by decide +kernel) (pa_cons (pv 12) pa_nil)))
      (pss_cons (ps_set (i := 17) sclaw.nd rfl (.inl rfl) (pe_mt DV hr (pv 6) (pa_cons (pv 16) pa_nil)))
      (pss_cons (ps_asg (pe_op op_add (pe_ix ix_list (pv 16) pe_int (fun _ _ => rfl)) pe_int) (pg_sub (pv 16) pe_int set_list))
      (pss_cons (ps_set (i := 9) sclaw.nd rfl (.inl rfl) (pe_op op_add (pe_op op_add (pv 9) (pe_kn D_law_going hr (pa_cons (pv 1) (pa_cons (pv 8) (pa_cons (pv 15) pa_nil))))) (pe_ix ix_list (pv 12) (pv 15) (fun _ _ => rfl))))
      (pss_cons (ps_set (i := 8) sclaw.nd rfl (.inr rfl) (pv 15))
      (pss_cons (ps_set (i := 18) sclaw.nd rfl (.inl rfl) (pe_lst pa_nil))
      (pss_cons (ps_for PassesOwn.never rfl (pi_range1 (by rfl) T0.range (pa_cons (pv 2) pa_nil)) (pg_name (i := 19) sclaw.nd rfl (.inr rfl)) (pss_one (ps_expr (pe_bm PySem.F.plainAttrs_list PySem.F.slot_list_append PySem.F.type_list_append mt_append (pv 18) (pa_cons (pe_callB (call_min_K rfl rfl) (by rfl) T0.min (by decide +kernel) (pa_cons (pe_lc (own := [("x", 13)]) (g := gName 13) (tt := tYes) rfl sclaw.nd (pi_range1 (by rfl) T0.range (pa_cons (pv 2) pa_nil)) (blkOk_by (own := [("x", 13)]) (N := Nlaw) (sc := defScope slaw) (by decide +kernel)) (fun _ _ _ _ _ => pg_name (i := 13) sclaw.nd rfl (Or.inl rfl)) (fun _ _ _ _ _ => pts_nil) (fun _ _ _ _ _ => (pe_op op_add (pe_op op_add (pe_ix (ix_list_K (K := K) rfl) (pv 7) (pv 13) (fun _ _ => rfl)) (pe_op op_mul pe_int (pe_ix (ix_list_K (K := K) rfl) (pv 12) (pv 13) (fun _ _ => rfl)))) (pe_ix (ix_list_K (K := K) rfl) (pe_ix (ix_list_K (K := K) rfl) (pe_ix (ix_tup_K (K := K) rfl) (pv 1) pe_int (fun _ _ => rfl)) (pv 13) (fun _ _ => rfl)) (pv 19) (fun _ _ => rfl))))) pa_nil)) pa_nil)))))
      (pss_cons (ps_set (i := 7) sclaw.nd rfl (.inr rfl) (pv 18))
      (pss_cons (ps_expr (pe_bm PySem.F.plainAttrs_list PySem.F.slot_list_append PySem.F.type_list_append mt_append (pv 10) (pa_cons (pe_callTy call_list_of (by rfl) T0.list (by decide +kernel) (pa_cons (pv 12) pa_nil)) pa_nil)))
      (pss_cons (ps_asg (pe_op op_add (pe_ix ix_list (pv 12) pe_int (fun _ _ => rfl)) pe_int) (pg_sub (pv 12) pe_int set_list))
      (pss_one (ps_if (PW.pt (pw_or (pt_cmpR op_ne (pv 17) (pv 15) (nomark _)) (pw_or (pt_cmpR op_ne (pe_fld (pv 6) rfl) (pv 15) (nomark _)) (pw_or (pt_cmpR op_ne (pe_fld (pv 6) rfl) (pv 9) (nomark _)) (pw_or1 (pt_cmpR (op_neD (hu64 hr)) (pe_ix ix_list (pe_fld (pv 6) rfl) (pe_un un_neg pe_int) (fun _ _ => rfl)) (pv 7) (nomark _))))))) (pss_one (ps_ret pe_bl)) pss_nil)))))))))))))))))
      (pss_cons (ps_if (PW.pt (pw_or (pt_cmpR (op_neD (hu64 hr)) (pe_lc (own := [("task", 12)]) (g := gName 12) (tt := tYes) rfl sclaw.nd (pi_list (pe_fld (pv 6) rfl)) (blkOk_by (own := [("task", 12)]) (N := Nlaw) (sc := defScope slaw) (by decide +kernel)) (fun _ _ _ _ _ => pg_name (i := 12) sclaw.nd rfl (Or.inl rfl)) (fun _ _ _ _ _ => pts_nil) (fun _ _ _ _ _ => (pe_callTy (call_list_K (K := K) rfl) (by rfl) T0.list (by decide +kernel) (pa_cons (pv 12) pa_nil)))) (pv 10) (nomark _)) (pw_or1 (pt_cmpR op_ne (pe_callB call_len_seq (by rfl) T0.len PySem.boot_len (pa_cons (pe_fld (pv 6) rfl) pa_nil)) (pe_op op_add (pe_callB call_len_seq (by rfl) T0.len PySem.boot_len (pa_cons (pv 10) pa_nil)) pe_int) (nomark _))))) (pss_one (ps_ret pe_bl)) pss_nil)
      (pss_one (ps_ret (pe_and (pe_cmpR op_eq (pe_callB (call_reprD (K := K) rfl rfl hu70) (by rfl) T0.repr (by decide +kernel) (pa_cons (pv 1) pa_nil)) (pv 3) (nomark _)) (pe_one (pe_cmpR (op_eqD (hu64 hr)) (pe_ix ix_list (pe_fld (pv 6) rfl) pe_int (fun _ _ => rfl)) (pe_ix ix_list (pe_ix ix_tup (pv 1) pe_int (fun _ _ => rfl)) (pe_ix ix_tup (pv 1) pe_int (fun _ _ => rfl)) (fun _ _ => rfl)) (nomark _)))))))))))))))))))), ?_⟩
    have g := costF_good ns
    have nb := nF_b ns
    have hn : (costF ns).n ≤ 5 := nb.2.1
    have pos : 0 < (costF ns).n := g.pos
    -- costs
    refine ⟨_, rfl, a, ns, rfl, hs, hl, fun H1 t s1 nt D1 dis ext => ?_⟩
    obtain ⟨b1, b2, e0, es, ew⟩ := D1.ex
    refine ⟨_, rfl, t, _, 1, .ref b1, rfl, rfl, e0, rfl, b1, _, rfl, .inl es.seq, ?_⟩
    rw [show (((costF ns).S.map V.int).length : Int) = (((costF ns).n : Nat) : Int) by rw [List.length_map, g.s]]
    -- passed
    obtain ⟨f1, f2, f3, f4⟩ := cD_facts (costF_small ns)
    refine ⟨_, rfl, t, cD (costF ns), rfl, D1.data, f1, f2, f3, f4, ?_⟩
    -- given_stands
    refine ⟨_, rfl, t, _, 1, .ref b1, rfl, rfl, e0, rfl, b1, _, rfl, .inl es.seq, fun gs ngs => ?_⟩
    have s12 : Same H1 (upd H1 gs (.lst ((costF ns).S.map V.int))) := Same.new ngs
    have egs2 : LI (upd H1 gs (.lst ((costF ns).S.map V.int))) gs (costF ns).S := upd_same
    generalize (upd H1 gs (.lst ((costF ns).S.map V.int))) = H2 at s12 egs2 ⊢
    -- given_ways
    obtain ⟨ws, ewa, lw, gws, _⟩ := ew.ex
    have lws : (ws.map V.ref).length = (costF ns).n := by rw [List.length_map, lw, g.w]
    refine ⟨_, rfl, t, _, 2, .ref b2, rfl, rfl, sqt_same s12 e0, rfl, b2, rfl, ⟨_, SqL.of (s12 _ _ ewa)⟩, fun gw ngw => ?_⟩
    refine lc_new (walk_list (K := K) (a := b2) (xs := ws.map V.ref)) (fun i => (gR (costF ns).W i).map V.int) (by rw [lws]; exact small (show (costF ns).n ≤ 1000 by omega) (by decide)) ngw (fun H s => SqL.of (s _ _ (s12 _ _ ewa))) (fun i v H4 H4' N hi s4 yy fin => ?_) fun H3 us s23 eD lu gu => ?_
    · obtain ⟨rfl, ex⟩ := yy
      rw [lws] at hi
      have hu : i < ws.length := by rw [lw, g.w]; exact hi
      rw [List.getElem?_map, List.getElem?_eq_getElem hu] at ex
      cases ex
      have et := gws i _ _ (List.getElem?_eq_getElem hu) (at_gR (W := (costF ns).W) (i := i) (by rw [g.w]; exact hi))
      refine ⟨rfl, _, rfl, _, _, rfl, .inl (SqL.of (s4 _ _ (s12 _ _ et))), fun l nl => ?_⟩
      exact fin _ l (Same.new nl) nl upd_same
    rw [lws] at lu
    have s13 := s12.trans s23
    have egs3 := egs2.same s23
    have ngw1 : H1 gw = none := s12.free ngw
    have gus : ∀ u ∈ us, H1 u = none ∧ u ≠ gw ∧ u ≠ gs ∧ H3 u ≠ none := fun u m => by
      obtain ⟨i, ei⟩ := List.mem_iff_getElem?.mp m
      obtain ⟨f1, f2, f3⟩ := gu i u ei
      refine ⟨s12.free f1, f2, fun z => ?_, fun z => by rw [z] at f3; cases f3⟩
      rw [z, show H2 gs = _ from egs2] at f1
      cases f1
    have egw3 : LL (fun _ => False) H3 gw (costF ns).W := ⟨us, eD, by rw [lu, g.w], fun i u xs e1 e2 => by
      rw [← gR_at e2]
      exact (gu i u e1).2.2, fun _ _ z => z⟩
    -- policy
    refine ⟨_, rfl, t, _, 0, .int ((costF ns).start : Nat), rfl, rfl, sqt_same s13 e0, rfl, _, rfl, _, rfl, fun x dx nx ndx nex => ?_⟩
    have sB : Same H3 (upd (upd H3 dx (.own x)) x (.ins C dx [])) := Same.over (Same.new ndx) nx
    refine ⟨x, dx, gs, gw, costF ns, _, rfl, upd_same, egs3.same sB, egw3.same sB, g, by omega, fun H4 sA wA tA kA D4 keep fr => ⟨rfl, ?_⟩⟩
    have s34 : Same H3 H4 := fun b o e => keep b o (sB b o e) (ne_of_none e nx)
    have zall : ∀ b, H3 b ≠ none → (fun b => (upd (upd H3 dx (.own x)) x (.ins C dx [])) b ≠ none ∧ b ≠ x) b := fun b e => by
      cases z : H3 b with
      | none => exact absurd z e
      | some o => exact ⟨(by rw [sB b o z]; intro w; cases w), ne_of_none z nx⟩
    generalize (fun b => (upd (upd H3 dx (.own x)) x (.ins C dx [])) b ≠ none ∧ b ≠ x) = Z at D4 zall
    have zgs : Z gs := zall gs (by rw [show H3 gs = _ from egs3]; exact fun z => nomatch z)
    have zus : ∀ u ∈ us, Z u := fun u m => zall u (gus u m).2.2.2
    have nx1 : H1 x = none := s13.free nx
    have ntA1 : H1 tA = none := s13.free (sB.free fr.2.2.1)
    have nkA1 : H1 kA = none := s13.free (sB.free fr.2.2.2)
    clear keep fr zall sB nx ndx nex
    have s14 := s13.trans s34
    have egs4 := egs3.same s34
    have egw4 := s34 _ _ eD
    have hu0 : 0 < us.length := by rw [lu]; exact pos
    have m0 : us[0] ∈ us := List.getElem_mem hu0
    have u0 : us[0]? = some us[0] := List.getElem?_eq_getElem hu0
    have eu4 : H4 us[0] = some (.lst ((gR (costF ns).W 0).map V.int)) := s34 _ _ ((gu 0 _ u0).2.2)
    obtain ⟨g01, g02, g03, _⟩ := gus _ m0
    generalize us[0] = v0 at u0 eu4 g01 g02 g03 m0
    have zv0 := zus _ m0
    -- given_stands[0]
    have lS : 0 < (costF ns).S.length := by rw [g.s]; exact pos
    refine ⟨_, rfl, gs, _, 0, .int (gI (costF ns).S 0), rfl, rfl, egs4.seq, L2.at_of (j := 0) rfl (li_at lS), _, _, rfl, rfl, _, rfl, gs, _, 0, 0, rfl, rfl, egs4, (by rw [List.length_map, g.s]; unfold ixN; rw [if_pos (by decide), if_pos (by omega)]; rfl), ?_⟩
    have D5 := D4.mut (o := .lst (((costF ns).S.map V.int).set 0 (.int (gI (costF ns).S 0 + 2)))) zgs
    have s15 : Same H1 (upd H4 gs (.lst (((costF ns).S.map V.int).set 0 (.int (gI (costF ns).S 0 + 2))))) := Same.over s14 ngs
    have gwgs : gw ≠ gs := fun z => by rw [z, show H2 gs = _ from egs2] at ngw; cases ngw
    have egw5 : (upd H4 gs (.lst (((costF ns).S.map V.int).set 0 (.int (gI (costF ns).S 0 + 2))))) gw = some (.lst (us.map V.ref)) := by rw [upd_ne gwgs]; exact egw4
    have eu5 : (upd H4 gs (.lst (((costF ns).S.map V.int).set 0 (.int (gI (costF ns).S 0 + 2))))) v0 = some (.lst ((gR (costF ns).W 0).map V.int)) := by rw [upd_ne g03]; exact eu4
    generalize (upd H4 gs (.lst (((costF ns).S.map V.int).set 0 (.int (gI (costF ns).S 0 + 2))))) = H5 at D5 s15 egw5 eu5 ⊢
    -- given_ways[0][-1]
    have l0 : (gR (costF ns).W 0).length = (costF ns).n := g.r 0 pos
    have lm : ((gR (costF ns).W 0).map V.int).length = (costF ns).n := by rw [List.length_map, l0]
    have ea : (us.map V.ref)[0]? = some (.ref v0) := by rw [List.getElem?_map, u0]; rfl
    refine ⟨_, rfl, gw, _, 0, .ref v0, rfl, rfl, SqL.of egw5, L2.at_of (j := 0) rfl ea, _, rfl, v0, _, -1, .int (gI (gR (costF ns).W 0) ((costF ns).n - 1)), rfl, rfl, SqL.of eu5, at_last (by rw [lm]; exact pos) (by rw [lm]; exact li_at (by rw [l0]; omega)), _, _, rfl, rfl, _, rfl, gw, _, 0, .ref v0, rfl, rfl, SqL.of egw5, L2.at_of (j := 0) rfl ea, _, rfl, v0, _, -1, (costF ns).n - 1, rfl, rfl, eu5, (by rw [lm]; exact ix_last pos), ?_⟩
    have D6 := D5.mut (o := .lst (((gR (costF ns).W 0).map V.int).set ((costF ns).n - 1) (.int (gI (gR (costF ns).W 0) ((costF ns).n - 1) + 2)))) zv0
    have s16 : Same H1 (upd H5 v0 (.lst (((gR (costF ns).W 0).map V.int).set ((costF ns).n - 1) (.int (gI (gR (costF ns).W 0) ((costF ns).n - 1) + 2))))) := Same.over s15 g01
    generalize (upd H5 v0 (.lst (((gR (costF ns).W 0).map V.int).set ((costF ns).n - 1) (.int (gI (gR (costF ns).W 0) ((costF ns).n - 1) + 2))))) = H6 at D6 s16 ⊢
    clear D4 D5 egs4 egw4 eu4 egw5 eu5 s14 s15 s34 s23 egs3 egw3 eD gu gus zus
    -- works, now, tasks
    obtain ⟨wss, r0, ew0, lw0, ew1, er0, _⟩ := ew.at (at_gR (W := (costF ns).W) (i := (costF ns).start) (by rw [g.w]; exact g.st))
    refine ⟨_, rfl, t, _, 2, .ref b2, rfl, rfl, sqt_same s16 e0, rfl, _, rfl, t, _, 0, .int ((costF ns).start : Nat), rfl, rfl, sqt_same s16 e0, rfl, b2, _, _, .ref r0, rfl, rfl, SqL.of (s16 _ _ ew0), atI_nat ew1, r0, _, rfl, .inl (er0.same s16).seq, fun wa nwa => ?_⟩
    have s17 := s16.trans (Same.new (o := .lst ((gR (costF ns).W (costF ns).start).map V.int)) nwa)
    have D7 := D6.same (Same.new (o := .lst ((gR (costF ns).W (costF ns).start).map V.int)) nwa)
    have ewa7 : LI (upd H6 wa (.lst ((gR (costF ns).W (costF ns).start).map V.int))) wa (gR (costF ns).W (costF ns).start) := upd_same
    generalize (upd H6 wa (.lst ((gR (costF ns).W (costF ns).start).map V.int))) = H7 at s17 D7 ewa7 ⊢
    refine ⟨_, rfl, t, _, 0, .int ((costF ns).start : Nat), rfl, rfl, sqt_same s17 e0, rfl, ?_⟩
    refine ⟨by show 0 ≤ sizeLine; decide, fun ta nta => ?_⟩
    have s18 := s17.trans (Same.new (o := .lst []) nta)
    have D8 := D7.grow nta (Same.new (o := .lst []) nta) (by rw [upd_same]; intro z; cases z)
    have ewa8 := ewa7.same (Same.new (o := .lst []) nta)
    have eta8 : (upd H7 ta (.lst [])) ta = some (.lst []) := upd_same
    have nta1 : H1 ta = none := s17.free nta
    generalize (upd H7 ta (.lst [])) = H8 at s18 D8 ewa8 eta8 ⊢
    have hs1 : SqL K H1 a (ns.map V.int) := s1.seq hs
    have cl : ((ns.map V.int).length : Int) = (ns.length : Int) := by rw [List.length_map]
    have lwk0 : wk (costF ns) [] = gR (costF ns).W (costF ns).start := rfl
    refine ⟨_, rfl, a, _, rfl, .inl (s18.seq hs1), _, _, rfl, _, rfl, ?_, ?_, ?_⟩
    · rw [cl]; split <;> omega
    · rw [cl]; split <;> omega
    clear D6 D7 ewa7 s16 s17 nwa nta
    refine for_range (lo := 0) (fun k σ H' => ∃ (Z : Addr → Prop) (wa : Addr) (now : Nat) (spent : Int) (T : List (List Int)) (v11 v12 v13 v14 v15 v16 v17 v18 v19 v20 : Option V),
      σ = [some (.ref a), some (.ref t), some (.int ((costF ns).n : Nat)), some (.str (cD (costF ns)).shown), some (.ref gs), some (.ref gw), some (.ref x), some (.ref wa), some (.int (now : Nat)), some (.int spent), some (.ref ta), v11, v12, v13, v14, v15, v16, v17, v18, v19, v20] ∧
      T.length = k ∧ (∀ e ∈ T, e.length = (costF ns).n) ∧ now < (costF ns).n ∧ PolAt C Z H' x sA wA tA kA (costF ns) now spent T (worksL (costF ns) T) ∧ Z ta ∧ LI H' wa (wk (costF ns) T) ∧
      LL (fun b => b = x ∨ b = tA ∨ b = kA ∨ b = ta) H' ta T ∧ Same H1 H')
      ⟨_, wa, (costF ns).start, 0, [], _, _, _, _, _, _, _, _, _, _, rfl, rfl, (fun e m => nomatch m), g.st, D8, .inr rfl, ewa8, ⟨[], eta8, rfl, fun i t xs e1 e2 => by simp at e1, fun t m => nomatch m⟩, s18⟩ ?_ ?_
    · clear D8 ewa8 eta8 s18
      rintro k σ H7 hk ⟨Z, wa, now, spent, T, v11, v12, v13, v14, v15, v16, v17, v18, v19, v20, rfl, lT, tl, hnow, D7, zta, W7, L7, s7⟩
      have hk63 : k < 63 := by
        rw [cl] at hk
        split at hk <;> omega
      -- task
      refine ⟨_, rfl, _, rfl, _, _, rfl, rfl, a, ns, 20 + k, congrArg (fun z : Int => [V.ref a, V.int z]) (show (20 : Int) + (0 + (k : Int)) = ((20 + k : Nat) : Int) by omega), s7.seq hs1, hl, by omega, _, rfl, drawF ns (20 + k), (costF ns).n, rfl, by omega, fun H8 l s8 nl hl8 => ?_⟩
      have le : (taskF (drawF ns (20 + k)) (costF ns).n).length = (costF ns).n := mk_len _ _
      generalize taskF (drawF ns (20 + k)) (costF ns).n = e at hl8 le
      have lw : (wk (costF ns) T).length = (costF ns).n := wk_len g T
      have D8 := D7.grow nl s8 (by rw [show H8 l = _ from hl8]; intro z; cases z)
      have W8 := W7.same s8
      have L8 := L7.grow nl s8
      have S8 := s7.trans s8
      have nl1 : H1 l = none := s7.free nl
      obtain ⟨_, eta7, _⟩ := L7.ex
      have lta : l ≠ ta := (ne_of_none eta7 nl).symm
      have lwa : wa ≠ l := ne_of_none W7 nl
      have nn : (((costF ns).n : Nat) : Int).toNat = (costF ns).n := Int.toNat_natCast _
      have row : ∀ {i : Nat}, i < (costF ns).n → ∃ r wss, H1 b2 = some (.lst wss) ∧ wss[i]? = some (.ref r) ∧ LI H1 r (gR (costF ns).W i) := fun {i} hi => by
        obtain ⟨wss, r, q1, _, q2, q3, _⟩ := ew.at (at_gR (W := (costF ns).W) (i := i) (by rw [g.w]; exact hi))
        exact ⟨r, wss, q1, q2, q3⟩
      clear D7 L7 eta7 s8
      -- sums
      refine ⟨_, rfl, _, rfl, by omega, by omega, fun su nsu => ?_⟩
      refine lc_mk (walk_range (lo := 0)) (fun i => V.int (sumF (costF ns) (wk (costF ns) T) e now i)) (by rw [nn]; exact small (show (costF ns).n ≤ 1000 by omega) (by decide)) nsu (fun _ _ => trivial) (fun i v H9 H9' N hi s9 yy fin => ?_) fun H9 s9 eSu => ?_
      · obtain ⟨rfl, ex⟩ := yy
        have ex := xi ex
        subst ex
        rw [nn] at hi
        obtain ⟨r, wss, q1, q2, q3⟩ := row hi
        have S9 := S8.trans s9
        refine ⟨rfl, _, rfl, _, rfl, wa, _, _, _, rfl, rfl, (W8.same s9).seq, atI_nat (li_at (by rw [lw]; exact hi)), _, rfl, _, rfl, l, _, _, _, rfl, rfl, (hl8.same s9).seq, atI_nat (li_at (by rw [le]; exact hi)), _, _, rfl, rfl, .inl ⟨by decide, by decide⟩, _, _, rfl, rfl,
          _, rfl, t, _, 2, .ref b2, rfl, rfl, sqt_same S9 e0, rfl, _, rfl, b2, _, _, .ref r, rfl, rfl, SqL.of (S9 _ _ q1), atI_nat q2, _, rfl, r, _, _, _, rfl, rfl, (q3.same S9).seq, atI_nat (li_at (by rw [g.r i hi]; exact hnow)), _, _, rfl, rfl, ?_⟩
        exact fin _ (Same.refl _)
      rw [nn] at eSu
      have eSu' : LI H9 su (sums (costF ns) (wk (costF ns) T) e now) := by
        show H9 su = _
        rw [eSu]
        unfold sums mk
        rw [List.map_map]
        rfl
      -- goal
      refine ⟨_, rfl, _, rfl, _, rfl, by omega, by omega, ?_⟩
      refine for_range (lo := 0) (fun i σ H' => ∃ (gg : Nat) (v13 : Option V), σ = [some (.ref a), some (.ref t), some (.int ((costF ns).n : Nat)), some (.str (cD (costF ns)).shown), some (.ref gs), some (.ref gw), some (.ref x), some (.ref wa), some (.int (now : Nat)), some (.int spent), some (.ref ta), some (.int (0 + (k : Int))), some (.ref l), v13, some (.ref su), some (.int (gg : Nat)), v16, v17, v18, v19, v20] ∧
        H' = H9 ∧ gg < (costF ns).n ∧ Ch (sumF (costF ns) (wk (costF ns) T) e now) now i gg) ⟨now, _, rfl, rfl, hnow, Ch.zero _ _⟩ ?_ ?_
      · rintro i σ H' hi ⟨gg, v13', rfl, rfl, hgg, ch⟩
        rw [nn] at hi
        refine ⟨_, rfl, _, rfl, su, _, _, _, rfl, rfl, eSu'.seq, L2.at_of (j := i) (Int.zero_add _) (li_at (by rw [sums_len]; exact hi)), _, rfl, _, rfl, su, _, _, _, rfl, rfl, eSu'.seq, atI_nat (li_at (by rw [sums_len]; exact hgg)), _, _, rfl, rfl, _, rfl, ?_⟩
        rw [show gI (sums (costF ns) (wk (costF ns) T) e now) i = sumF (costF ns) (wk (costF ns) T) e now i from gI_mk hi, show gI (sums (costF ns) (wk (costF ns) T) e now) gg = sumF (costF ns) (wk (costF ns) T) e now gg from gI_mk hgg]
        have st := ch.step
        refine ite2 (fun e1 => ?_) (fun e1 => ?_)
        · rw [if_pos (of_decide_eq_true e1)] at st
          have ez : V.int (0 + (i : Int)) = V.int ((i : Nat) : Int) := by rw [Int.zero_add]
          exact ⟨_, rfl, i, some (.int (i : Int)), by rw [ez]; rfl, rfl, hi, st⟩
        · rw [if_neg (fun z => e1 (decide_eq_true z))] at st
          exact ⟨gg, _, rfl, rfl, hgg, st⟩
      rintro σ H' ⟨gg, v13', rfl, rfl, hgg, ch⟩
      rw [nn] at ch
      have eg := ch.end g hnow
      subst eg
      clear ch eSu eSu'
      -- given
      have D9 := D8.same s9
      have W9 := W8.same s9
      have L9 := L8.same s9
      have hl9 := hl8.same s9
      have S9 := S8.trans s9
      clear D8 W8 L8 hl8 S8 s9 nsu
      refine ⟨_, rfl, l, _, rfl, .inl hl9.seq, fun gv ngv => ?_⟩
      have sg : Same H' (upd H' gv (.lst (e.map V.int))) := Same.new ngv
      have hgv : LI (upd H' gv (.lst (e.map V.int))) gv e := upd_same
      have D10 := D9.grow ngv sg (by rw [upd_same]; intro z; cases z)
      have L10 := L9.grow ngv sg
      have gvl : l ≠ gv := ne_of_none hl9 ngv
      have gvwa : wa ≠ gv := ne_of_none W9 ngv
      have gvta : ta ≠ gv := fun z => by
        obtain ⟨_, e1, _⟩ := L9.ex
        rw [z, ngv] at e1
        cases e1
      have ngv1 : H1 gv = none := S9.free ngv
      have W10 := W9.same sg
      have hl10 := hl9.same sg
      have S10 := S9.trans sg
      generalize (upd H' gv (.lst (e.map V.int))) = H10 at sg hgv D10 L10 W10 hl10 S10 ⊢
      clear D9 L9 W9 hl9 S9 sg
      obtain ⟨dx10, ob10⟩ := D10.ob
      have gvtA : gv ≠ tA := fun z => D10.nz.2.2.2.1 (by rw [← z]; exact .inr rfl)
      have gvkA : gv ≠ kA := fun z => D10.nz.2.2.2.2 (by rw [← z]; exact .inr rfl)
      have gvx : gv ≠ x := fun z => D10.nz.1 (by rw [← z]; exact .inr rfl)
      have ltA : l ≠ tA := fun z => D10.nz.2.2.2.1 (by rw [← z]; exact .inl (.inr rfl))
      have lkA : l ≠ kA := fun z => D10.nz.2.2.2.2 (by rw [← z]; exact .inl (.inr rfl))
      have lx : l ≠ x := fun z => D10.nz.1 (by rw [← z]; exact .inl (.inr rfl))
      have tax : ¬ (ta = x ∨ ta = tA ∨ ta = kA) := fun z => by
        rcases z with z | z | z
        · exact D10.nz.1 (by rw [← z]; exact .inl (.inl zta))
        · exact D10.nz.2.2.2.1 (by rw [← z]; exact .inl (.inl zta))
        · exact D10.nz.2.2.2.2 (by rw [← z]; exact .inl (.inl zta))
      obtain ⟨_, etA, _⟩ := D10.t.ex
      obtain ⟨_, ekA, _⟩ := D10.k.ex
      have refs : ∀ (us : List Addr), ∀ v ∈ us.map V.ref, ∃ q, v = V.ref q := fun us v m => by
        obtain ⟨q, _, rfl⟩ := List.mem_map.mp m
        exact ⟨q, rfl⟩
      have wat : ¬ (wa = x ∨ wa = tA ∨ wa = kA) := fun z => by
        rcases z with z | z | z
        · exact ne_of W10 ob10 (by intro z; cases z) z
        · exact li_ne W10 (by rw [lw]; exact pos) etA (refs _) z
        · exact li_ne W10 (by rw [lw]; exact pos) ekA (refs _) z
      -- told
      refine ⟨_, rfl, x, dx10, _, rfl, ob10, polF_no_serve _ _ _ _ _ _ _, _, rfl, _, x, gv, sA, wA, tA, kA, costF ns, now, spent, T, worksL (costF ns) T, wk (costF ns) T, e, rfl, D10, g, by omega, hgv, le, gvtA, gvkA, worksL_len _ _, ?_, lw, hnow, by omega, fun H11 D11 B11 => ?_⟩
      · rw [worksL_at _ (Nat.le_refl _), List.take_length]
      rw [← worksL_snoc] at D11
      have hc := chF_lt g (w := wk (costF ns) T) (e := e) hnow
      generalize hcc : chF (costF ns) (wk (costF ns) T) e now = ch at D11 hc
      have W11 := W10.bt B11 wat
      have hl11 := hl10.bt B11 (fun z => by
        rcases z with z | z | z
        · exact lx z
        · exact ltA z
        · exact lkA z)
      have hgv11 := hgv.bt B11 (fun z => by
        rcases z with z | z | z
        · exact gvx z
        · exact gvtA z
        · exact gvkA z)
      have S11 : Same H1 H11 := fun b o q => B11 b o (fun z => by
        rcases z with z | z | z
        · rw [z, nx1] at q; cases q
        · rw [z, ntA1] at q; cases q
        · rw [z, nkA1] at q; cases q) (S10 b o q)
      have L11 := LL.bt B11 tax (fun u z => by
        rcases z with z | z | z
        · exact .inl (.inl (.inl (.inl z)))
        · exact .inl (.inl (.inl (.inr (.inl z))))
        · exact .inl (.inl (.inl (.inr (.inr (.inl z)))))) L10
      clear B11 L10 W10 hl10 hgv S10 D10 ob10 etA ekA
      -- given[0]
      have le0 : 0 < e.length := by rw [le]; exact pos
      have ix0 : ∀ {n : Nat}, 0 < n → ixN n 0 = some 0 := fun h => by
        unfold ixN
        rw [if_pos (by decide), if_pos (by omega)]
        rfl
      refine ⟨_, rfl, gv, _, 0, .int (gI e 0), rfl, rfl, hgv11.seq, L2.at_of (j := 0) rfl (li_at le0), _, _, rfl, rfl, _, rfl, gv, _, 0, 0, rfl, rfl, hgv11, ix0 (by rw [List.length_map]; exact le0), ?_⟩
      have D12 := D11.mut (o := .lst ((e.map V.int).set 0 (.int (gI e 0 + 3)))) (.inr rfl)
      have S12 : Same H1 (upd H11 gv (.lst ((e.map V.int).set 0 (.int (gI e 0 + 3))))) := Same.over S11 ngv1
      have W12 : LI (upd H11 gv (.lst ((e.map V.int).set 0 (.int (gI e 0 + 3))))) wa (wk (costF ns) T) := by
        show upd H11 gv _ wa = _
        rw [upd_ne gvwa]
        exact W11
      have hl12 : LI (upd H11 gv (.lst ((e.map V.int).set 0 (.int (gI e 0 + 3))))) l e := by
        show upd H11 gv _ l = _
        rw [upd_ne gvl]
        exact hl11
      have L12 := L11.mut (o := .lst ((e.map V.int).set 0 (.int (gI e 0 + 3)))) (.inr rfl) gvta
      generalize (upd H11 gv (.lst ((e.map V.int).set 0 (.int (gI e 0 + 3))))) = H12 at D12 S12 W12 hl12 L12 ⊢
      clear D11 S11 W11 hl11 L11 hgv11
      -- spent, now, after
      refine ⟨_, rfl, _, rfl, _, rfl, _, rfl, t, costF ns, _, now, ch, rfl, D1.same S12, g, hnow, hc, _, _, rfl, rfl, _, rfl, _, rfl, l, _, _, _, rfl, rfl, hl12.seq, atI_nat (li_at (by rw [le]; exact hc)), _, _, rfl, rfl, ?_⟩
      refine ⟨_, rfl, ?_⟩
      refine ⟨by show 0 ≤ sizeLine; decide, fun af naf => ?_⟩
      have sa : Same H12 (upd H12 af (.lst [])) := Same.new naf
      have D13 := D12.grow naf sa (by rw [upd_same]; intro z; cases z)
      have L13 := L12.grow naf sa
      have W13 := W12.same sa
      have hl13 := hl12.same sa
      have S13 := S12.trans sa
      have naf1 : H1 af = none := S12.free naf
      have eaf13 : LI (upd H12 af (.lst [])) af (mk 0 fun y => minL (sums (costF ns) (wk (costF ns) T) e y)) := upd_same
      have afl : l ≠ af := ne_of_none hl12 naf
      have afwa : wa ≠ af := ne_of_none W12 naf
      have afta : ta ≠ af := fun z => by
        obtain ⟨_, e1, _⟩ := L12.ex
        rw [z, naf] at e1
        cases e1
      generalize (upd H12 af (.lst [])) = H13 at D13 L13 W13 hl13 S13 eaf13 ⊢
      clear D12 L12 W12 hl12 S12 sa naf
      refine ⟨_, rfl, _, rfl, by omega, by omega, ?_⟩
      refine for_range (lo := 0) (fun i σ H' => ∃ (v13 v19 : Option V), σ = [some (.ref a), some (.ref t), some (.int ((costF ns).n : Nat)), some (.str (cD (costF ns)).shown), some (.ref gs), some (.ref gw), some (.ref x), some (.ref wa), some (.int (ch : Nat)), some (.int (spent + goF (costF ns) now ch + gI e ch)), some (.ref ta), some (.int (0 + (k : Int))), some (.ref l), v13, some (.ref su), some (.int (ch : Nat)), some (.ref gv), some (.int (ch : Nat)), some (.ref af), v19, v20] ∧
        PolAt C (fun b => ((Z b ∨ b = l) ∨ b = gv) ∨ b = af) H' x sA wA tA kA (costF ns) ch (spent + (goF (costF ns) now ch + gI e ch)) (T ++ [e]) (worksL (costF ns) (T ++ [e])) ∧ LI H' wa (wk (costF ns) T) ∧ LI H' l e ∧
        LL (fun t => (((t = x ∨ t = tA ∨ t = kA ∨ t = ta) ∨ t = l) ∨ t = gv) ∨ t = af) H' ta T ∧ Same H1 H' ∧ LI H' af (mk i fun y => minL (sums (costF ns) (wk (costF ns) T) e y))) ⟨_, _, rfl, D13, W13, hl13, L13, S13, eaf13⟩ ?_ ?_
      · clear D13 W13 hl13 L13 S13 eaf13
        rintro i σ H14 hi ⟨v13b, v19b, rfl, D14, W14, hl14, L14, S14, eaf14⟩
        rw [nn] at hi
        refine ⟨_, rfl, .inl ⟨rfl, _, eaf14.seq⟩, _, rfl, _, rfl, by omega, by omega, fun D0 nD0 => ?_⟩
        refine lc_mk (walk_range (lo := 0)) (fun j => V.int (sumF (costF ns) (wk (costF ns) T) e i j)) (by rw [nn]; exact small (show (costF ns).n ≤ 1000 by omega) (by decide)) nD0 (fun _ _ => trivial) (fun j v H15 H15' N hj s15 yy fin => ?_) fun H15 s15 eD0 => ?_
        · obtain ⟨rfl, ex⟩ := yy
          have ex := xi ex
          subst ex
          rw [nn] at hj
          obtain ⟨r, wss, q1, q2, q3⟩ := row hj
          have S15 := S14.trans s15
          refine ⟨rfl, _, rfl, _, rfl, wa, _, _, _, rfl, rfl, (W14.same s15).seq, atI_nat (li_at (by rw [lw]; exact hj)), _, rfl, _, rfl, l, _, _, _, rfl, rfl, (hl14.same s15).seq, atI_nat (li_at (by rw [le]; exact hj)), _, _, rfl, rfl, .inl ⟨by decide, by decide⟩, _, _, rfl, rfl,
            _, rfl, t, _, 2, .ref b2, rfl, rfl, sqt_same S15 e0, rfl, _, rfl, b2, _, _, .ref r, rfl, rfl, SqL.of (S15 _ _ q1), atI_nat q2, _, rfl, r, _, _, _, rfl, rfl, (q3.same S15).seq, L2.at_of (j := i) (Int.zero_add _) (li_at (by rw [g.r j hj]; exact hi)), _, _, rfl, rfl, ?_⟩
          exact fin _ (Same.refl _)
        rw [nn] at eD0
        have eD1 : LI H15 D0 (sums (costF ns) (wk (costF ns) T) e i) := by
          show H15 D0 = _
          rw [eD0]
          unfold sums mk
          rw [List.map_map]
          rfl
        refine ⟨D0, _, rfl, eD1.seq, by rw [sums_len]; exact pos, fun m hm hle => ?_⟩
        rw [minL_eq hm hle]
        have eaf15 := eaf14.same s15
        refine ⟨af, _, _, rfl, rfl, eaf15, by rw [List.length_map, mk_len]; exact small (show i ≤ 1000 by omega) (by decide), ?_⟩
        refine ⟨_, _, rfl, (D14.same s15).mut (.inr rfl), ?_, ?_, (L14.same s15).mut (.inr rfl) afta, Same.over (S14.trans s15) naf1, ?_⟩
        · show upd H15 af _ wa = _
          rw [upd_ne afwa]
          exact W14.same s15
        · show upd H15 af _ l = _
          rw [upd_ne afl]
          exact hl14.same s15
        · show upd H15 af _ af = _
          rw [upd_same, mk_succ, List.map_append]
          rfl
      rintro σ H14 ⟨v13b, v19b, rfl, D14, W14, hl14, L14, S14, eaf14⟩
      rw [nn] at eaf14
      have eaf' : LI H14 af (wk (costF ns) (T ++ [e])) := by
        rw [wk_snoc]
        exact eaf14
      clear eaf14
      -- works, tasks.append
      refine ⟨_, rfl, ?_⟩
      obtain ⟨ts, eta, lts, gts, nts⟩ := id L14
      refine ⟨_, rfl, .inl ⟨rfl, _, SqL.of eta⟩, _, rfl, l, _, rfl, .inl hl14.seq, fun l2 nl2 => ?_⟩
      have sl : Same H14 (upd H14 l2 (.lst (e.map V.int))) := Same.new nl2
      have el2 : LI (upd H14 l2 (.lst (e.map V.int))) l2 e := upd_same
      have l2ta : ta ≠ l2 := ne_of_none eta nl2
      have l2l : l ≠ l2 := ne_of_none hl14 nl2
      have l2af : af ≠ l2 := ne_of_none eaf' nl2
      have l2gv : l2 ≠ gv := fun z => D14.al gv (.inl (.inr rfl)) (by rw [← z]; exact nl2)
      have l2x : l2 ≠ x := fun z => by
        obtain ⟨d, o⟩ := D14.ob
        rw [← z, nl2] at o
        cases o
      have l2tA : l2 ≠ tA := fun z => by
        obtain ⟨_, o, _⟩ := D14.t.ex
        rw [← z, nl2] at o
        cases o
      have l2kA : l2 ≠ kA := fun z => by
        obtain ⟨_, o, _⟩ := D14.k.ex
        rw [← z, nl2] at o
        cases o
      have eta15 := sl _ _ eta
      have D15 := (D14.same sl).mut (g := ta) (o := .lst (ts.map V.ref ++ [.ref l2])) (.inl (.inl (.inl zta)))
      have S15 : Same H1 (upd (upd H14 l2 (.lst (e.map V.int))) ta (.lst (ts.map V.ref ++ [.ref l2]))) := Same.over (S14.trans sl) nta1
      have keepL : ∀ {b : Addr} {zs : List Int}, b ≠ ta → LI (upd H14 l2 (.lst (e.map V.int))) b zs → LI (upd (upd H14 l2 (.lst (e.map V.int))) ta (.lst (ts.map V.ref ++ [.ref l2]))) b zs := fun n h => by
        show upd _ ta _ _ = _
        rw [upd_ne n]
        exact h
      have L15 := LL.snoc (H' := upd (upd H14 l2 (.lst (e.map V.int))) ta (.lst (ts.map V.ref ++ [.ref l2]))) (t := l2) (xs := e) (L14.same sl) eta15 upd_same (keepL l2ta.symm el2) (fun z => by
        rcases z with ((((z | z | z | z) | z) | z) | z)
        · exact l2x z
        · exact l2tA z
        · exact l2kA z
        · exact l2ta z.symm
        · exact l2l z.symm
        · exact l2gv z
        · exact l2af z.symm) (fun b zs hb nb => keepL (fun z => nb (.inl (.inl (.inl (.inr (.inr (.inr z))))))) hb)
      have hl15 := keepL lta (hl14.same sl)
      have af15 := keepL afta.symm (eaf'.same sl)
      refine ⟨ta, _, _, rfl, rfl, eta15, by rw [List.length_map, lts, lT]; exact small (show k ≤ 1000 by omega) (by decide), ?_⟩
      generalize (upd (upd H14 l2 (.lst (e.map V.int))) ta (.lst (ts.map V.ref ++ [.ref l2]))) = H15 at D15 S15 L15 hl15 af15 ⊢
      clear D14 W14 hl14 L14 S14 eaf' eta eta15 gts nts el2 keepL sl
      -- task[0]
      refine ⟨_, rfl, l, _, 0, .int (gI e 0), rfl, rfl, hl15.seq, L2.at_of (j := 0) rfl (li_at le0), _, _, rfl, rfl, _, rfl, l, _, 0, 0, rfl, rfl, hl15, ix0 (by rw [List.length_map]; exact le0), ?_⟩
      have D16 := D15.mut (g := l) (o := .lst ((e.map V.int).set 0 (.int (gI e 0 + 5)))) (.inl (.inl (.inr rfl)))
      have S16 : Same H1 (upd H15 l (.lst ((e.map V.int).set 0 (.int (gI e 0 + 5))))) := Same.over S15 nl1
      have L16 := L15.mut (g := l) (o := .lst ((e.map V.int).set 0 (.int (gI e 0 + 5)))) (.inl (.inl (.inr rfl))) lta.symm
      have af16 : LI (upd H15 l (.lst ((e.map V.int).set 0 (.int (gI e 0 + 5))))) af (wk (costF ns) (T ++ [e])) := by
        show upd H15 l _ af = _
        rw [upd_ne afl.symm]
        exact af15
      generalize (upd H15 l (.lst ((e.map V.int).set 0 (.int (gI e 0 + 5))))) = H16 at D16 S16 L16 af16 ⊢
      clear D15 S15 L15 af15 hl15
      have lT' : (T ++ [e]).length = k + 1 := by rw [List.length_append, lT]; rfl
      have lastE : (worksL (costF ns) (T ++ [e]))[k + 1]? = some (wk (costF ns) (T ++ [e])) := by
        rw [worksL_at _ (by omega), List.take_of_length_le (by omega)]
      obtain ⟨ys, rr, ek, lys, ek1, err, _⟩ := D16.k.at lastE
      obtain ⟨dx16, ob16⟩ := D16.ob
      have lys' : ys.length = k + 2 := by rw [lys, worksL_len, lT']
      refine ⟨_, rfl, _, rfl, rfl, _, rfl, iteNS rfl ?_⟩
      refine ⟨_, rfl, x, C, dx16, _, _, rfl, ob16, X.cl, X.now, polF_now _ _ _ _ _ _ _, _, rfl, rfl, _, rfl, iteNS rfl ?_⟩
      refine ⟨_, rfl, x, C, dx16, _, _, rfl, ob16, X.cl, X.spent, polF_spent _ _ _ _ _ _ _, _, rfl, rfl, _, rfl, iteNS (congrArg V.int (Int.add_assoc _ _ _).symm) ?_⟩
      refine ⟨_, rfl, x, C, dx16, _, _, rfl, ob16, X.cl, X.works, polF_works _ _ _ _ _ _ _, _, rfl, kA, _, -1, .ref rr, rfl, rfl, SqL.of ek, at_last (by omega) (by rw [lys']; exact ek1), _, rfl, _, _, liD err, liD af16, shInts _, shInts _, ?_⟩
      rw [PyData.eqv, intsE]
      refine ⟨_, rfl, ?_⟩
      refine iteF ?_
      rw [← Int.add_assoc] at D16
      exact ⟨_, af, ch, _, T ++ [e], _, _, _, _, _, _, _, _, _, _, rfl, lT', (fun e' m => by
        rcases List.mem_append.mp m with m | m
        · exact tl e' m
        · rw [List.mem_singleton.mp m]; exact le), hc, D16, .inl (.inl (.inl zta)), af16, L16.weak (fun t z => .inl (.inl (.inl z))), S16⟩
    · rintro σ H7 ⟨Z, wa, now, spent, T, v11, v12, v13, v14, v15, v16, v17, v18, v19, v20, rfl, lT, tl, hnow, D7, zta, W7, L7, s7⟩
      have lT63 : T.length ≤ 63 := by
        rw [lT, cl]
        split <;> omega
      clear lT
      obtain ⟨dx7, ob7⟩ := D7.ob
      obtain ⟨ts, et, lts, gts, _⟩ := D7.t.ex
      have ltm : (ts.map V.ref).length = T.length := by rw [List.length_map, lts]
      refine ⟨_, rfl, x, C, dx7, _, _, rfl, ob7, X.cl, X.tasks, polF_tasks _ _ _ _ _ _ _, tA, rfl, ⟨_, SqL.of et⟩, fun D0 nD0 => ?_⟩
      refine lc_new (walk_list (K := K) (a := tA) (xs := ts.map V.ref)) (fun i => (gR T i).map V.int) (by rw [ltm]; exact small (show T.length ≤ 1000 by omega) (by decide)) nD0 (fun H s => SqL.of (s _ _ et)) (fun i v H8 H8' N hi s8 yy fin => ?_) fun H8 us s8 eD lu gu => ?_
      · obtain ⟨rfl, ex⟩ := yy
        rw [ltm] at hi
        have hu : i < ts.length := by rw [lts]; exact hi
        rw [List.getElem?_map, List.getElem?_eq_getElem hu] at ex
        cases ex
        have q1 := gts i _ _ (List.getElem?_eq_getElem hu) (at_gR (W := T) (i := i) hi)
        refine ⟨rfl, _, rfl, _, _, rfl, .inl (SqL.of (s8 _ _ q1)), fun l nl => ?_⟩
        exact fin _ l (Same.new nl) nl upd_same
      rw [ltm] at lu
      have eLL : LL (fun _ => False) H8 D0 T := ⟨us, eD, lu, fun i u xs e1 e2 => by
        rw [← gR_at e2]
        exact (gu i u e1).2.2, fun _ _ z => z⟩
      have S8 := s7.trans s8
      have D8' := D7.same s8
      have L8 := L7.same s8
      obtain ⟨dx8, ob8⟩ := D8'.ob
      obtain ⟨ks, ek, lks, gks, _⟩ := D8'.k.ex
      obtain ⟨as_, ea, las, _⟩ := L8.ex
      refine ⟨_, rfl, _, _, eLL.data, L8.data, rowsSh T, rowsSh T, ?_⟩
      rw [PyData.eqv, rowsE]
      refine ⟨_, rfl, ?_⟩
      refine iteF ?_
      refine ⟨_, rfl, x, C, dx8, _, _, rfl, ob8, X.cl, X.works, polF_works _ _ _ _ _ _ _, kA, _, rfl, .inl (SqL.of ek), _, rfl, ta, _, rfl, .inl (SqL.of ea), _, _, rfl, rfl, rfl, _, rfl, iteNS ?_ ?_⟩
      · show V.int _ = V.int _
        rw [List.length_map, List.length_map, lks, las, worksL_len]
        rfl
      refine ⟨_, rfl, t, cD (costF ns), rfl, (D1.same S8).data, f1, f2, f3, f4, _, rfl, rfl, ?_⟩
      refine ⟨_, rfl, ?_⟩
      rw [if_pos (decide_eq_true rfl)]
      have first : (worksL (costF ns) T)[0]? = some (gR (costF ns).W (costF ns).start) := by
        rw [worksL_at _ (Nat.zero_le _)]
        rfl
      obtain ⟨ys, rr, ek8, _, ek0, err, _⟩ := D8'.k.at first
      refine ⟨_, rfl, x, C, dx8, _, _, rfl, ob8, X.cl, X.works, polF_works _ _ _ _ _ _ _, kA, _, 0, .ref rr, rfl, rfl, SqL.of ek8, L2.at_of (j := 0) rfl ek0, _, rfl, t, _, 2, .ref b2, rfl, rfl, sqt_same S8 e0, rfl, _, rfl, t, _, 0, .int ((costF ns).start : Nat), rfl, rfl, sqt_same S8 e0, rfl, b2, _, _, .ref r0, rfl, rfl, SqL.of (S8 _ _ ew0), atI_nat ew1, ?_⟩
      refine ⟨_, _, liD err, liD (er0.same S8), shInts _, shInts _, ?_⟩
      rw [PyData.eqv, intsE]
      exact q _
end
end K1
namespace K1
open PySem PySem.Spec PyProof.Rows L2 Ow Po Z3
theorem kn_of {P : Program} {w : World} {K : PySem.W.Frag} {mg : Str → Option Value} {base : Heap} {k : Nat} {x qual : Str} {st : Stmt} {f : Addr} {fd : FuncData} {ps : List Str} {sp : Sp}
    (F : Fun K x qual st f fd) (g : mg x = some (.ref f)) (b : Binds K fd ps []) (ok : FnOk P w K mg base CX0 k f fd ps sp) : Kn P w K mg base k x ps sp := ⟨⟨f, fd, ok, g, F.kp, b⟩⟩
theorem all_mk {l : PySem.W.OpenLaw} {w : World} {K : PySem.W.Frag} {h : Heap} {mg : Str → Option Value} {fa : Addr} (X : K.In h) (G : h.Ns mainGlobals mg) (hfa : mg "law" = some (.ref fa))
    {f1 : Addr} {od1 an1 : Option Addr} {sl1 : Array (Option Value)} {oc1 kV1 dc1 pm1 cd1 ct1 : Value}
    {f2 : Addr} {od2 an2 : Option Addr} {sl2 : Array (Option Value)} {oc2 kV2 dc2 pm2 cd2 ct2 : Value}
    {f3 : Addr} {od3 an3 : Option Addr} {sl3 : Array (Option Value)} {oc3 kV3 dc3 pm3 cd3 ct3 : Value}
    {f4 : Addr} {od4 an4 : Option Addr} {sl4 : Array (Option Value)} {oc4 kV4 dc4 pm4 cd4 ct4 : Value}
    {f5 : Addr} {od5 an5 : Option Addr} {sl5 : Array (Option Value)} {oc5 kV5 dc5 pm5 cd5 ct5 : Value}
    {f6 : Addr} {od6 an6 : Option Addr} {sl6 : Array (Option Value)} {oc6 kV6 dc6 pm6 cd6 ct6 : Value}
    (a1 : PySem.W.nsIn K mainGlobals "first_least" = some (some (.ref f1)))
    (l1 : K.lookup f1 = some ⟨oc1, od1, .func (PySem.W.fnOf "first_least" "first_least" (defArgs sfirst_least) (defBody sfirst_least) (defScope sfirst_least) .none kV1 dc1 pm1 an1 cd1 ct1), sl1⟩) (c1 : PySem.W.codeIn K cd1 "first_least" = true) (k1 : PySem.W.keepIn K (.ref f1) = true)
    (a2 : PySem.W.nsIn K mainGlobals "_law_draw" = some (some (.ref f2)))
    (l2 : K.lookup f2 = some ⟨oc2, od2, .func (PySem.W.fnOf "_law_draw" "_law_draw" (defArgs s_law_draw) (defBody s_law_draw) (defScope s_law_draw) .none kV2 dc2 pm2 an2 cd2 ct2), sl2⟩) (c2 : PySem.W.codeIn K cd2 "_law_draw" = true) (k2 : PySem.W.keepIn K (.ref f2) = true)
    (a3 : PySem.W.nsIn K mainGlobals "_law_costs" = some (some (.ref f3)))
    (l3 : K.lookup f3 = some ⟨oc3, od3, .func (PySem.W.fnOf "_law_costs" "_law_costs" (defArgs s_law_costs) (defBody s_law_costs) (defScope s_law_costs) .none kV3 dc3 pm3 an3 cd3 ct3), sl3⟩) (c3 : PySem.W.codeIn K cd3 "_law_costs" = true) (k3 : PySem.W.keepIn K (.ref f3) = true)
    (a4 : PySem.W.nsIn K mainGlobals "_law_task" = some (some (.ref f4)))
    (l4 : K.lookup f4 = some ⟨oc4, od4, .func (PySem.W.fnOf "_law_task" "_law_task" (defArgs s_law_task) (defBody s_law_task) (defScope s_law_task) .none kV4 dc4 pm4 an4 cd4 ct4), sl4⟩) (c4 : PySem.W.codeIn K cd4 "_law_task" = true) (k4 : PySem.W.keepIn K (.ref f4) = true)
    (a5 : PySem.W.nsIn K mainGlobals "_law_going" = some (some (.ref f5)))
    (l5 : K.lookup f5 = some ⟨oc5, od5, .func (PySem.W.fnOf "_law_going" "_law_going" (defArgs s_law_going) (defBody s_law_going) (defScope s_law_going) .none kV5 dc5 pm5 an5 cd5 ct5), sl5⟩) (c5 : PySem.W.codeIn K cd5 "_law_going" = true) (k5 : PySem.W.keepIn K (.ref f5) = true)
    (a6 : PySem.W.nsIn K mainGlobals "law" = some (some (.ref f6)))
    (l6 : K.lookup f6 = some ⟨oc6, od6, .func (PySem.W.fnOf "law" "law" (defArgs slaw) (defBody slaw) (defScope slaw) .none kV6 dc6 pm6 an6 cd6 ct6), sl6⟩) (c6 : PySem.W.codeIn K cd6 "law" = true) (k6 : PySem.W.keepIn K (.ref f6) = true)
    {C : Addr}
    (aC : PySem.W.nsIn K mainGlobals "Policy" = some (some (.ref C)))
    (pg : PySem.W.plainGet K C Str.empty = true) (hd : PySem.W.hasDictIn K C = true) (po : PySem.W.plainOver K C = true) (sa : PySem.W.findIn K (.ref C) "__setattr__" = some (some (.builtin "object.__setattr__"))) (mk : PySem.W.makesIn K C = true) (kc : PySem.W.keepIn K (.ref C) = true)
    (na1 : PySem.W.findIn K (.ref C) "start" = some none) (na2 : PySem.W.findIn K (.ref C) "stands" = some none) (na3 : PySem.W.findIn K (.ref C) "ways" = some none) (na4 : PySem.W.findIn K (.ref C) "now" = some none) (na5 : PySem.W.findIn K (.ref C) "spent" = some none) (na6 : PySem.W.findIn K (.ref C) "tasks" = some none) (na7 : PySem.W.findIn K (.ref C) "works" = some none)
    {fMI : Addr} {odMI anMI : Option Addr} {slMI : Array (Option Value)} {ocMI kVMI dcMI pmMI cdMI ctMI : Value}
    (aMI : PySem.W.findIn K (.ref C) "__init__" = some (some (.ref fMI))) (iMI : PySem.W.isFn K (.ref fMI) = true)
    (lMI : K.lookup fMI = some ⟨ocMI, odMI, .func (PySem.W.fnOf "__init__" "Policy.__init__" (defArgs sInit) (defBody sInit) (defScope sInit) .none kVMI dcMI pmMI anMI cdMI ctMI), slMI⟩) (cMI : PySem.W.codeIn K cdMI "Policy.__init__" = true) (kMI : PySem.W.keepIn K (.ref fMI) = true)
    {fMG : Addr} {odMG anMG : Option Addr} {slMG : Array (Option Value)} {ocMG kVMG dcMG pmMG cdMG ctMG : Value}
    (aMG : PySem.W.findIn K (.ref C) "going" = some (some (.ref fMG))) (iMG : PySem.W.isFn K (.ref fMG) = true)
    (lMG : K.lookup fMG = some ⟨ocMG, odMG, .func (PySem.W.fnOf "going" "Policy.going" (defArgs sGo) (defBody sGo) (defScope sGo) .none kVMG dcMG pmMG anMG cdMG ctMG), slMG⟩) (cMG : PySem.W.codeIn K cdMG "Policy.going" = true) (kMG : PySem.W.keepIn K (.ref fMG) = true)
    {fMS : Addr} {odMS anMS : Option Addr} {slMS : Array (Option Value)} {ocMS kVMS dcMS pmMS cdMS ctMS : Value}
    (aMS : PySem.W.findIn K (.ref C) "sums" = some (some (.ref fMS))) (iMS : PySem.W.isFn K (.ref fMS) = true)
    (lMS : K.lookup fMS = some ⟨ocMS, odMS, .func (PySem.W.fnOf "sums" "Policy.sums" (defArgs sSums) (defBody sSums) (defScope sSums) .none kVMS dcMS pmMS anMS cdMS ctMS), slMS⟩) (cMS : PySem.W.codeIn K cdMS "Policy.sums" = true) (kMS : PySem.W.keepIn K (.ref fMS) = true)
    {fMV : Addr} {odMV anMV : Option Addr} {slMV : Array (Option Value)} {ocMV kVMV dcMV pmMV cdMV ctMV : Value}
    (aMV : PySem.W.findIn K (.ref C) "serve" = some (some (.ref fMV))) (iMV : PySem.W.isFn K (.ref fMV) = true)
    (lMV : K.lookup fMV = some ⟨ocMV, odMV, .func (PySem.W.fnOf "serve" "Policy.serve" (defArgs sServe) (defBody sServe) (defScope sServe) .none kVMV dcMV pmMV anMV cdMV ctMV), slMV⟩) (cMV : PySem.W.codeIn K cdMV "Policy.serve" = true) (kMV : PySem.W.keepIn K (.ref fMV) = true)
    (z1 : PySem.W.nsIn K mainGlobals "range" = some none) (z2 : PySem.W.nsIn K mainGlobals "len" = some none) (z3 : PySem.W.nsIn K mainGlobals "int" = some none) (z4 : PySem.W.nsIn K mainGlobals "list" = some none) (z5 : PySem.W.nsIn K mainGlobals "zip" = some none) (z6 : PySem.W.nsIn K mainGlobals "min" = some none) (z7 : PySem.W.nsIn K mainGlobals "sum" = some none) (z8 : PySem.W.nsIn K mainGlobals "abs" = some none) (z9 : PySem.W.nsIn K mainGlobals "repr" = some none) (z10 : PySem.W.nsIn K mainGlobals "reversed" = some none) :
    ∃ fd : FuncData, (∀ (s : Shared) (v : Value), BindsTo s fd ⟨[v], []⟩ [("script", v)]) ∧ ∀ base : Heap, K.In base → base.Ns mainGlobals mg → TopOk l.prog w K mg base fa fd ["script"] (spLaw K) := by
  have e := hfa.symm.trans (PySem.W.mg_of X G a6)
  cases e
  have F1 := fun_mk (st := sfirst_least) l1 c1 k1
  have b1 := F1.binds (ps := ["numbers"]) fun _ _ _ _ _ _ us hl => match us, hl with | [_], _ => rfl
  have g1 := PySem.W.mg_of X G a1
  have F2 := fun_mk (st := s_law_draw) l2 c2 k2
  have b2 := F2.binds (ps := ["script", "k"]) fun _ _ _ _ _ _ us hl => match us, hl with | [_, _], _ => rfl
  have g2 := PySem.W.mg_of X G a2
  have F3 := fun_mk (st := s_law_costs) l3 c3 k3
  have b3 := F3.binds (ps := ["script"]) fun _ _ _ _ _ _ us hl => match us, hl with | [_], _ => rfl
  have g3 := PySem.W.mg_of X G a3
  have F4 := fun_mk (st := s_law_task) l4 c4 k4
  have b4 := F4.binds (ps := ["number", "count"]) fun _ _ _ _ _ _ us hl => match us, hl with | [_, _], _ => rfl
  have g4 := PySem.W.mg_of X G a4
  have F5 := fun_mk (st := s_law_going) l5 c5 k5
  have b5 := F5.binds (ps := ["costs", "first", "second"]) fun _ _ _ _ _ _ us hl => match us, hl with | [_, _, _], _ => rfl
  have g5 := PySem.W.mg_of X G a5
  have F6 := fun_mk (st := slaw) l6 c6 k6
  have T : Bl mg := ⟨PySem.W.mg_none_of X G z1, PySem.W.mg_none_of X G z2, PySem.W.mg_none_of X G z3, PySem.W.mg_none_of X G z4, PySem.W.mg_none_of X G z5, PySem.W.mg_none_of X G z6, PySem.W.mg_none_of X G z7, PySem.W.mg_none_of X G z8, PySem.W.mg_none_of X G z9, PySem.W.mg_none_of X G z10⟩
  have X : Txt K mg C := ⟨⟨pg, hd, po, sa⟩, na1, na2, na3, na4, na5, na6, na7, PySem.W.mg_of X G aC⟩
  have FMI := fun_mk (st := sInit) lMI cMI kMI
  have bMI := FMI.binds (ps := ["self", "start", "stands", "ways"]) fun _ _ _ _ _ _ us hl => match us, hl with | [_, _, _, _], _ => rfl
  have mMI : Mk K C fMI := ⟨mk, aMI, iMI, kc⟩
  have FMG := fun_mk (st := sGo) lMG cMG kMG
  have bMG := FMG.binds (ps := ["self", "first", "second"]) fun _ _ _ _ _ _ us hl => match us, hl with | [_, _, _], _ => rfl
  have mMG : Meth K C "going" fMG := ⟨aMG, iMG, kMG⟩
  have FMS := fun_mk (st := sSums) lMS cMS kMS
  have bMS := FMS.binds (ps := ["self", "at", "place"]) fun _ _ _ _ _ _ us hl => match us, hl with | [_, _, _], _ => rfl
  have mMS : Meth K C "sums" fMS := ⟨aMS, iMS, kMS⟩
  have FMV := fun_mk (st := sServe) lMV cMV kMV
  have bMV := FMV.binds (ps := ["self", "task"]) fun _ _ _ _ _ _ us hl => match us, hl with | [_, _], _ => rfl
  have mMV : Meth K C "serve" fMV := ⟨aMV, iMV, kMV⟩
  refine ⟨PySem.W.fnOf "law" "law" (defArgs slaw) (defBody slaw) (defScope slaw) .none kV6 dc6 pm6 an6 cd6 ct6, fun s v => .of_eq rfl, fun base _ _ => ?_⟩
  have Dfirst_least : Kn l.prog w K mg base 1 "first_least" ["numbers"] (spFirstLeast K) := kn_of F1 g1 b1 (ok_first_least F1 T)
  have DP : Kmk l.prog w K mg base C 1 ["self", "start", "stands", "ways"] (spInit K C) := ⟨⟨_, _, mMI, ok_init FMI T X, bMI⟩⟩
  have DG : Kmt l.prog w K mg base C 1 "going" ["self", "first", "second"] (spGoing C) := ⟨⟨_, _, mMG, ok_going FMG X, bMG⟩, X.cl⟩
  have DS : Kmt l.prog w K mg base C 1 "sums" ["self", "at", "place"] (spSums C) := ⟨⟨_, _, mMS, ok_sums FMS T X, bMS⟩, X.cl⟩
  have DV : Kmt l.prog w K mg base C 2 "serve" ["self", "task"] (spServe K C) := ⟨⟨_, _, mMV, ok_serve FMV T X Dfirst_least DG DS, bMV⟩, X.cl⟩
  have D_law_draw : Kn l.prog w K mg base 1 "_law_draw" ["script", "k"] (spDraw K) := kn_of F2 g2 b2 (ok_draw F2 T)
  have D_law_costs : Kn l.prog w K mg base 2 "_law_costs" ["script"] (spCosts K) := kn_of F3 g3 b3 (ok_costs F3 T D_law_draw)
  have D_law_task : Kn l.prog w K mg base 1 "_law_task" ["number", "count"] (spTask) := kn_of F4 g4 b4 (ok_task F4 T)
  have D_law_going : Kn l.prog w K mg base 1 "_law_going" ["costs", "first", "second"] (spLGoing K) := kn_of F5 g5 b5 (ok_lgoing F5)
  exact ok_law F6 T X DP DV D_law_draw D_law_costs D_law_task D_law_going
end K1
open PySem PySem.W PyProof.Rows
set_option maxHeartbeats 0 in
theorem PySem.Challenge.cw_turnshelves_k43_policy_serves_by_works_holds : PySem.Challenge.rw_turnshelves_k43_policy_serves_by_works.Holds := by
  w_on; o_law; k_head; (case hw => w_witness2)
  k_fill
  refine Ow.top_walk (l := PySem.Challenge.rw_turnshelves_k43_policy_serves_by_works) (n := 63) (x := "script") (sp := fun w => K1.spLaw _) rfl (by decide) rfl (fun w h Y => PySem.W.kIn_of Y) ?F (fun _ _ a ns hl _ hS => ⟨a, ns, rfl, hS, hl, fun _ => rfl⟩)
  case F =>
    intro w mg fa h KX G hmg
    refine' K1.all_mk KX G hmg ?a1 ?l1 ?c1 ?k1 ?a2 ?l2 ?c2 ?k2 ?a3 ?l3 ?c3 ?k3 ?a4 ?l4 ?c4 ?k4 ?a5 ?l5 ?c5 ?k5 ?a6 ?l6 ?c6 ?k6 ?aC ?pg ?hd ?po ?sa ?mk ?kc ?na1 ?na2 ?na3 ?na4 ?na5 ?na6 ?na7 ?aMI ?iMI ?lMI ?cMI ?kMI ?aMG ?iMG ?lMG ?cMG ?kMG ?aMS ?iMS ?lMS ?cMS ?kMS ?aMV ?iMV ?lMV ?cMV ?kMV ?z1 ?z2 ?z3 ?z4 ?z5 ?z6 ?z7 ?z8 ?z9 ?z10
    (case a1 => k_is); (case l1 => k_is); (case c1 => k_is); (case k1 => k_is); (case a2 => k_is); (case l2 => k_is); (case c2 => k_is); (case k2 => k_is); (case a3 => k_is); (case l3 => k_is); (case c3 => k_is); (case k3 => k_is); (case a4 => k_is); (case l4 => k_is); (case c4 => k_is); (case k4 => k_is); (case a5 => k_is); (case l5 => k_is); (case c5 => k_is); (case k5 => k_is); (case a6 => k_is); (case l6 => k_is); (case c6 => k_is); (case k6 => k_is); (case aC => k_is); (case pg => k_is); (case hd => k_is); (case po => k_is); (case sa => k_is); (case mk => k_is); (case kc => k_is); (case na1 => k_is); (case na2 => k_is); (case na3 => k_is); (case na4 => k_is); (case na5 => k_is); (case na6 => k_is); (case na7 => k_is); (case aMI => k_is); (case iMI => k_is); (case lMI => k_is); (case cMI => k_is); (case kMI => k_is); (case aMG => k_is); (case iMG => k_is); (case lMG => k_is); (case cMG => k_is); (case kMG => k_is); (case aMS => k_is); (case iMS => k_is); (case lMS => k_is); (case cMS => k_is); (case kMS => k_is); (case aMV => k_is); (case iMV => k_is); (case lMV => k_is); (case cMV => k_is); (case kMV => k_is); (case z1 => k_is); (case z2 => k_is); (case z3 => k_is); (case z4 => k_is); (case z5 => k_is); (case z6 => k_is); (case z7 => k_is); (case z8 => k_is); (case z9 => k_is); (case z10 => k_is)
