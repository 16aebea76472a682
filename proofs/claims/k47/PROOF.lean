import PyProof.Rows.All
import Wide.All
import OpenK.AllK
import Wide.FinOn
import PyProof.EqAt
import PyProof.EqKinds
import PyProof.TupleCall
import HandS.ForMost
import HandS.IsInst
import HandS.TupAny
import HandS.Strs
import HandS.SetKeys
import HandS.Style
import HandS.Deep
import HandS.TupLen
import HandS.More
import HandS.Walk
import HandS.Defaults
import HandS.Star
import HandS.DictComp
import HandS.RevRange
import PyProof.ZipIter
import KE.KItemsList
import HandS.Zip
import HandS.WideBits
import PySem.Challenge.RW_turnshelves_k47_papers_without_the_form
set_option Elab.async false
set_option linter.all false
set_option maxRecDepth 100000
set_option maxHeartbeats 4000000
/-! list(zip(a, b, c)) of three lists -/
namespace Z3
open PySem PySem.Spec PyProof.Rows
theorem zlen : typeLookup (.type "zip") "__len__" = pure none := by rw [typeLookup_type, builtinLookup_eq_fast]; kernel_rfl
theorem zhint : typeLookup (.type "zip") "__length_hint__" = pure none := by rw [typeLookup_type, builtinLookup_eq_fast]; kernel_rfl
theorem ztc3 (a b c : Value) : checkTypeCall "zip" ⟨[a, b, c], []⟩ = pure () := by kernel_rfl
theorem znc3 (a b c : Value) : checkBuiltinCall "zip.__new__" ⟨[.type "zip", a, b, c], []⟩ = pure () := by kernel_rfl
theorem zao4 (a b c d : Value) : argsOk "object.__init__" ⟨[a, b, c, d], []⟩ := by
  unfold argsOk; rw [signature?_of (id := "object.__init__") (n := ['_', '_', 't', 'i', 'n', 'i', '_', '_']) (o := ['t', 'c', 'e', 'j', 'b', 'o']) (by kernel_rfl) F.owner_object]; kernel_rfl
def Zp (h : Heap) (z TI TO : Addr) (f0 : Value) (fl : Bool) : Prop :=
  h.get? z = some { cls := .type "zip", data := .fields #[f0, .bool fl, .bool false, .ref TI, .ref TO] }
def Tp (h : Heap) (T : Addr) (vs : Array Value) : Prop := h.get? T = some { cls := .type "tuple", data := .seq vs }
section
variable {prog : Program} {w : World} {A : Around} {E : Value → Shared → Prop} {s : Shared}
theorem alive_any {a : Addr} {Q : Option Obj → Shared → Prop} (h : Q (s.heap.get? a) s) : wpAny (model prog w) A (loadIfAlive a) Q E s := fun _ _ _ => h
/-- is the owned tuple free? either way goes -/
theorem own_free {z TI TO : Addr} {f0 : Value} {fl : Bool} {Q : Bool → Shared → Prop} (hz : Zp s.heap z TI TO f0 fl) (hf : f0 = .none ∨ ∃ T : Nat, f0 = rawInt T)
    (h1 : Q true s) (h2 : ∀ h' fl', Zp h' z TI TO f0 fl' → Heap.SameBut z s.heap h' → Q false { s with heap := h' }) :
    wpAny (model prog w) A (Builtin.SmallTypes.ownedTupleIsFree (.ref z)) Q E s := by
  unfold Builtin.SmallTypes.ownedTupleIsFree
  refine wpAny_bind (wpAny_field hz rfl (x := f0) rfl ?_)
  rcases hf with rfl | ⟨T, rfl⟩
  · exact wpAny_pure h1
  · show wpAny _ _ (loadIfAlive ((T : Int).toNat) >>= _) _ _ _
    refine wpAny_bind (alive_any ?_)
    cases s.heap.get? ((T : Int).toNat) with
    | none =>
      simp only [Option.isNone_none, if_true]
      exact wpAny_pure h1
    | some o =>
      simp only [Option.isNone_some, Bool.false_eq_true, if_false]
      refine wpAny_bind (wpAny_field hz rfl (x := .bool fl) rfl ?_)
      cases fl with
      | true =>
        rw [if_neg (show ¬ ((Value.bool true != Value.bool true) = true) from Bool.false_ne_true)]
        exact wpAny_pure (h2 s.heap true hz (Heap.SameBut.refl _ _))
      | false =>
        rw [if_pos (show (Value.bool false != Value.bool true) = true from rfl)]
        exact wpAny_bind (wpAny_setField_rec hz (by simp) fun h3 z3 s3 => wpAny_pure (h2 h3 true z3 s3))
/-- the three draw at turn k, in state h: their lists xs, ys, zs -/
structure Dr (h : Heap) (n a b c k : Nat) (xs ys zs : Array Value) : Prop where
  i1 : h.IsListIter n a k
  i2 : h.IsListIter (n + 1) b k
  i3 : h.IsListIter (n + 2) c k
  l1 : h.IsList a xs
  l2 : h.IsList b ys
  l3 : h.IsList c zs
  low : a < n ∧ b < n ∧ c < n
  ti : Tp h (n + 3) #[.ref n, .ref (n + 1), .ref (n + 2)]
theorem Dr.but {h h' : Heap} {n a b c k q : Nat} {xs ys zs : Array Value} (d : Dr h n a b c k xs ys zs) (sb : Heap.SameBut q h h') (hq : q = n + 4 ∨ q = n + 5) : Dr h' n a b c k xs ys zs := by
  have l := d.low
  have e0 : n ≠ q := by omega
  have e1 : n + 1 ≠ q := by omega
  have e2 : n + 2 ≠ q := by omega
  have e3 : n + 3 ≠ q := by omega
  have e4 : a ≠ q := by omega
  have e5 : b ≠ q := by omega
  have e6 : c ≠ q := by omega
  exact ⟨d.i1.extBut sb.extBut e0, d.i2.extBut sb.extBut e1, d.i3.extBut sb.extBut e2, d.l1.extBut sb.extBut e4, d.l2.extBut sb.extBut e5, d.l3.extBut sb.extBut e6, l, sb.extBut _ _ e3 d.ti⟩
theorem upd_own {T : Addr} {vs : Array Value} {x : Value} {k : Nat} {Q : Unit → Shared → Prop} (hT : Tp s.heap T vs) (z : vs.size ≤ 3)
    (h : ∀ h', Tp h' T (vs.setIfInBounds k x) → Heap.SameBut T s.heap h' → Q () { s with heap := h' }) :
    wpAny (model prog w) A (updateSeq T (·.setIfInBounds k x)) Q E s := by
  refine wpAny_updateSeq hT rfl (h _ ?_ (Heap.SameBut.update ..)) (Nat.le_trans z (by decide)) (by rw [Array.size_setIfInBounds]; exact Nat.le_trans z (by decide))
  unfold Tp; rw [Heap.get?_update_self _ hT rfl]; simp [Obj.mapSeq]
/-- one turn of a zip of three -/
theorem next3 {n a b c k : Nat} {xs ys zs vs : Array Value} {x y u : Value} {f0 : Value} {fl : Bool} {Q : Value → Shared → Prop} (D : Dr s.heap n a b c k xs ys zs)
    (hz : Zp s.heap (n + 5) (n + 3) (n + 4) f0 fl) (hf : f0 = .none ∨ ∃ T : Nat, f0 = rawInt T) (hO : Tp s.heap (n + 4) vs) (hv : vs.size = 3)
    (hx : xs[k]? = some x) (hy : ys[k]? = some y) (hu : zs[k]? = some u)
    (hQ : ∀ h' f1 fl1 vs1, Dr h' n a b c (k + 1) xs ys zs → Zp h' (n + 5) (n + 3) (n + 4) f1 fl1 → (f1 = .none ∨ ∃ T : Nat, f1 = rawInt T) → Tp h' (n + 4) vs1 → vs1.size = 3 → Tp h' s.heap.objs.size #[x, y, u] →
      (∀ q o, q < n ∨ n + 5 < q → s.heap.get? q = some o → h'.get? q = some o) → Q (.ref s.heap.objs.size) { s with heap := h' }) :
    wpAny (model prog w) A (Builtin.«zip.__next__» ⟨[.ref (n + 5)], []⟩) (fun fin s' => ∃ v, fin = .done (.ret v) ∧ Q v s') E s := by
  have n01 : n ≠ n + 1 := by omega
  have n02 : n ≠ n + 2 := by omega
  have n03 : n ≠ n + 3 := by omega
  have n04 : n ≠ n + 4 := by omega
  have n05 : n ≠ n + 5 := by omega
  have n12 : n + 1 ≠ n + 2 := by omega
  have n13 : n + 1 ≠ n + 3 := by omega
  have n14 : n + 1 ≠ n + 4 := by omega
  have n15 : n + 1 ≠ n + 5 := by omega
  have n21 : n + 2 ≠ n + 1 := by omega
  have n23 : n + 2 ≠ n + 3 := by omega
  have n24 : n + 2 ≠ n + 4 := by omega
  have n25 : n + 2 ≠ n + 5 := by omega
  have n31 : n + 3 ≠ n + 1 := by omega
  have n32 : n + 3 ≠ n + 2 := by omega
  have n34 : n + 3 ≠ n + 4 := by omega
  have n35 : n + 3 ≠ n + 5 := by omega
  have n41 : n + 4 ≠ n + 1 := by omega
  have n42 : n + 4 ≠ n + 2 := by omega
  have n43 : n + 4 ≠ n + 3 := by omega
  have n45 : n + 4 ≠ n + 5 := by omega
  have n51 : n + 5 ≠ n + 1 := by omega
  have n52 : n + 5 ≠ n + 2 := by omega
  have n53 : n + 5 ≠ n + 3 := by omega
  have n54 : n + 5 ≠ n + 4 := by omega
  have n10 : n + 1 ≠ n := by omega
  have n20 : n + 2 ≠ n := by omega
  have n30 : n + 3 ≠ n := by omega
  have n40 : n + 4 ≠ n := by omega
  have n50 : n + 5 ≠ n := by omega
  have lw := D.low
  have a0 : a ≠ n := by omega
  have a11 : a ≠ n + 1 := by omega
  have a22 : a ≠ n + 2 := by omega
  have a44 : a ≠ n + 4 := by omega
  have a55 : a ≠ n + 5 := by omega
  have b0 : b ≠ n := by omega
  have b1 : b ≠ n + 1 := by omega
  have b2 : b ≠ n + 2 := by omega
  have b4 : b ≠ n + 4 := by omega
  have b5 : b ≠ n + 5 := by omega
  have c0 : c ≠ n := by omega
  have c1 : c ≠ n + 1 := by omega
  have c2 : c ≠ n + 2 := by omega
  have c4 : c ≠ n + 4 := by omega
  have c5 : c ≠ n + 5 := by omega
  show wpAny _ _ (field (.ref (n + 5)) 2 >>= _) _ _ _
  refine wpAny_bind (wpAny_field hz rfl (x := .bool false) rfl ?_)
  show wpAny _ _ (field (.ref (n + 5)) 3 >>= _) _ _ _
  refine wpAny_bind (wpAny_field hz rfl (x := .ref (n + 3)) rfl ?_)
  refine wpAny_bind (wpAny_seqItems D.ti rfl ?_)
  show wpAny _ _ (Builtin.SmallTypes.ownedTupleIsFree (.ref (n + 5)) >>= _) _ _ _
  refine wpAny_bind (own_free hz hf ?_ fun h1 fl1 z1 s1 => ?_)
  · simp only [if_true]
    refine wpAny_bind (wpAny_rule ?_); refine wpAny_bind (wpAny_field hz rfl (x := .ref (n + 4)) rfl ?_)
    refine wpAny_bind (wpAny_setField_rec hz (by simp) fun h1 z1 s1 => ?_)
    have z1' : Zp h1 (n + 5) (n + 3) (n + 4) .ellipsis fl := z1
    have d1 := D.but s1 (.inr rfl)
    have o1 : Tp h1 (n + 4) vs := s1.extBut _ _ n45 hO
    refine wpAny_bind ?_; simp only [List.zipIdx_cons, List.zipIdx_nil, List.forIn_cons, List.forIn_nil]
    refine wpAny_bind (wpAny_bind (wpAny_onRaise ?_)); show wpAny _ _ (Builtin.SmallTypes.nextOf (.ref n) >>= _) _ _ _
    refine wpAny_bind (wpAny_nextOf_list_item d1.i1 d1.l1 hx fun h2 j1 s2 => wpAny_pure ?_)
    have o2 : Tp h2 (n + 4) vs := s2.extBut _ _ n40 o1
    refine wpAny_bind (wpAny_seqItems o2 rfl ?_); refine wpAny_bind (upd_own o2 (by omega) fun h3 o3 s3 => ?_); refine wpAny_bind (wpAny_letGo (wpAny_pure ?_))
    refine wpAny_bind (wpAny_bind (wpAny_onRaise ?_)); show wpAny _ _ (Builtin.SmallTypes.nextOf (.ref (n + 1)) >>= _) _ _ _
    refine wpAny_bind (wpAny_nextOf_list_item ((d1.i2.extBut s2.extBut n10).extBut s3.extBut n14) ((d1.l2.extBut s2.extBut b0).extBut s3.extBut b4) hy fun h4 j2 s4 => wpAny_pure ?_)
    have o4 := s4.extBut _ _ n41 o3
    refine wpAny_bind (wpAny_seqItems o4 rfl ?_); refine wpAny_bind (upd_own o4 (by rw [Array.size_setIfInBounds]; omega) fun h5 o5 s5 => ?_); refine wpAny_bind (wpAny_letGo (wpAny_pure ?_))
    refine wpAny_bind (wpAny_bind (wpAny_onRaise ?_)); show wpAny _ _ (Builtin.SmallTypes.nextOf (.ref (n + 2)) >>= _) _ _ _
    refine wpAny_bind (wpAny_nextOf_list_item ((((d1.i3.extBut s2.extBut n20).extBut s3.extBut n24).extBut s4.extBut n21).extBut s5.extBut n24)
      ((((d1.l3.extBut s2.extBut c0).extBut s3.extBut c4).extBut s4.extBut c1).extBut s5.extBut c4) hu fun h6 j3 s6 => wpAny_pure ?_)
    have o6 := s6.extBut _ _ n42 o5
    refine wpAny_bind (wpAny_seqItems o6 rfl ?_); refine wpAny_bind (upd_own o6 (by rw [Array.size_setIfInBounds, Array.size_setIfInBounds]; omega) fun h7 o7 s7 => ?_); refine wpAny_bind (wpAny_letGo (wpAny_pure (wpAny_pure ?_)))
    obtain ⟨v1, v2, v3, ev⟩ : ∃ v1 v2 v3, vs = #[v1, v2, v3] := by
      obtain ⟨l⟩ := vs
      match l, hv with
      | [v1, v2, v3], _ => exact ⟨v1, v2, v3, rfl⟩
    subst ev
    have o7' : Tp h7 (n + 4) #[x, y, u] := o7
    refine wpAny_bind (wpAny_seqItems o7' rfl ?_); refine wpAny_bind (wpAny_newTuple ?_)
    have k7 : ∀ q o, q ≠ n → q ≠ n + 1 → q ≠ n + 2 → q ≠ n + 4 → q ≠ n + 5 → s.heap.get? q = some o → h7.get? q = some o := fun q o e0 e1 e2 e4 e5 e =>
      s7.extBut _ _ e4 (s6.extBut _ _ e2 (s5.extBut _ _ e4 (s4.extBut _ _ e1 (s3.extBut _ _ e4 (s2.extBut _ _ e0 (s1.extBut _ _ e5 e))))))
    have hsz : h7.objs.size = s.heap.objs.size := by rw [s7.1, s6.1, s5.1, s4.1, s3.1, s2.1, s1.1]
    have z7 : Zp h7 (n + 5) (n + 3) (n + 4) .ellipsis fl := s7.extBut _ _ n54 (s6.extBut _ _ n52 (s5.extBut _ _ n54 (s4.extBut _ _ n51 (s3.extBut _ _ n54 (s2.extBut _ _ n50 z1')))))
    have lz : n + 5 < s.heap.objs.size := Heap.lt_size hz
    have a1 : h7.IsListIter n a (k + 1) := ((((j1.extBut s3.extBut n04).extBut s4.extBut n01).extBut s5.extBut n04).extBut s6.extBut n02).extBut s7.extBut n04
    have a2 : h7.IsListIter (n + 1) b (k + 1) := ((j2.extBut s5.extBut n14).extBut s6.extBut n12).extBut s7.extBut n14
    have a3 : h7.IsListIter (n + 2) c (k + 1) := j3.extBut s7.extBut n24
    have d7 : Dr h7 n a b c (k + 1) xs ys zs := ⟨a1, a2, a3, D.l1.at fun o e => k7 a o a0 a11 a22 a44 a55 e, D.l2.at fun o e => k7 b o b0 b1 b2 b4 b5 e, D.l3.at fun o e => k7 c o c0 c1 c2 c4 c5 e, D.low, k7 _ _ n30 n31 n32 n34 n35 D.ti⟩
    show wpAny _ _ (Builtin.SmallTypes.ownedTupleHandOut (.ref (n + 5)) (.ref h7.objs.size) >>= _) _ _ _
    refine wpAny_bind ?_
    unfold Builtin.SmallTypes.ownedTupleHandOut
    have z8 : Zp (h7.push { cls := .type "tuple", data := .seq #[x, y, u] }) (n + 5) (n + 3) (n + 4) .ellipsis fl := Heap.get?_push_of_some _ z7
    refine wpAny_bind (wpAny_setField_rec z8 (by simp) fun h9 z9 s9 => ?_)
    have z9' : Zp h9 (n + 5) (n + 3) (n + 4) (rawInt h7.objs.size) fl := z9
    refine wpAny_setField_rec z9' (by simp) fun h10 z10 s10 => ?_
    have z10' : Zp h10 (n + 5) (n + 3) (n + 4) (rawInt h7.objs.size) false := z10
    have up : ∀ q o, q ≠ n + 5 → h7.get? q = some o → h10.get? q = some o := fun q o e1 e => s10.extBut _ _ e1 (s9.extBut _ _ e1 (Heap.get?_push_of_some _ e))
    have nz : h7.objs.size ≠ n + 5 := by omega
    have t10 : Tp h10 h7.objs.size #[x, y, u] := s10.extBut _ _ nz (s9.extBut _ _ nz (Heap.get?_push_size _ rfl))
    refine wpAny_pure ⟨_, rfl, ?_⟩
    show Q (.ref h7.objs.size) _
    rw [hsz] at z10' t10 ⊢
    refine hQ h10 _ false _ ?_ z10' (.inr ⟨_, rfl⟩) (up _ _ n45 o7') rfl t10 fun q o e0 e => ?_
    · exact ⟨d7.i1.at fun o e => up n o n05 e, d7.i2.at fun o e => up (n + 1) o n15 e, d7.i3.at fun o e => up (n + 2) o n25 e, d7.l1.at fun o e => up a o a55 e, d7.l2.at fun o e => up b o b5 e, d7.l3.at fun o e => up c o c5 e, D.low, up _ _ n35 d7.ti⟩
    · have e5 : q ≠ n + 5 := by omega
      exact up q o e5 (k7 q o (by omega) (by omega) (by omega) (by omega) e5 e)
  · simp only [Bool.false_eq_true, if_false]
    have d1 := D.but s1 (.inr rfl)
    have o1 : Tp h1 (n + 4) vs := s1.extBut _ _ n45 hO
    refine wpAny_bind ?_
    rw [← Array.forIn_toList]
    simp only [List.forIn_cons, List.forIn_nil]
    refine wpAny_bind (wpAny_bind (wpAny_holding ?_)); show wpAny _ _ (Builtin.SmallTypes.nextOf (.ref n) >>= _) _ _ _
    refine wpAny_bind (wpAny_nextOf_list_item d1.i1 d1.l1 hx fun h2 j1 s2 => wpAny_pure (wpAny_pure ?_))
    refine wpAny_bind (wpAny_bind (wpAny_holding ?_)); show wpAny _ _ (Builtin.SmallTypes.nextOf (.ref (n + 1)) >>= _) _ _ _
    refine wpAny_bind (wpAny_nextOf_list_item (d1.i2.extBut s2.extBut n10) (d1.l2.extBut s2.extBut b0) hy fun h4 j2 s4 => wpAny_pure (wpAny_pure ?_))
    refine wpAny_bind (wpAny_bind (wpAny_holding ?_)); show wpAny _ _ (Builtin.SmallTypes.nextOf (.ref (n + 2)) >>= _) _ _ _
    refine wpAny_bind (wpAny_nextOf_list_item ((d1.i3.extBut s2.extBut n20).extBut s4.extBut n21) ((d1.l3.extBut s2.extBut c0).extBut s4.extBut c1) hu fun h6 j3 s6 => wpAny_pure (wpAny_pure (wpAny_pure ?_)))
    show wpAny _ _ (newTuple [x, y, u] >>= _) _ _ _
    refine wpAny_bind (wpAny_newTuple ?_)
    have k6 : ∀ q o, q ≠ n → q ≠ n + 1 → q ≠ n + 2 → q ≠ n + 5 → s.heap.get? q = some o → h6.get? q = some o := fun q o e0 e1 e2 e5 e =>
      s6.extBut _ _ e2 (s4.extBut _ _ e1 (s2.extBut _ _ e0 (s1.extBut _ _ e5 e)))
    have hsz : h6.objs.size = s.heap.objs.size := by rw [s6.1, s4.1, s2.1, s1.1]
    have lz : n + 5 < s.heap.objs.size := Heap.lt_size hz
    have z6 : Zp h6 (n + 5) (n + 3) (n + 4) f0 fl1 := s6.extBut _ _ n52 (s4.extBut _ _ n51 (s2.extBut _ _ n50 z1))
    have a1 : h6.IsListIter n a (k + 1) := (j1.extBut s4.extBut n01).extBut s6.extBut n02
    have a2 : h6.IsListIter (n + 1) b (k + 1) := j2.extBut s6.extBut n12
    refine wpAny_pure ⟨_, rfl, ?_⟩
    show Q (.ref h6.objs.size) _
    rw [hsz]
    refine hQ _ f0 fl1 vs ⟨a1.at fun o e => Heap.get?_push_of_some _ e, a2.at fun o e => Heap.get?_push_of_some _ e, j3.at fun o e => Heap.get?_push_of_some _ e, (D.l1.at fun o e => k6 a o a0 a11 a22 a55 e).push _, (D.l2.at fun o e => k6 b o b0 b1 b2 b5 e).push _, (D.l3.at fun o e => k6 c o c0 c1 c2 c5 e).push _, D.low,
      Heap.get?_push_of_some _ (k6 _ _ n30 n31 n32 n35 D.ti)⟩ (Heap.get?_push_of_some _ z6) hf (Heap.get?_push_of_some _ (k6 _ _ n40 n41 n42 n45 hO)) hv (by rw [← hsz]; exact Heap.get?_push_size _ rfl) fun q o e0 e => ?_
    exact Heap.get?_push_of_some _ (k6 q o (by omega) (by omega) (by omega) (by omega) e)
/-- the first list is at its end -/
theorem end3 {n a b c k : Nat} {xs ys zs vs : Array Value} {f0 : Value} {fl : Bool} {Q : Fin → Shared → Prop} (hh : A.handled = none) (D : Dr s.heap n a b c k xs ys zs)
    (hz : Zp s.heap (n + 5) (n + 3) (n + 4) f0 fl) (hf : f0 = .none ∨ ∃ T : Nat, f0 = rawInt T) (hO : Tp s.heap (n + 4) vs)
    (hx : xs[k]? = none) (hE : ∀ h' e, (∀ q o, q < n ∨ n + 5 < q → s.heap.get? q = some o → h'.get? q = some o) → (∃ o, h'.get? e = some o ∧ o.cls = .type "StopIteration") → E (.ref e) { s with heap := h' }) :
    wpAny (model prog w) A (Builtin.«zip.__next__» ⟨[.ref (n + 5)], []⟩) Q E s := by
  have n01 : n ≠ n + 1 := by omega
  have n02 : n ≠ n + 2 := by omega
  have n03 : n ≠ n + 3 := by omega
  have n04 : n ≠ n + 4 := by omega
  have n05 : n ≠ n + 5 := by omega
  have n12 : n + 1 ≠ n + 2 := by omega
  have n13 : n + 1 ≠ n + 3 := by omega
  have n14 : n + 1 ≠ n + 4 := by omega
  have n15 : n + 1 ≠ n + 5 := by omega
  have n21 : n + 2 ≠ n + 1 := by omega
  have n23 : n + 2 ≠ n + 3 := by omega
  have n24 : n + 2 ≠ n + 4 := by omega
  have n25 : n + 2 ≠ n + 5 := by omega
  have n31 : n + 3 ≠ n + 1 := by omega
  have n32 : n + 3 ≠ n + 2 := by omega
  have n34 : n + 3 ≠ n + 4 := by omega
  have n35 : n + 3 ≠ n + 5 := by omega
  have n41 : n + 4 ≠ n + 1 := by omega
  have n42 : n + 4 ≠ n + 2 := by omega
  have n43 : n + 4 ≠ n + 3 := by omega
  have n45 : n + 4 ≠ n + 5 := by omega
  have n51 : n + 5 ≠ n + 1 := by omega
  have n52 : n + 5 ≠ n + 2 := by omega
  have n53 : n + 5 ≠ n + 3 := by omega
  have n54 : n + 5 ≠ n + 4 := by omega
  have n10 : n + 1 ≠ n := by omega
  have n20 : n + 2 ≠ n := by omega
  have n30 : n + 3 ≠ n := by omega
  have n40 : n + 4 ≠ n := by omega
  have n50 : n + 5 ≠ n := by omega
  have lw := D.low
  have a0 : a ≠ n := by omega
  have a11 : a ≠ n + 1 := by omega
  have a22 : a ≠ n + 2 := by omega
  have a44 : a ≠ n + 4 := by omega
  have a55 : a ≠ n + 5 := by omega
  have b0 : b ≠ n := by omega
  have b1 : b ≠ n + 1 := by omega
  have b2 : b ≠ n + 2 := by omega
  have b4 : b ≠ n + 4 := by omega
  have b5 : b ≠ n + 5 := by omega
  have c0 : c ≠ n := by omega
  have c1 : c ≠ n + 1 := by omega
  have c2 : c ≠ n + 2 := by omega
  have c4 : c ≠ n + 4 := by omega
  have c5 : c ≠ n + 5 := by omega
  show wpAny _ _ (field (.ref (n + 5)) 2 >>= _) _ _ _; refine wpAny_bind (wpAny_field hz rfl (x := .bool false) rfl ?_)
  show wpAny _ _ (field (.ref (n + 5)) 3 >>= _) _ _ _; refine wpAny_bind (wpAny_field hz rfl (x := .ref (n + 3)) rfl ?_)
  refine wpAny_bind (wpAny_seqItems D.ti rfl ?_)
  show wpAny _ _ (Builtin.SmallTypes.ownedTupleIsFree (.ref (n + 5)) >>= _) _ _ _
  refine wpAny_bind (own_free hz hf ?_ fun h1 fl1 z1 s1 => ?_)
  · simp only [if_true]
    refine wpAny_bind (wpAny_rule ?_); refine wpAny_bind (wpAny_field hz rfl (x := .ref (n + 4)) rfl ?_)
    refine wpAny_bind (wpAny_setField_rec hz (by simp) fun h1 z1 s1 => ?_)
    have z1' : Zp h1 (n + 5) (n + 3) (n + 4) .ellipsis fl := z1
    have d1 := D.but s1 (.inr rfl)
    refine wpAny_bind ?_; simp only [List.zipIdx_cons, List.zipIdx_nil, List.forIn_cons, List.forIn_nil]
    refine wpAny_bind (wpAny_bind (wpAny_onRaise ?_)); show wpAny _ _ (Builtin.SmallTypes.nextOf (.ref n) >>= _) _ _ _
    refine wpAny_bind (wpAny_nextOf_list_end hh d1.i1 d1.l1 hx fun h2 e s2 he => ?_)
    obtain ⟨oe, hoe, hce⟩ := he
    have z2 : Zp h2 (n + 5) (n + 3) (n + 4) .ellipsis fl := s2 _ _ n50 z1'
    have ez : e ≠ n + 5 := fun t => by rw [t, z2] at hoe; cases hoe; simp at hce
    refine wpAny_setField_rec z2 (by simp) fun h3 z3 s3 => hE h3 e (fun q o e0 t => ?_) ⟨oe, s3.extBut _ _ ez hoe, hce⟩
    have e5 : q ≠ n + 5 := by omega
    have e6 : q ≠ n := by omega
    exact s3.extBut _ _ e5 (s2 _ _ e6 (s1.extBut _ _ e5 t))
  · simp only [Bool.false_eq_true, if_false]
    have d1 := D.but s1 (.inr rfl)
    refine wpAny_bind ?_
    rw [← Array.forIn_toList]
    simp only [List.forIn_cons, List.forIn_nil]
    refine wpAny_bind (wpAny_bind (wpAny_holding ?_)); show wpAny _ _ (Builtin.SmallTypes.nextOf (.ref n) >>= _) _ _ _
    refine wpAny_bind (wpAny_nextOf_list_end hh d1.i1 d1.l1 hx fun h2 e s2 he => hE h2 e (fun q o e0 t => ?_) he)
    have e5 : q ≠ n + 5 := by omega
    have e6 : q ≠ n := by omega
    exact s2 _ _ e6 (s1.extBut _ _ e5 t)
theorem pyNext3 {n a b c k : Nat} {xs ys zs vs : Array Value} {x y u : Value} {f0 : Value} {fl : Bool} {Q : Option Value → Shared → Prop} (D : Dr s.heap n a b c k xs ys zs)
    (hz : Zp s.heap (n + 5) (n + 3) (n + 4) f0 fl) (hf : f0 = .none ∨ ∃ T : Nat, f0 = rawInt T) (hO : Tp s.heap (n + 4) vs) (hv : vs.size = 3)
    (hx : xs[k]? = some x) (hy : ys[k]? = some y) (hu : zs[k]? = some u)
    (hQ : ∀ h' f1 fl1 vs1, Dr h' n a b c (k + 1) xs ys zs → Zp h' (n + 5) (n + 3) (n + 4) f1 fl1 → (f1 = .none ∨ ∃ T : Nat, f1 = rawInt T) → Tp h' (n + 4) vs1 → vs1.size = 3 → Tp h' s.heap.objs.size #[x, y, u] →
      (∀ q o, q < n ∨ n + 5 < q → s.heap.get? q = some o → h'.get? q = some o) → Q (some (.ref s.heap.objs.size)) { s with heap := h' }) :
    wpAny (model prog w) A (pyNext (.ref (n + 5))) Q E s := by
  have hT : s.TypeIs (.ref (n + 5)) "zip" := ⟨_, hz, rfl⟩
  unfold pyNext
  exact wpAny_bind (wpAny_attempt (wpAny_callSpecial?_slot (name := Str.ofString "__next__") hT F.slot_zip_next (wpAny_call_entry F.slot_zip_next hT F.entry_zip_next
    (next3 D hz hf hO hv hx hy hu fun h' f1 fl1 vs1 a1 a2 a3 a4 a5 a6 a7 => wpAny_pure (hQ h' f1 fl1 vs1 a1 a2 a3 a4 a5 a6 a7)) (F.args_zip_next_1 _))))
theorem pyEnd3 {n a b c k : Nat} {xs ys zs vs : Array Value} {f0 : Value} {fl : Bool} {Q : Option Value → Shared → Prop} (hh : A.handled = none) (D : Dr s.heap n a b c k xs ys zs)
    (hz : Zp s.heap (n + 5) (n + 3) (n + 4) f0 fl) (hf : f0 = .none ∨ ∃ T : Nat, f0 = rawInt T) (hO : Tp s.heap (n + 4) vs)
    (hx : xs[k]? = none) (hQ : ∀ h', (∀ q o, q < n ∨ n + 5 < q → s.heap.get? q = some o → h'.get? q = some o) → Q none { s with heap := h' }) :
    wpAny (model prog w) A (pyNext (.ref (n + 5))) Q E s := by
  have hT : s.TypeIs (.ref (n + 5)) "zip" := ⟨_, hz, rfl⟩
  unfold pyNext
  refine wpAny_bind (wpAny_attempt (wpAny_callSpecial?_slot (name := Str.ofString "__next__") hT F.slot_zip_next (wpAny_call_entry F.slot_zip_next hT F.entry_zip_next (end3 hh D hz hf hO hx fun h' e hk he => ?_) (F.args_zip_next_1 _))))
  obtain ⟨o, ho, hc⟩ := he
  exact wpAny_bind (wpAny_isInstance (T := "StopIteration") (b := true) ⟨o, ho, hc⟩ isSubtype_stop (wpAny_pure (hQ _ hk)))
/-- the new tuples of a list of them -/
structure Tups (row : Nat → Array Value) (lo : Addr) (h : Heap) (as : List Addr) : Prop where
  rise : as.Pairwise (· < ·)
  above : ∀ a ∈ as, lo < a
  at' : ∀ (j : Nat) (a : Addr), as[j]? = some a → Tp h a (row j)
theorem Tups.lt {row : Nat → Array Value} {lo : Addr} {h : Heap} {as : List Addr} (g : Tups row lo h as) {a : Addr} (ha : a ∈ as) : a < h.objs.size := by
  obtain ⟨j, hj⟩ := List.mem_iff_getElem?.mp ha
  exact Heap.lt_size (g.at' j a hj)
def Zs (h : Heap) (n a b c k : Nat) (xs ys zs : Array Value) : Prop := Dr h n a b c k xs ys zs ∧ ∃ f0 fl vs, Zp h (n + 5) (n + 3) (n + 4) f0 fl ∧ (f0 = .none ∨ ∃ T : Nat, f0 = rawInt T) ∧ Tp h (n + 4) vs ∧ vs.size = 3
theorem Zs.keep {h h' : Heap} {n a b c k : Nat} {xs ys zs : Array Value} (z : Zs h n a b c k xs ys zs) (hk : ∀ q o, q ≤ n + 5 → h.get? q = some o → h'.get? q = some o) : Zs h' n a b c k xs ys zs := by
  obtain ⟨d, f0, fl, vs, hz, hf, hO, hv⟩ := z
  have lw := d.low
  exact ⟨⟨d.i1.at fun o e => hk _ o (by omega) e, d.i2.at fun o e => hk _ o (by omega) e, d.i3.at fun o e => hk _ o (by omega) e, d.l1.at fun o e => hk _ o (by omega) e, d.l2.at fun o e => hk _ o (by omega) e, d.l3.at fun o e => hk _ o (by omega) e, lw, hk _ _ (by omega) d.ti⟩,
    f0, fl, vs, hk _ _ (Nat.le_refl _) hz, hf, hk _ _ (by omega) hO, hv⟩
end
section
variable {prog : Program} {w : World} {A : Around} {s : Shared} {R : Result → Shared → Prop} {n a b c : Nat} {xs ys zs : Array Value} {row : Nat → Array Value}
def Rows3 (row : Nat → Array Value) (xs ys zs : Array Value) : Prop := ∀ k, k < xs.size → ∃ x y u, xs[k]? = some x ∧ ys[k]? = some y ∧ zs[k]? = some u ∧ row k = #[x, y, u]
theorem loop3 {S : Addr} (hh : A.handled = none) (hS0 : n + 5 < S) (hr : Rows3 row xs ys zs) (hn : xs.size ≤ sizeLine) (res : Value) {h₁ : Heap}
    (hR : ∀ h' tk acc cc as, (∀ q o, q < n ∨ n + 5 < q → q ≠ S → h₁.get? q = some o → h'.get? q = some o) → h'.get? S = some { cls := .type "list", dict := none, data := .seq acc cc, slots := #[] } → as.length = xs.size → Tups row S h' as →
      acc.toList = as.map Value.ref → R (.ok (.ret res)) { s with heap := h', toks := tk }) :
    ∀ (m k : Nat) (h : Heap) (tk cc : Nat) (acc : Array Value) (as : List Addr), xs.size - k = m → k ≤ xs.size → Zs h n a b c k xs ys zs → (∀ q o, q < n ∨ n + 5 < q → q ≠ S → h₁.get? q = some o → h.get? q = some o) →
      h.get? S = some { cls := .type "list", dict := none, data := .seq acc cc, slots := #[] } → acc.toList = as.map Value.ref → as.length = k → Tups row S h as →
      codeAny (model prog w) A (.builtin "list.extend.loop" ⟨[.ref S, .ref (n + 5), res], []⟩) R { s with heap := h, toks := tk } := by
  intro m
  induction m with
  | zero =>
    intro k h tk cc acc as hm hk hst hkeep hS hacc hal hG
    refine codeAny_builtin PySem.F.entry_extend_loop ?_
    rw [Around.under_plainId PySem.F.plain_extend_loop _]; show wpAny _ A.in1 (pyNext (.ref (n + 5)) >>= _) _ _ _
    obtain ⟨d, f0, fl, vs, hz, hf, hO, hv⟩ := hst
    refine wpAny_bind (pyEnd3 (s := { s with heap := h, toks := tk }) (A := A.in1) hh d hz hf hO (Array.getElem?_eq_none (by omega)) fun h' he => ?_)
    refine wpAny_pure (hR h' tk acc cc as (fun q o e0 e1 e => he q o e0 (hkeep q o e0 e1 e)) (he S _ (.inr hS0) hS) (by omega) ⟨hG.rise, hG.above, fun j q hj => ?_⟩ hacc)
    exact he _ _ (.inr (Nat.lt_trans hS0 (hG.above q (List.mem_of_getElem? hj)))) (hG.at' j q hj)
  | succ m ih =>
    intro k h tk cc acc as hm hk hst hkeep hS hacc hal hG
    have hlt : k < xs.size := by omega
    obtain ⟨x, y, u, ex, ey, eu, er⟩ := hr k hlt
    have hsz : acc.size = k := by rw [← Array.length_toList, hacc, List.length_map, hal]
    refine codeAny_builtin PySem.F.entry_extend_loop ?_
    rw [Around.under_plainId PySem.F.plain_extend_loop _]; show wpAny _ A.in1 (pyNext (.ref (n + 5)) >>= _) _ _ _
    obtain ⟨d, f0, fl, vs, hz, hf, hO, hv⟩ := hst
    refine wpAny_bind (pyNext3 (s := { s with heap := h, toks := tk }) (A := A.in1) d hz hf hO hv ex ey eu fun h' f1 fl1 vs1 d' z' f' o' v' ht hkp => ?_)
    dsimp only at ht hkp ⊢
    have hS' := hkp S _ (.inr hS0) hS
    have up : ∀ q o, q ≠ S → h'.get? q = some o → (h'.update S (Obj.mapSeq (·.push (Value.ref h.objs.size)))).get? q = some o := fun q o hb e => (Heap.get?_update_other _ _ (Ne.symm hb)).trans e
    have hSl : S < h.objs.size := Heap.lt_size hS
    have neS : ∀ {q : Nat}, q ≤ n + 5 → q ≠ S := fun {q} hq => by omega
    show wpAny _ A.in1 (updateSeq S (·.push (Value.ref h.objs.size)) >>= _) _ _ _
    refine wpAny_bind (wpAny_updateSeq hS' rfl (wpAny_pure ⟨plainId_quiet PySem.F.plain_extend_loop _, ih (k + 1) _ tk _ (acc.push (Value.ref h.objs.size)) (as ++ [h.objs.size]) (by omega) hlt
      (Zs.keep (h := h') ⟨d', f1, fl1, vs1, z', f', o', v'⟩ fun q o hq e => up q o (neS hq) e) (fun q o e0 e1 e => up q o e1 (hkp q o e0 (hkeep q o e0 e1 e))) (Heap.get?_update_self _ hS' rfl)
      (by rw [Array.toList_push, hacc, List.map_append]; rfl) (by rw [List.length_append, hal]; rfl) ⟨?_, ?_, ?_⟩⟩) (by rw [hsz]; omega) (by show (acc.push (Value.ref h.objs.size)).size ≤ sizeLine + 1; rw [Array.size_push, hsz]; omega))
    · refine List.pairwise_append.mpr ⟨hG.rise, List.pairwise_singleton _ _, fun q hq t ht => ?_⟩
      rw [List.mem_singleton.mp ht]
      exact hG.lt hq
    · intro q hq
      rcases List.mem_append.mp hq with hq | hq
      · exact hG.above q hq
      · rw [List.mem_singleton.mp hq]; exact hSl
    · intro j q hj
      rcases Nat.lt_trichotomy j as.length with h1 | h1 | h1
      · rw [List.getElem?_append_left h1] at hj
        have hb := hG.above q (List.mem_of_getElem? hj)
        exact up q _ (Nat.ne_of_gt hb) (hkp q _ (.inr (Nat.lt_trans hS0 hb)) (hG.at' j q hj))
      · subst h1
        have hb : h.objs.size = q := by simpa using hj
        subst hb
        refine up _ _ (Nat.ne_of_gt hSl) ?_
        rw [hal, er]
        exact ht
      · rw [List.getElem?_eq_none (by rw [List.length_append, List.length_singleton]; omega)] at hj
        cases hj
end
section
variable {prog : Program} {w : World} {A : Around} {E : Value → Shared → Prop} {s : Shared} {n a b c : Nat} {xs ys zs : Array Value} {row : Nat → Array Value}
theorem hint3 {z : Addr} (hT : s.TypeIs (.ref z) "zip") {Q : Bool → Shared → Prop} (h : Q true s) : wpAny (model prog w) A (Builtin.List.listLengthHint (.ref z)) Q E s := by
  unfold Builtin.List.listLengthHint
  refine wpAny_bind (wpAny_specialOf hT zlen ?_)
  show wpAny _ _ (specialOf (Value.ref z) (Str.ofString "__length_hint__") >>= _) _ _ _
  exact wpAny_bind (wpAny_specialOf hT zhint (wpAny_pure h))
theorem init3 {R : Result → Shared → Prop} (hh : A.handled = none) (hst : Zs s.heap n a b c 0 xs ys zs) (S : Addr) (hS0 : n + 5 < S) (hS : s.heap.get? S = some { cls := .type "list", data := .seq #[] }) (hr : Rows3 row xs ys zs) (hn : xs.size ≤ sizeLine)
    (hR : ∀ h' tk acc cc as, (∀ q o, q < n ∨ n + 5 < q → q ≠ S → s.heap.get? q = some o → h'.get? q = some o) → h'.get? S = some { cls := .type "list", dict := none, data := .seq acc cc, slots := #[] } → as.length = xs.size → Tups row S h' as →
      acc.toList = as.map Value.ref → R (.ok (.ret .none)) { s with heap := h', toks := tk }) :
    wpAny (model prog w) A.in1 (Builtin.«list.__init__» ⟨[.ref S, .ref (n + 5)], []⟩)
      (fun fin s' => match fin with | .done f => R (.ok f) s' | .again c' => c'.quiet = true ∧ codeAny (model prog w) A c' R s') (fun e s' => R (.error e) s') s := by
  show wpAny _ _ (do let old ← Builtin.List.listItems (.ref S); Builtin.List.listUpdate (.ref S) (fun _ => #[]); letGo old.toList.reverse; Builtin.List.listExtendWith (.ref S) (.ref (n + 5)) .none) _ _ s
  refine wpAny_bind ?_
  unfold Builtin.List.listItems
  refine wpAny_bind (wpAny_seqItems hS rfl (wpAny_pure ?_))
  show wpAny _ _ (updateSeq S (fun _ => #[]) >>= fun _ => letGo (#[] : Array Value).toList.reverse >>= fun _ => Builtin.List.listExtendWith (.ref S) (.ref (n + 5)) .none) _ _ s
  refine wpAny_bind (wpAny_updateSeq hS rfl ?_)
  have hS2 := Heap.get?_update_self (Obj.mapSeq (fun _ => (#[] : Array Value))) hS rfl
  have oth : ∀ q o, q ≠ S → s.heap.get? q = some o → (s.heap.update S (Obj.mapSeq (fun _ => (#[] : Array Value)))).get? q = some o := fun q o hb e => (Heap.get?_update_other _ _ (Ne.symm hb)).trans e
  have neS : ∀ {q : Nat}, q ≤ n + 5 → q ≠ S := fun {q} hq => by omega
  have st2 : Zs (s.heap.update S (Obj.mapSeq (fun _ => (#[] : Array Value)))) n a b c 0 xs ys zs := hst.keep fun q o hq e => oth q o (neS hq) e
  refine wpAny_bind (wpAny_letGo ?_)
  have hT : Shared.TypeIs { s with heap := s.heap.update S (Obj.mapSeq (fun _ => (#[] : Array Value))) } (.ref (n + 5)) "zip" := let ⟨_, _, _, _, hz, _⟩ := st2; ⟨_, hz, rfl⟩
  unfold Builtin.List.listExtendWith
  refine wpAny_bind (wpAny_typeOf (T := "zip") hT ?_)
  have g1 : Builtin.List.listSameRef (.ref S) (.ref (n + 5)) = false := by simp [Builtin.List.listSameRef, (neS (Nat.le_refl _)).symm]
  have g2 : (Value.type "zip" == Value.type "list") = false := by decide
  have g3 : (Value.type "zip" == Value.type "tuple") = false := by decide
  simp only [g1, g2, g3, Bool.or_false, Bool.false_eq_true, if_false]
  obtain ⟨d2, f0, fl, vs, hz, hf, hO, hv⟩ := id st2
  refine wpAny_bind (wpAny_pyIter_slot hT F.slot_zip_iter (wpAny_call_entry F.slot_zip_iter hT F.entry_zip_iter ?_ (F.args_zip_iter_1 _)))
  show wpAny _ _ (ret (.ref (n + 5))) _ _ _
  refine wpAny_pure ⟨_, rfl, "zip", _, hT, F.slot_zip_next.lookup, ?_⟩
  refine wpAny_bind (wpAny_holding (hint3 hT ?_))
  simp only [Bool.true_or, if_true]
  refine wpAny_bind (wpAny_rule ?_); refine wpAny_bind ?_
  show wpAny _ _ (updateSeq S (·.push .none) >>= fun _ => updateSeq S (·.pop)) _ _ _
  refine wpAny_bind (wpAny_updateSeq hS2 rfl ?_)
  have hS3 := Heap.get?_update_self (Obj.mapSeq (·.push Value.none)) hS2 rfl
  refine wpAny_updateSeq (hz := by seq_fits) hS3 rfl ?_
  have hS4 := Heap.get?_update_self (Obj.mapSeq (·.pop)) hS3 rfl
  have ot2 : ∀ q o, q ≠ S → (s.heap.update S (Obj.mapSeq (fun _ => (#[] : Array Value)))).get? q = some o →
    (((s.heap.update S (Obj.mapSeq (fun _ => (#[] : Array Value)))).update S (Obj.mapSeq (·.push Value.none))).update S (Obj.mapSeq (·.pop))).get? q = some o := fun q o hb e => (Heap.get?_update_other _ _ (Ne.symm hb)).trans ((Heap.get?_update_other _ _ (Ne.symm hb)).trans e)
  refine wpAny_pure ⟨plainId_quiet PySem.F.plain_extend_loop _, loop3 (row := row) (s := s) (h₁ := s.heap) hh hS0 hr hn .none (fun h' tk acc cc as k1 k2 k3 k4 k5 => hR h' tk acc cc as k1 k2 k3 k4 k5) xs.size 0 _ _ _ #[] [] (Nat.sub_zero _) (Nat.zero_le _)
    (st2.keep fun q o hq e => ot2 q o (neS hq) e) (fun q o _ e1 e => ot2 q o e1 (oth q o e1 e)) hS4 rfl rfl ⟨List.Pairwise.nil, (fun _ ha => nomatch ha), (fun j a hj => by simp at hj)⟩⟩
theorem list3 {Q : Value → Shared → Prop} (hh : A.handled = none) (hst : Zs s.heap n a b c 0 xs ys zs) (hr : Rows3 row xs ys zs) (hn : xs.size ≤ sizeLine)
    (hQ : ∀ h' tk acc cc as, (∀ q o, q < n ∨ n + 5 < q → s.heap.get? q = some o → h'.get? q = some o) → h'.get? s.heap.objs.size = some { cls := .type "list", dict := none, data := .seq acc cc, slots := #[] } → as.length = xs.size → Tups row s.heap.objs.size h' as →
      acc.toList = as.map Value.ref → Q (.ref s.heap.objs.size) { s with heap := h', toks := tk }) :
    wpAny (model prog w) A (call (.type "list") [.ref (n + 5)]) Q E s := by
  refine callType_codes (Q₁ := fun obj s₁ => obj = .ref s.heap.objs.size ∧ s₁ = { s with heap := s.heap.push { cls := .type "list", data := .seq #[] } }) PySem.F.called_list (PySem.F.typeCall_list_1 _) PySem.F.entry_list_init (code_list_new _ ⟨rfl, rfl⟩) fun obj s₁ h₁ => ?_
  obtain ⟨rfl, rfl⟩ := h₁
  have hS : (s.heap.push { cls := .type "list", data := .seq #[] }).get? s.heap.objs.size = some { cls := .type "list", data := .seq #[] } := Heap.get?_push_size _ rfl
  have lz : n + 5 < s.heap.objs.size := let ⟨_, _, _, _, hz, _⟩ := hst; Heap.lt_size hz
  refine ⟨⟨_, hS, rfl⟩, PySem.F.args_list_init_2 _ _, init3 (row := row) (A := A.in1) hh (hst.keep fun q o _ e => Heap.get?_push_of_some _ e) _ lz hS hr hn fun h' tk acc cc as k1 k2 k3 k4 k5 => ⟨rfl, ?_⟩⟩
  exact hQ h' tk acc cc as (fun q o e0 e => k1 q o e0 (Nat.ne_of_lt (Heap.lt_size e)) (Heap.get?_push_of_some _ e)) k2 k3 k4 k5
abbrev it3 (l : Addr) : Obj := { cls := .type "list_iterator", data := .fields #[.ref l, .int 0 0] }
abbrev h31 (h : Heap) (a : Addr) : Heap := h.push (it3 a)
abbrev h32 (h : Heap) (a b : Addr) : Heap := (h31 h a).push (it3 b)
abbrev h33 (h : Heap) (a b c : Addr) : Heap := (h32 h a b).push (it3 c)
abbrev h34 (h : Heap) (a b c : Addr) : Heap := (h33 h a b c).push { cls := .type "tuple", data := .seq #[.ref h.objs.size, .ref (h31 h a).objs.size, .ref (h32 h a b).objs.size] }
abbrev h35 (h : Heap) (a b c : Addr) : Heap := (h34 h a b c).push { cls := .type "tuple", data := .seq #[.none, .none, .none] }
abbrev h36 (h : Heap) (a b c : Addr) : Heap := (h35 h a b c).push { cls := .type "zip", data := .fields #[.none, .bool false, .bool false, .ref (h33 h a b c).objs.size, .ref (h34 h a b c).objs.size] }
theorem new3 (a b c : Addr) (xs ys zs : Array Value) :
    Meets (Builtin.«zip.__new__» ⟨[.type "zip", .ref a, .ref b, .ref c], []⟩) (fun _ R s => s.heap.IsList a xs ∧ s.heap.IsList b ys ∧ s.heap.IsList c zs ∧
      R (.ok (.ret (.ref (h35 s.heap a b c).objs.size))) { s with heap := h36 s.heap a b c }) :=
  .of_wp fun prog w A R s h => by
    obtain ⟨hp, g, d, tk, os⟩ := s; obtain ⟨hl1, hl2, hl3, h⟩ := h
    have hsub := sub_zip
    have hL1 : Heap.IsList (Shared.heap ⟨hp, g, d, tk, os⟩) a xs := hl1
    have hL2 : Heap.IsList (Shared.heap ⟨hp.push (it3 a), g, d, tk, os⟩) b ys := Heap.IsList.push hl2 _
    have hL3 : Heap.IsList (Shared.heap ⟨(hp.push (it3 a)).push (it3 b), g, d, tk, os⟩) c zs := Heap.IsList.push (Heap.IsList.push hl3 _) _
    wp_walk using wpAny_pyIter_list hL1, wpAny_pyIter_list hL2, wpAny_pyIter_list hL3
    exact ⟨_, rfl, h⟩
theorem zip3 {Q : Value → Shared → Prop} (h1 : s.heap.IsList a xs) (h2 : s.heap.IsList b ys) (h3 : s.heap.IsList c zs) (lw : a < s.heap.objs.size ∧ b < s.heap.objs.size ∧ c < s.heap.objs.size)
    (h : ∀ h', Zs h' s.heap.objs.size a b c 0 xs ys zs → h'.objs.size = s.heap.objs.size + 6 → (∀ q o, s.heap.get? q = some o → h'.get? q = some o) → Q (.ref (s.heap.objs.size + 5)) { s with heap := h' }) :
    wpAny (model prog w) A (call (.type "zip") [.ref a, .ref b, .ref c]) Q E s := by
  refine callType_new F.called_zip (by decide) (ztc3 _ _ _) (znc3 _ _ _) (fun obj => zao4 obj _ _ _) F.entry_zip_new (new3 a b c xs ys zs) ⟨h1, h2, h3, ?_⟩
  have z1 : (h31 s.heap a).objs.size = s.heap.objs.size + 1 := Heap.size_push ..
  have z2 : (h32 s.heap a b).objs.size = s.heap.objs.size + 2 := by rw [Heap.size_push, z1]
  have z3 : (h33 s.heap a b c).objs.size = s.heap.objs.size + 3 := by rw [Heap.size_push, z2]
  have z4 : (h34 s.heap a b c).objs.size = s.heap.objs.size + 4 := by rw [Heap.size_push, z3]
  have z5 : (h35 s.heap a b c).objs.size = s.heap.objs.size + 5 := by rw [Heap.size_push, z4]
  have z6 : (h36 s.heap a b c).objs.size = s.heap.objs.size + 6 := by rw [Heap.size_push, z5]
  have g6 : (h36 s.heap a b c).get? (h35 s.heap a b c).objs.size = some _ := Heap.get?_push_size _ rfl
  have g5 : (h36 s.heap a b c).get? (h34 s.heap a b c).objs.size = some _ := Heap.get?_push_of_some _ (Heap.get?_push_size _ rfl)
  have g4 : (h36 s.heap a b c).get? (h33 s.heap a b c).objs.size = some _ := Heap.get?_push_of_some _ (Heap.get?_push_of_some _ (Heap.get?_push_size _ rfl))
  have g3 : (h36 s.heap a b c).get? (h32 s.heap a b).objs.size = some _ := Heap.get?_push_of_some _ (Heap.get?_push_of_some _ (Heap.get?_push_of_some _ (Heap.get?_push_size _ rfl)))
  have g2 : (h36 s.heap a b c).get? (h31 s.heap a).objs.size = some _ := Heap.get?_push_of_some _ (Heap.get?_push_of_some _ (Heap.get?_push_of_some _ (Heap.get?_push_of_some _ (Heap.get?_push_size _ rfl))))
  have g1 : (h36 s.heap a b c).get? s.heap.objs.size = some _ := Heap.get?_push_of_some _ (Heap.get?_push_of_some _ (Heap.get?_push_of_some _ (Heap.get?_push_of_some _ (Heap.get?_push_of_some _ (Heap.get?_push_size _ rfl)))))
  have kp : ∀ q o, s.heap.get? q = some o → (h36 s.heap a b c).get? q = some o := fun q o x => Heap.get?_push_of_some _ (Heap.get?_push_of_some _ (Heap.get?_push_of_some _ (Heap.get?_push_of_some _ (Heap.get?_push_of_some _ (Heap.get?_push_of_some _ x)))))
  show _ ∧ _
  rw [z3, z4, z5] at g6
  rw [z4] at g5
  rw [z1, z2, z3] at g4
  rw [z2] at g3
  rw [z1] at g2
  rw [z5]
  exact ⟨⟨_, g6, rfl⟩, h _ ⟨⟨⟨_, g1, rfl, rfl⟩, ⟨_, g2, rfl, rfl⟩, ⟨_, g3, rfl, rfl⟩, h1.at fun o e => kp a o e, h2.at fun o e => kp b o e, h3.at fun o e => kp c o e, lw, g4⟩, .none, false, _, g6, .inl rfl, g5, rfl⟩ z6 kp⟩
end
end Z3
namespace Z3
open PySem PySem.Spec PyProof.Rows L2
/-- the tuples tracked at their addresses -/
def layT : Hp → List Addr → List (List V) → Hp
  | H, a :: as, p :: ps => layT (upd H a (.tup p)) as ps
  | H, _, _ => H
theorem layT_off {q : Addr} : ∀ (as : List Addr) (ps : List (List V)) (H : Hp), q ∉ as → layT H as ps q = H q
  | [], _, _, _ => rfl
  | _ :: _, [], _, _ => rfl
  | a :: as, p :: ps, H, h => by
    show layT (upd H a (.tup p)) as ps q = H q
    rw [layT_off as ps _ (fun z => h (List.mem_cons_of_mem _ z)), upd_ne (fun z => h (by rw [z]; exact List.mem_cons_self))]
theorem layT_at : ∀ (as : List Addr) (ps : List (List V)) (H : Hp), as.length = ps.length → as.Nodup → ∀ (j : Nat) (a : Addr) (p : List V), as[j]? = some a → ps[j]? = some p → layT H as ps a = some (.tup p)
  | [], _, _, _, _, j, a, p, h, _ => by simp at h
  | _ :: _, [], _, h, _, _, _, _, _, _ => by cases h
  | a :: as, p :: ps, H, h, hn, 0, b, q, e1, e2 => by
    have hn' := List.nodup_cons.mp hn
    cases e1
    cases e2
    show layT (upd H a (.tup p)) as ps a = _
    rw [layT_off as ps _ hn'.1, upd_same]
  | a :: as, p :: ps, H, h, hn, j + 1, b, q, e1, e2 => layT_at as ps (upd H a (.tup p)) (Nat.succ.inj h) (List.nodup_cons.mp hn).2 j b q e1 e2
theorem refV : ∀ as : List Addr, Vals (as.map V.ref) (as.map Value.ref)
  | [] => .nil
  | _ :: as => .cons rfl (refV as)
/-- what a list of new tuples leaves -/
def NewT (H H' : Hp) (p : Addr) (ts : List Addr) (ps : List (List V)) : Prop :=
  (∀ q o, H q = some o → H' q = some o) ∧ H p = none ∧ (∀ t ∈ ts, H t = none) ∧ p ∉ ts ∧ ts.Nodup ∧ ts.length = ps.length ∧ H' p = some (.lst (ts.map V.ref)) ∧ ∀ (j : Nat) (t : Addr) (r : List V), ts[j]? = some t → ps[j]? = some r → H' t = some (.tup r)
section
variable {X : Cx}
theorem laid {pins : List (Addr × Obj)} {σ : L2.St} {H : Hp} {s : Shared} {h' : Heap} {tk : Nat} {S : Addr} {ps : List (List V)} {row : Nat → Array Value} {acc : Array Value} {cc : Nat} {as : List Addr} (I : Inv X pins σ H s) (hz : ps.length ≤ sizeLine)
    (rel : ∀ (j : Nat) (r : List V), ps[j]? = some r → r.length ≤ sizeLine ∧ ∃ us, Vals r us ∧ row j = us.toArray) (hSl : s.heap.objs.size ≤ S)
    (hk : ∀ b o, s.heap.get? b = some o → h'.get? b = some o) (hS : h'.get? S = some { cls := .type "list", dict := none, data := .seq acc cc, slots := #[] }) (hl : as.length = ps.length) (hG : Tups row S h' as) (hacc : acc.toList = as.map Value.ref) :
    ∃ H' : Hp, NewT H H' S as ps ∧ Inv X pins σ H' { s with heap := h', toks := tk } := by
  have hSn : S ∉ as := fun z => Nat.lt_irrefl _ (hG.above _ z)
  have nd : as.Nodup := List.Pairwise.imp (fun {a b} (h : a < b) => Nat.ne_of_lt h) hG.rise
  have hi : ∀ t ∈ as, s.heap.objs.size ≤ t := fun t ht => Nat.le_trans hSl (Nat.le_of_lt (hG.above t ht))
  have new : ∀ t ∈ as, H t = none := fun t ht => I.hok.fresh (hi t ht)
  have newS : H S = none := I.hok.fresh hSl
  have atP := layT_at as ps (upd H S (.lst (as.map V.ref))) hl nd
  have off : ∀ b, b ∉ as → b ≠ S → layT (upd H S (.lst (as.map V.ref))) as ps b = H b := fun b h1 h2 => by rw [layT_off as ps _ h1, upd_ne h2]
  have low : ∀ b o, s.heap.get? b = some o → b ∉ as ∧ b ≠ S := fun b o e => ⟨fun z => absurd (Heap.lt_size e) (Nat.not_lt.mpr (hi b z)), fun z => absurd (Heap.lt_size e) (Nat.not_lt.mpr (by rw [z]; exact hSl))⟩
  have kp : ∀ b u, H b = some u → (layT (upd H S (.lst (as.map V.ref))) as ps) b = some u := fun b u e => by
    rw [off b (fun z => by rw [new b z] at e; cases e) (fun z => by rw [z, newS] at e; cases e)]
    exact e
  have eS : layT (upd H S (.lst (as.map V.ref))) as ps S = some (.lst (as.map V.ref)) := by rw [layT_off as ps _ hSn, upd_same]
  refine ⟨layT (upd H S (.lst (as.map V.ref))) as ps, ⟨kp, newS, new, hSn, nd, hl, eS, atP⟩, ?_⟩
  refine I.call' (ch := []) rfl ⟨fun b o q _ _ _ => hk b o q, fun b o q _ _ _ => ⟨o.slots, hk b o q⟩, fun b o q n _ => ?_, fun b o q _ => ⟨o, hk b o q⟩, fun b xs q => kp b _ q, fun b o u q => kp b _ q, fun b ps q => ⟨#[], by rw [kp b _ q]; simp⟩⟩ (fun b u q => ?_) I.bare fun b z => by simp at z
  · obtain ⟨z1, z2⟩ := low b o q
    rw [off b z1 z2]
    exact n
  · by_cases hb : b ∈ as
    · obtain ⟨j, e1⟩ := List.mem_iff_getElem?.mp hb
      have jl : j < ps.length := by rw [← hl]; exact (List.getElem?_eq_some_iff.mp e1).1
      have e2 := List.getElem?_eq_getElem jl
      have e3 := atP j b _ e1 e2
      rw [e3] at q
      cases q
      obtain ⟨rz, us, rv, er⟩ := rel j _ e2
      have f3 := hG.at' j b e1
      rw [er] at f3
      exact ⟨rz, us, rv, ⟨_, f3, rfl, _, rfl⟩⟩
    · by_cases hb2 : b = S
      · rw [hb2] at q ⊢
        rw [eS] at q
        cases q
        refine ⟨by rw [List.length_map]; omega, acc.toList, cc, by rw [hacc]; exact refV as, ?_⟩
        rw [Array.toArray_toList]
        exact hS
      · rw [off b hb hb2] at q
        exact (I.hok b u q).stay (fun d v _ y => hk d v y) (fun d y => kp d _ y) fun d xs y => kp d _ y
def tri : List V → List V → List V → List (List V)
  | x :: xs, y :: ys, u :: us => [x, y, u] :: tri xs ys us
  | _, _, _ => []
theorem tri_len : ∀ {xs ys zs : List V}, xs.length = ys.length → xs.length = zs.length → (tri xs ys zs).length = xs.length
  | [], _, _, _, _ => rfl
  | _ :: _, [], _, h, _ => by cases h
  | _ :: _, _ :: _, [], _, h => by cases h
  | x :: xs, y :: ys, u :: zs, h1, h2 => by
    show (tri xs ys zs).length + 1 = xs.length + 1
    rw [tri_len (Nat.succ.inj h1) (Nat.succ.inj h2)]
theorem tri_get : ∀ {xs ys zs : List V} {j : Nat} {r : List V}, (tri xs ys zs)[j]? = some r → ∃ x y u, xs[j]? = some x ∧ ys[j]? = some y ∧ zs[j]? = some u ∧ r = [x, y, u]
  | [], _, _, j, r, h => by simp [tri] at h
  | _ :: _, [], _, j, r, h => by simp [tri] at h
  | _ :: _, _ :: _, [], j, r, h => by simp [tri] at h
  | x :: xs, y :: ys, u :: zs, 0, r, h => ⟨x, y, u, rfl, rfl, rfl, (Option.some.inj h).symm⟩
  | x :: xs, y :: ys, u :: zs, j + 1, r, h => tri_get (xs := xs) (ys := ys) (zs := zs) (j := j) h
def tLZ3 (K : PySem.W.Frag) (ta : TA) : TE := fun σ H Q => ta σ H fun vs H1 => ∃ a b c xs ys zs, vs = [.ref a, .ref b, .ref c] ∧ SqL K H1 a xs ∧ SqL K H1 b ys ∧ SqL K H1 c zs ∧ xs.length = ys.length ∧ xs.length = zs.length ∧
  ∀ (H' : Hp) (p : Addr) (ts : List Addr), NewT H1 H' p ts (tri xs ys zs) → Q (.ref p) H'
/-- list(zip(a, b, c)) -/
theorem pe_listZip3 {e1 e2 e3 : Expr} {ta : TA} {p p2 pos2 pos : Pos} (hc : X.calm = true) (hg : Gl X "list") (hm : X.mg "list" = none) (hg2 : Gl X "zip") (hm2 : X.mg "zip" = none) (ha : PA X [e1, e2, e3] ta)
    (hs2 : starEach [e1, e2, e3] X.env = (false, eval e1 X.env) :: starEach [e2, e3] X.env := by rfl) (hpl2 : (backTo pos2 (starEach [e2, e3] X.env)).any (·.1) = false := by rfl)
    (hs : starEach [.Call (.Name "zip" p2) [e1, e2, e3] [] pos2] X.env = (false, eval (.Call (.Name "zip" p2) [e1, e2, e3] [] pos2) X.env) :: starEach [] X.env := by rfl) :
    PE X (.Call (.Name "list" p) [.Call (.Name "zip" p2) [e1, e2, e3] [] pos2] [] pos) (tLZ3 X.K ta) := by
  refine ⟨fun pins s σ H Q I hq => ?_⟩
  refine wpAny_Call_Name_kw (ld_blt I hg hm (by decide +kernel : bootBuiltins "list" = some (.type "list")) ?_)
  refine PyProof.Rows.callWith_type1 ?_ hs rfl
  rw [hs]
  refine Calls.spliced_cons ?_
  refine wpAny_Call_Name_kw (ld_blt I hg2 hm2 PyProof.Rows.boot_zip (PyProof.Rows.callWith_type1 (thn (ha.run pos2 pins s σ H _ I hq) fun us s1 ⟨vs, H1, I1, r1, q1⟩ => ?_) hs2 hpl2))
  obtain ⟨a, b, c, xs, ys, zs, ex, hx, hy, hz, l1, l2, q⟩ := q1
  subst ex
  obtain ⟨ia, ra, pa, za⟩ := I1.list hx
  obtain ⟨ib, rb, pb, zb⟩ := I1.list hy
  obtain ⟨ic, rc, pc, zc⟩ := I1.list hz
  cases r1 with
  | cons r rr => cases rr with
    | cons r' rr => cases rr with
      | cons r'' rr =>
        cases rr
        cases r
        cases r'
        cases r''
        refine zip3 pa.isList pb.isList pc.isList ⟨pa.lt, pb.lt, pc.lt⟩ fun h2 z2 sz2 k2 => ?_
        refine Calls.spliced_nil ?_
        have la := ra.length
        have lb := rb.length
        have lc := rc.length
        let row : Nat → Array Value := fun k => #[ia.toArray.getD k .none, ib.toArray.getD k .none, ic.toArray.getD k .none]
        have rows : Rows3 row ia.toArray ib.toArray ic.toArray := fun k hk => by
          have h1 : k < ia.length := by simpa using hk
          have h2 : k < ib.length := by omega
          have h3 : k < ic.length := by omega
          refine ⟨ia[k], ib[k], ic[k], by simp [h1], by simp [h2], by simp [h3], ?_⟩
          show #[ia.toArray.getD k .none, ib.toArray.getD k .none, ic.toArray.getD k .none] = _
          simp [h1, h2, h3]
        have hn : ia.toArray.size ≤ sizeLine := by rw [List.size_toArray, ← la]; exact za
        refine list3 (s := { s1 with heap := h2 }) (row := row) (I1.ok.hd hc) z2 rows hn fun h' tk acc cc as hk hS hl hG hacc => ?_
        have hk1 : ∀ q o, s1.heap.get? q = some o → h'.get? q = some o := fun q o e => hk q o (.inl (Heap.lt_size e)) (k2 q o e)
        have tl := tri_len l1 l2
        have sl : s1.heap.objs.size ≤ h2.objs.size := by omega
        obtain ⟨H', nt, J⟩ := laid (X := X) (tk := tk) (ps := tri xs ys zs) (row := row) I1 (by rw [tl]; exact za) (fun j r hj => by
          obtain ⟨x, y, u, f1, f2, f3, er⟩ := tri_get hj
          subst er
          obtain ⟨vx, g1, k1⟩ := ra.get f1
          obtain ⟨vy, g2, k2⟩ := rb.get f2
          obtain ⟨vu, g3, k3⟩ := rc.get f3
          refine ⟨by show 3 ≤ sizeLine; decide, [vx, vy, vu], .cons k1 (.cons k2 (.cons k3 .nil)), ?_⟩
          show #[ia.toArray.getD j .none, ib.toArray.getD j .none, ic.toArray.getD j .none] = _
          simp [g1, g2, g3]) sl hk1 hS (by rw [hl, tl, List.size_toArray, ← la]) hG hacc
        exact ⟨.ref _, H', J, rfl, q H' _ as nt⟩
end
end Z3
namespace Ow
open PySem PySem.Spec PyProof.Rows L2

/-- the def that the module's name x holds keeps sp, by k levels -/
structure Kn (P : Program) (w : World) (K : PySem.W.Frag) (mg : Str → Option Value) (base : Heap)
    (k : Nat) (x : Str) (ps : List Str) (sp : Sp) : Prop where
  ex : ∃ f fd, FnOk P w K mg base CX0 k f fd ps sp ∧ mg x = some (.ref f) ∧
    PySem.W.keepIn K (.ref f) = true ∧ Binds K fd ps []

theorem pe_kn {X : Cx} {k j : Nat} {x : Str} {ps : List Str} {sp : Sp} {p pos : Pos} {e : Expr}
    {es : List Expr} {t : TA} (c : Kn X.prog X.w X.K X.mg X.base k x ps sp) (hr : Room j X.A)
    (ha : PA X (e :: es) t) (hk : k ≤ j := by decide) (hg : Gl X x := by rfl)
    (hdb : (x == ("__debug__" : Str)) = false := by decide)
    (he : starEach (e :: es) X.env = (false, eval e X.env) :: starEach es X.env := by rfl)
    (hpl : (backTo pos (starEach es X.env)).any (·.1) = false := by rfl) :
    PE X (.Call (.Name x p) (e :: es) [] pos) (tCall sp [] E0 t) := by
  obtain ⟨f, fd, F, gm, kp, b⟩ := c.ex
  exact pe_call F (hr.mono hk) hg gm kp b .nil pass0 ha hdb he hpl

theorem hu64 {k : Nat} {A : Around} (hr : Room k A) : A.units + 64 < cLine := hr.units

/-- the heap but for what stands at p -/
def Gw (p : Addr) (H H' : Hp) : Prop := ∀ b o, b ≠ p → H b = some o → H' b = some o
theorem Gw.refl (p : Addr) (H : Hp) : Gw p H H := fun _ _ _ e => e
theorem Gw.trans {p : Addr} {H H1 H2 : Hp} (a : Gw p H H1) (b : Gw p H1 H2) : Gw p H H2 :=
  fun c o n e => b c o n (a c o n e)
theorem Gw.new {p q : Addr} {H : Hp} {o : HO} (n : H q = none) : Gw p H (upd H q o) :=
  fun b u _ e => by rw [upd_ne (ne_of_none e n)]; exact e
theorem Gw.put {p : Addr} {H : Hp} {o : HO} : Gw p H (upd H p o) :=
  fun b u nb e => by rw [upd_ne nb]; exact e
theorem Gw.same {p : Addr} {H H' : Hp} (s : Same H H') : Gw p H H' := fun b o _ e => s b o e
theorem Same.new {q : Addr} {H : Hp} {o : HO} (n : H q = none) : Same H (upd H q o) :=
  fun b u e => by rw [upd_ne (ne_of_none e n)]; exact e

theorem Gw.over {p o : Addr} {H H' : Hp} {u : HO} (g : Gw p H H') (n : H o = none) : Gw p H (upd H' o u) :=
  fun b x nb e => by rw [upd_ne (ne_of_none e n)]; exact g b x nb e
theorem Same.over {o : Addr} {H H' : Hp} {u : HO} (g : Same H H') (n : H o = none) : Same H (upd H' o u) :=
  fun b x e => by rw [upd_ne (ne_of_none e n)]; exact g b x e
theorem Gw.keep {p q : Addr} {H H' : Hp} {o : HO} (g : Gw p H H') (h : H q = some o) (n : q ≠ p) : H' q = some o := g q o n h
/-- what is free behind was free before -/
theorem Gw.free {p q : Addr} {H H' : Hp} (g : Gw p H H') (n : H' q = none) (ne : q ≠ p) : H q = none := by
  cases z : H q with
  | none => rfl
  | some o =>
    rw [g q o ne z] at n
    cases n
theorem small {n m : Nat} (h : n ≤ m) (hm : m ≤ 10000) : n < sizeLine :=
  Nat.lt_of_le_of_lt (Nat.le_trans h hm) (by decide)
end Ow
namespace Ow
open PySem PySem.Spec PyProof.Rows L2
theorem pget_list {X : Cx} : PGet X (rIxL X.K) := by
  intro pins s σ H o i ov iv Q I ro ri h
  obtain ⟨p, xs, n, v, rfl, rfl, hs, ha, q⟩ := h
  cases ro
  obtain ⟨t, rfl⟩ := ri
  obtain ⟨its, r, pl, hz⟩ := I.list hs
  obtain ⟨j, h1, h2, h3, h4, h5⟩ := atI_get ha
  obtain ⟨u, eu, ru⟩ := r.get h2
  have ln := line63
  have hl := r.length
  by_cases h0 : 0 ≤ n
  · have ej : n.toNat = j := by
      rw [seqIndex_of h0 h5] at h1
      exact Option.some.inj h1
    exact wpAny_getItem_list pl.isList h0 (by omega) (by rw [ej]; simpa using eu) ⟨v, H, I, ru, q⟩
  · have ej : (n + (its.toArray.size : Int)).toNat = j := by
      rw [seqIndex_neg (by omega) h4] at h1
      rw [List.size_toArray, ← hl]
      exact Option.some.inj h1
    exact wpAny_getItem_list_neg pl.isList (by omega) (by rw [List.size_toArray]; omega) (by omega)
      (by rw [ej]; simpa using eu) ⟨v, H, I, ru, q⟩
theorem at_in {α : Type} {xs : List α} {v : Int} (h0 : 0 ≤ v) (h1 : v < xs.length) : ∃ y, atI xs v = some y ∧ y ∈ xs := by
  have h : v.toNat < xs.length := by omega
  have e : v = ((v.toNat : Nat) : Int) := by omega
  refine ⟨xs[v.toNat], ?_, List.getElem_mem h⟩
  have z := atI_nat (xs := xs) (j := v.toNat) (List.getElem?_eq_getElem h)
  rw [← e] at z
  exact z
end Ow
namespace Ow
open PySem PySem.Spec PyProof.Rows L2
/-- a built-in class by its name -/
theorem pe_ty {X : Cx} (n : String) {x : Str} {pos : Pos} (hg : Gl X x) (hm : X.mg x = none) (hv : bootBuiltins x = some (.type n))
    (hn : x ≠ "__name__" := by decide) (hd : (x == ("__debug__" : Str)) = false := by decide) : PE X (.Name x pos) (tC (.ty n)) :=
  pe_bltn hg hm hv rfl hn hd
theorem sz (n : Nat) (h : n ≤ 1000 := by decide) : n ≤ sizeLine := Nat.le_trans h (by decide)
/-- a statement and the rest, with a word between -/
theorem pss_mid {X : Cx} {st : Stmt} {rest : List Stmt} {t u : TS} (a : PS X st t) (b : PSs X rest u) :
    PSs X (st :: rest) fun D σ H => ∃ Mid : L2.St → Hp → Prop, t { D with nx := Mid } σ H ∧ ∀ σ' H', Mid σ' H' → u D σ' H' := by
  refine ⟨fun pins s σ H D I ⟨Mid, hm, hu⟩ => ?_⟩
  refine wpAny_execs_cons (thn (a.run pins s σ H { D with nx := Mid } I hm) fun f s1 q => ?_)
  cases f with
  | next =>
    obtain ⟨σ', H', I', q⟩ := q
    exact b.run pins s1 σ' H' D I' (hu σ' H' q)
  | ret v => exact q
  | brk => exact q
  | cont => exact q
end Ow
namespace Ow
open PySem PySem.Spec PyProof.Rows L2
theorem ix_tup_K {X : Cx} {K : PySem.W.Frag} (e : X.K = K) : IxR X (rIxT K) := by
  subst e
  exact ix_tup
theorem pe_fld_K {X : Cx} {K : PySem.W.Frag} (e : X.K = K) {o : Expr} {ta : TE} {f : Str} {pos : Pos} (ha : PE X o ta) (hb : attributeBase o f X.env (eval o X.env) = eval o X.env) : PE X (.Attribute o f pos) (tFld K ta f) := by
  subst e
  exact pe_fld ha hb
theorem ix_list_K {X : Cx} {K : PySem.W.Frag} (e : X.K = K) : IxR X (rIxL K) := by
  subst e
  exact ix_list
theorem op_catA_K {X : Cx} {K : PySem.W.Frag} (e : X.K = K) : OpR X (binaryOp .Add) (rCatA K) := by
  subst e
  exact op_catA
def rTupK (K : PySem.W.Frag) : List V → Hp → VK → Prop := fun xs H Q => ∃ p ys, xs = [V.ref p] ∧ ((SqL K H p ys ∧ ∀ l, H l = none → Q (.ref l) (upd H l (.tup ys))) ∨ (SqT K H p ys ∧ Q (.ref p) H))
theorem call_tuple_K {X : Cx} {K : PySem.W.Frag} (e : X.K = K) : CallR X (.type "tuple") (rTupK K) := by
  subst e
  exact call_tuple_of
def rListK (K : PySem.W.Frag) : List V → Hp → VK → Prop := fun xs H Q => ∃ p ys, xs = [V.ref p] ∧ (SqL K H p ys ∨ SqT K H p ys) ∧ ∀ l, H l = none → Q (.ref l) (upd H l (.lst ys))
theorem call_list_K {X : Cx} {K : PySem.W.Frag} (e : X.K = K) : CallR X (.type "list") (rListK K) := by
  subst e
  exact call_list_of
def rLenK (K : PySem.W.Frag) : List V → Hp → VK → Prop := fun xs H Q => ∃ p ys, xs = [V.ref p] ∧ (SqL K H p ys ∨ SqT K H p ys) ∧ Q (.int (ys.length : Nat)) H
theorem call_len_K {X : Cx} {K : PySem.W.Frag} (e : X.K = K) : CallR X (.builtin "len") (rLenK K) := by
  subst e
  exact call_len_seq
theorem call_min_K {X : Cx} {K : PySem.W.Frag} (e : X.K = K) (hc : X.calm = true) : CallR X (.builtin "min") (rMin K) := by
  subst e
  exact cr_min hc
theorem call_max_K {X : Cx} {K : PySem.W.Frag} (e : X.K = K) (hc : X.calm = true) : CallR X (.builtin "max") (rMax K) := by
  subst e
  exact cr_max hc
theorem call_sum_K {X : Cx} {K : PySem.W.Frag} (e : X.K = K) (hc : X.calm = true) : CallR X (.builtin "sum") (rSum K) := by
  subst e
  exact cr_sum hc
theorem mt_index_K {X : Cx} {K : PySem.W.Frag} (e : X.K = K) : MtR X "list.index" (rIndex K) := by
  subst e
  exact mt_index
theorem hu65 {k : Nat} {A : Around} (hr : Room k A) : A.units + 65 < cLine := by have := hr.un; omega
theorem putF_len (f : Str) (v : V) : ∀ fs : List (Str × V), (putF f v fs).length ≤ fs.length + 1
  | [] => Nat.le_refl _
  | (g, u) :: r => by
    rw [putF]
    split
    · exact Nat.le_succ _
    · exact Nat.succ_le_succ (putF_len f v r)
theorem Same.upd0 {H H' : Hp} {a : Addr} {o : HO} (n : H a = none) (s : Same (upd H a o) H') : Same H H' := (Same.new n).trans s
theorem Same.at {H H' : Hp} {a : Addr} {o : HO} (s : Same (upd H a o) H') : H' a = some o := s a o upd_same
/-- a comprehension whose turns leave what was: of the turns i with p i the value ys i -/
theorem lc_fl {J : L2.It} {n : Nat} {G : Hp → Prop} {Y : Nat → Hp → V → Hp → Prop} (w : Walk J n G Y) (p : Nat → Bool) (ys : Nat → V) (hn : n < sizeLine) {g : TG} {tt : TT} {te : TE} {vs : List Nat} {σ : L2.St} {H1 : Hp} {D : Addr} {Qd : Hp → Prop} (hD : H1 D = none)
    (hG : ∀ H, Same H1 H → G H)
    (hs : ∀ i x H H' (N : VK) (M : Hp → Prop), i < n → Same H1 H → Y i H x H' → (p i = true → ∀ H4, Same H H4 → N (ys i) H4) → (p i = false → ∀ H4, Same H H4 → M H4) →
      g x (wipe σ vs) H' fun σ2 H2 => wipe σ2 vs = wipe σ vs ∧ tt σ2 H2 fun b H3 => if b = true then te σ2 H3 N else M H3)
    (hd : ∀ H, Same H1 H → H D = some (.lst (((List.range n).filter p).map ys)) → Qd H) :
    ∃ W : Nat → Nat → Hp → Prop, (∃ m, W 0 m (upd H1 D (.lst []))) ∧ ∀ i m H, W i m H →
      (J.stop i H ∧ Qd H) ∨ (J.go i H ∧ ∃ Nx : Hp → Prop, (∀ H', Nx H' → ∃ m', m' < m ∧ W (i + 1) m' H') ∧ ∀ x H', J.yld i H x H' → g x (wipe σ vs) H' fun σ2 H2 => wipe σ2 vs = wipe σ vs ∧ tt σ2 H2 fun b H3 =>
        if b = true then te σ2 H3 fun y H4 => ∃ acc, H4 D = some (.lst acc) ∧ acc.length < sizeLine ∧ Nx (upd H4 D (.lst (acc ++ [y]))) else Nx H3) := by
  have pre : ∀ i, (((List.range i).filter p).map ys).length ≤ i := fun i => by
    rw [List.length_map]
    exact Nat.le_trans (List.length_filter_le _ _) (by rw [List.length_range]; exact Nat.le_refl _)
  refine lc_it w (fun i H => Same H1 H ∧ H D = some (.lst (((List.range i).filter p).map ys))) ⟨Same.new hD, upd_same⟩ (fun i H _ h => hG H h.1) (fun i x H H' hi h y => ?_) fun H h => hd H h.1 h.2
  have st : ((List.range (i + 1)).filter p).map ys = ((List.range i).filter p).map ys ++ (if p i = true then [ys i] else []) := by
    rw [List.range_succ, List.filter_append, List.map_append]
    cases e : p i <;> simp [List.filter, e]
  refine hs i x H H' _ _ hi h.1 y (fun e H4 s4 => ?_) fun e H4 s4 => ?_
  · refine ⟨_, s4 _ _ h.2, Nat.lt_of_le_of_lt (pre i) (Nat.lt_trans hi hn), Same.over (h.1.trans s4) hD, ?_⟩
    rw [upd_same, st, if_pos e]
  · refine ⟨h.1.trans s4, ?_⟩
    rw [s4 _ _ h.2, st, e, if_neg (by decide), List.append_nil]
theorem filter_all {α : Type} (xs : List α) : xs.filter (fun _ => true) = xs := by
  induction xs with
  | nil => rfl
  | cons x r ih => simp [List.filter, ih]
/-- every turn gives a value -/
theorem lc_mk {J : L2.It} {n : Nat} {G : Hp → Prop} {Y : Nat → Hp → V → Hp → Prop} (w : Walk J n G Y) (ys : Nat → V) (hn : n < sizeLine) {g : TG} {te : TE} {vs : List Nat} {σ : L2.St} {H1 : Hp} {D : Addr} {Qd : Hp → Prop} (hD : H1 D = none)
    (hG : ∀ H, Same H1 H → G H)
    (hs : ∀ i x H H' (N : VK), i < n → Same H1 H → Y i H x H' → (∀ H4, Same H H4 → N (ys i) H4) → g x (wipe σ vs) H' fun σ2 H2 => wipe σ2 vs = wipe σ vs ∧ te σ2 H2 N)
    (hd : ∀ H, Same H1 H → H D = some (.lst ((List.range n).map ys)) → Qd H) :
    ∃ W : Nat → Nat → Hp → Prop, (∃ m, W 0 m (upd H1 D (.lst []))) ∧ ∀ i m H, W i m H →
      (J.stop i H ∧ Qd H) ∨ (J.go i H ∧ ∃ Nx : Hp → Prop, (∀ H', Nx H' → ∃ m', m' < m ∧ W (i + 1) m' H') ∧ ∀ x H', J.yld i H x H' → g x (wipe σ vs) H' fun σ2 H2 => wipe σ2 vs = wipe σ vs ∧ tYes σ2 H2 fun b H3 =>
        if b = true then te σ2 H3 fun y H4 => ∃ acc, H4 D = some (.lst acc) ∧ acc.length < sizeLine ∧ Nx (upd H4 D (.lst (acc ++ [y]))) else Nx H3) :=
  lc_fl w (fun _ => true) ys hn hD hG (fun i x H H' N M hi s y h1 _ => hs i x H H' N hi s y (h1 rfl)) (by rw [filter_all]; exact hd)
/-- every turn gives a new list, of the row i -/
theorem lc_new {J : L2.It} {n : Nat} {G : Hp → Prop} {Y : Nat → Hp → V → Hp → Prop} (w : Walk J n G Y) (row : Nat → List V) (hn : n < sizeLine) {g : TG} {te : TE} {vs : List Nat} {σ : L2.St} {H1 : Hp} {D : Addr} {Qd : Hp → Prop} (hD : H1 D = none)
    (hG : ∀ H, Same H1 H → G H)
    (hs : ∀ i x H H' (N : VK), i < n → Same H1 H → Y i H x H' → (∀ H4 q, Same H H4 → H q = none → H4 q = some (.lst (row i)) → N (.ref q) H4) → g x (wipe σ vs) H' fun σ2 H2 => wipe σ2 vs = wipe σ vs ∧ te σ2 H2 N)
    (hd : ∀ (H : Hp) (ts : List Addr), Same H1 H → H D = some (.lst (ts.map V.ref)) → ts.length = n → (∀ i t, ts[i]? = some t → H1 t = none ∧ t ≠ D ∧ H t = some (.lst (row i))) → Qd H) :
    ∃ W : Nat → Nat → Hp → Prop, (∃ m, W 0 m (upd H1 D (.lst []))) ∧ ∀ i m H, W i m H →
      (J.stop i H ∧ Qd H) ∨ (J.go i H ∧ ∃ Nx : Hp → Prop, (∀ H', Nx H' → ∃ m', m' < m ∧ W (i + 1) m' H') ∧ ∀ x H', J.yld i H x H' → g x (wipe σ vs) H' fun σ2 H2 => wipe σ2 vs = wipe σ vs ∧ tYes σ2 H2 fun b H3 =>
        if b = true then te σ2 H3 fun y H4 => ∃ acc, H4 D = some (.lst acc) ∧ acc.length < sizeLine ∧ Nx (upd H4 D (.lst (acc ++ [y]))) else Nx H3) := by
  refine lc_it w (fun i H => Same H1 H ∧ ∃ ts : List Addr, H D = some (.lst (ts.map V.ref)) ∧ ts.length = i ∧ ∀ j t, ts[j]? = some t → H1 t = none ∧ t ≠ D ∧ H t = some (.lst (row j))) ⟨Same.new hD, [], upd_same, rfl, fun j t e => by simp at e⟩ (fun i H _ h => hG H h.1) (fun i x H H' hi h y => ?_) fun H h => ?_
  · obtain ⟨s, ts, eD, el, et⟩ := h
    refine hs i x H H' _ hi s y fun H4 q s4 nq eq => ?_
    have qD : q ≠ D := fun z => by rw [z, eD] at nq; cases nq
    refine ⟨_, s4 _ _ eD, by rw [List.length_map, el]; exact Nat.lt_trans hi hn, Same.over (s.trans s4) hD, ts ++ [q], ?_, by rw [List.length_append, el]; rfl, fun j t ej => ?_⟩
    · rw [upd_same, List.map_append]
      rfl
    · rcases Nat.lt_trichotomy j ts.length with h1 | h1 | h1
      · rw [List.getElem?_append_left h1] at ej
        obtain ⟨f1, f2, f3⟩ := et j t ej
        exact ⟨f1, f2, by rw [upd_ne f2]; exact s4 _ _ f3⟩
      · subst h1
        have e2 : q = t := by simpa using ej
        subst e2
        refine ⟨?_, qD, by rw [upd_ne qD, el]; exact eq⟩
        cases z : H1 q with
        | none => rfl
        | some o => rw [s q o z] at nq; cases nq
      · rw [List.getElem?_eq_none (by rw [List.length_append, List.length_singleton]; omega)] at ej
        cases ej
  · obtain ⟨s, ts, eD, el, et⟩ := h
    exact hd H ts s eD el et
/-- the method m of the class C keeps sp, by k levels -/
structure Kmt (P : Program) (w : World) (K : PySem.W.Frag) (mg : Str → Option Value) (base : Heap) (C : Addr) (k : Nat) (m : Str) (ps : List Str) (sp : Sp) : Prop where
  ex : ∃ f fd, Meth K C m f ∧ FnOk P w K mg base CX0 k f fd ps sp ∧ Binds K fd ps []
  cl : Cls K C
theorem pe_mt {X : Cx} {k j : Nat} {C : Addr} {m : Str} {ps : List Str} {sp : Sp} {o e : Expr} {es : List Expr} {ta : TE} {t : TA} {apos pos : Pos} {pl : Sem Bool} (c : Kmt X.prog X.w X.K X.mg X.base C k m ps sp) (hr : Room j X.A) (he : PE X o ta) (ha : PA X (e :: es) t) (hk : k ≤ j := by decide)
    (hst : starEach (e :: es) X.env = (false, eval e X.env) :: starEach es X.env := by rfl) (hpl : (backTo pos (starEach es X.env)).any (·.1) = false := by rfl)
    (ht : eval (.Call (.Attribute o m apos) (e :: es) [] pos) X.env = (do
      let ov ← eval o X.env; standAt apos.atName
      let (f, first) ← holding [ov] (getMethod ov m pl)
      callWith pos f first (backTo pos (starEach (e :: es) X.env)) (backToKw pos (keywordEach [] X.env))) := by rfl) :
    PE X (.Call (.Attribute o m apos) (e :: es) [] pos) (tMeth C m sp [] E0 ta t) := by
  obtain ⟨f, fd, hm, F, b⟩ := c.ex
  exact pe_meth he c.cl hm F (hr.mono hk) b .nil pass0 ha hst hpl ht
theorem pi_list_K {X : Cx} {K : PySem.W.Frag} (eK : X.K = K) {tg l : Expr} {tl : TE} (h : PE X l tl) : PI X tg l (iList K tl) := by
  subst eK
  exact pi_list h
theorem pi_zip_K {X : Cx} {K : PySem.W.Frag} (eK : X.K = K) {e e2 : Expr} {ta : TA} {p pos tpos : Pos} {elts : List Expr} {kk : Nat} (hg : Gl X "zip") (hm : X.mg "zip" = none) (ha : PA X [e, e2] ta)
    (hs : starEach [e, e2] X.env = (false, eval e X.env) :: starEach [e2] X.env := by rfl) (hpl : (backTo pos (starEach [e2] X.env)).any (·.1) = false := by rfl) :
    PI X (.Tuple elts kk tpos) (.Call (.Name "zip" p) [e, e2] [] pos) (iZip K ta) := by
  subst eK
  exact pi_zip hg hm ha hs hpl
theorem sqt_same {K : PySem.W.Frag} {H H' : Hp} {t : Addr} {xs : List V} (s : Same H H') (e : SqT K H t xs) : SqT K H' t xs := by
  rcases e with (h | ⟨o, h⟩) | h
  · exact .inl (.inl (s _ _ h))
  · exact .inl (.inr ⟨o, s _ _ h⟩)
  · exact .inr h
theorem pe_mt0 {X : Cx} {k j : Nat} {C : Addr} {m : Str} {ps : List Str} {sp : Sp} {o : Expr} {ta : TE} {apos pos : Pos} {pl : Sem Bool} (c : Kmt X.prog X.w X.K X.mg X.base C k m ps sp) (hr : Room j X.A) (he : PE X o ta) (hk : k ≤ j := by decide)
    (ht : eval (.Call (.Attribute o m apos) [] [] pos) X.env = (do
      let ov ← eval o X.env; standAt apos.atName
      let (f, first) ← holding [ov] (getMethod ov m pl)
      callWith pos f first (backTo pos (starEach [] X.env)) (backToKw pos (keywordEach [] X.env))) := by rfl) :
    PE X (.Call (.Attribute o m apos) [] [] pos) (tMeth C m sp [] E0 ta tNil) := by
  obtain ⟨f, fd, hm, F, b⟩ := c.ex
  exact pe_meth0 he c.cl hm F (hr.mono hk) b .nil pass0 ht
/-- the class C is made by an __init__ that keeps sp, by k levels -/
structure Kmk (P : Program) (w : World) (K : PySem.W.Frag) (mg : Str → Option Value) (base : Heap) (C : Addr) (k : Nat) (ps : List Str) (sp : Sp) : Prop where
  ex : ∃ f fd, Mk K C f ∧ FnOk P w K mg base CX0 k f fd ps sp ∧ Binds K fd ps []
theorem pe_mk {X : Cx} {k j : Nat} {C : Addr} {x : Str} {ps : List Str} {sp : Sp} {e : Expr} {es : List Expr} {t : TA} {p pos : Pos} (c : Kmk X.prog X.w X.K X.mg X.base C k ps sp) (hm : X.mg x = some (.ref C)) (hr : Room j X.A) (ha : PA X (e :: es) t) (hk : k + 1 ≤ j := by decide) (hg : Gl X x := by rfl)
    (hdb : (x == ("__debug__" : Str)) = false := by decide) (he : starEach (e :: es) X.env = (false, eval e X.env) :: starEach es X.env := by rfl) (hpl : (backTo pos (starEach es X.env)).any (·.1) = false := by rfl) :
    PE X (.Call (.Name x p) (e :: es) [] pos) (tMake C sp [] E0 t) := by
  obtain ⟨f, fd, M, F, b⟩ := c.ex
  exact pe_make M F (hr.mono hk) hg hm b .nil pass0 ha hdb he hpl
end Ow
/-! zip and enumerate over lists and tuples, in any mixture: a flag tells which -/
namespace Zg
open PySem PySem.Spec PyProof.Rows L2 Ow
/-- the items at l: of a tuple (true) or of a list (false) -/
def Sq1 : Bool → Heap → Addr → Array Value → Prop
  | true, h, l, xs => h.IsTuple l xs
  | false, h, l, xs => h.IsList l xs
/-- the iterator it of l, at turn k -/
def It1 : Bool → Heap → Addr → Addr → Nat → Prop
  | true, h, i, l, k => h.IsTupleIter i l k
  | false, h, i, l, k => h.IsListIter i l k
def nmIt : Bool → String
  | true => "tuple_iterator"
  | false => "list_iterator"
/-- a new iterator of l -/
def itOb (t : Bool) (l : Addr) : Obj := { cls := .type (nmIt t), data := .fields #[.ref l, .int 0 0] }
theorem It1.keep {t : Bool} {h h' : Heap} {i l : Addr} {k : Nat} (g : It1 t h i l k) (e : ∀ o, h.get? i = some o → h'.get? i = some o) : It1 t h' i l k := by
  cases t
  · exact Heap.IsListIter.at g e
  · exact Heap.IsTupleIter.at g e
theorem Sq1.keep {t : Bool} {h h' : Heap} {l : Addr} {xs : Array Value} (g : Sq1 t h l xs) (e : ∀ o, h.get? l = some o → h'.get? l = some o) : Sq1 t h' l xs := by
  cases t
  · exact Heap.IsList.at g e
  · obtain ⟨o, a, b⟩ := g
    exact ⟨o, e o a, b⟩
theorem It1.ob {t : Bool} {h : Heap} {i l : Addr} {k : Nat} (g : It1 t h i l k) : ∃ o, h.get? i = some o ∧ o.data = .fields #[.ref l, rawInt k] := by
  cases t
  · obtain ⟨o, a, _, b⟩ := g
    exact ⟨o, a, b⟩
  · obtain ⟨o, a, _, b⟩ := g
    exact ⟨o, a, b⟩
theorem It1.lt {t : Bool} {h : Heap} {i l : Addr} {k : Nat} (g : It1 t h i l k) : i < h.objs.size := by
  obtain ⟨o, a, _⟩ := g.ob
  exact Heap.lt_size a
theorem It1.new {t : Bool} {h : Heap} {i l : Addr} (e : h.get? i = some (itOb t l)) : It1 t h i l 0 := by
  cases t
  · exact ⟨_, e, rfl, rfl⟩
  · exact ⟨_, e, rfl, rfl⟩
section
variable {prog : Program} {w : World} {A : Around} {E : Value → Shared → Prop} {s : Shared}
theorem draw {t : Bool} {i l : Addr} {k : Nat} {xs : Array Value} {x : Value} {Q : Value → Shared → Prop} (g : It1 t s.heap i l k) (f : Sq1 t s.heap l xs) (e : xs[k]? = some x)
    (q : ∀ h', It1 t h' i l (k + 1) → Heap.SameBut i s.heap h' → Q x { s with heap := h' }) : wpAny (model prog w) A (Builtin.SmallTypes.nextOf (.ref i)) Q E s := by
  cases t
  · exact wpAny_nextOf_list_item g f e q
  · exact RZ.nextOf_tuple_item g f e q
theorem drawEnd {t : Bool} {i l : Addr} {k : Nat} {xs : Array Value} {Q : Value → Shared → Prop} (hh : A.handled = none) (g : It1 t s.heap i l k) (f : Sq1 t s.heap l xs) (e : xs[k]? = none)
    (q : ∀ h' u, Heap.ExtBut i s.heap h' → (∃ o, h'.get? u = some o ∧ o.cls = .type "StopIteration") → E (.ref u) { s with heap := h' }) : wpAny (model prog w) A (Builtin.SmallTypes.nextOf (.ref i)) Q E s := by
  cases t
  · exact wpAny_nextOf_list_end hh g f e q
  · exact RZ.nextOf_tuple_end hh g f e q
theorem iter1 {t : Bool} {l : Addr} {xs : Array Value} {Q : Value → Shared → Prop} (f : Sq1 t s.heap l xs) (q : Q (.ref s.heap.objs.size) { s with heap := s.heap.push (itOb t l) }) : wpAny (model prog w) A (pyIter (.ref l)) Q E s := by
  cases t
  · exact wpAny_pyIter_list f q
  · exact wpAny_pyIter_tuple f q
/-! ### zip -/
theorem zg_item {t u : Bool} {z TI TO i1 i2 l1 l2 : Addr} {k1 k2 : Nat} {xs ys : Array Value} {x y a b : Value} {Q : Value → Shared → Prop} (D : ZipApart z TI TO i1 i2 l1 l2) (hz : IsZip s.heap z TI TO .none) (hTI : IsPair s.heap TI (.ref i1) (.ref i2)) (hTO : IsPair s.heap TO a b)
    (g1 : It1 t s.heap i1 l1 k1) (g2 : It1 u s.heap i2 l2 k2) (f1 : Sq1 t s.heap l1 xs) (f2 : Sq1 u s.heap l2 ys) (hx : xs[k1]? = some x) (hy : ys[k2]? = some y)
    (hQ : ∀ h', IsZip h' z TI TO (rawInt s.heap.objs.size) → IsPair h' TO x y → It1 t h' i1 l1 (k1 + 1) → It1 u h' i2 l2 (k2 + 1) → IsPair h' s.heap.objs.size x y → h'.objs.size = s.heap.objs.size + 1 → (∀ c o, c ≠ z → c ≠ TO → c ≠ i1 → c ≠ i2 → s.heap.get? c = some o → h'.get? c = some o) → Q (.ref s.heap.objs.size) { s with heap := h' }) :
    wpAny (model prog w) A (Builtin.«zip.__next__» ⟨[.ref z], []⟩) (fun fin s' => ∃ v, fin = .done (.ret v) ∧ Q v s') E s := by
  show wpAny _ _ (field (.ref z) 2 >>= _) _ _ _
  refine wpAny_bind (wpAny_field hz rfl (x := .bool false) rfl (?_ : wpAny _ _ (field (.ref z) 3 >>= _) _ _ _))
  refine wpAny_bind (wpAny_field hz rfl (x := .ref TI) rfl (wpAny_bind (wpAny_seqItems hTI rfl (?_ : wpAny _ _ (Builtin.SmallTypes.ownedTupleIsFree (.ref z) >>= _) _ _ _))))
  refine wpAny_bind ?_
  unfold Builtin.SmallTypes.ownedTupleIsFree
  refine wpAny_bind (wpAny_field hz rfl (x := .none) rfl (wpAny_pure ?_))
  simp only [if_true]
  refine wpAny_bind (wpAny_rule (wpAny_bind (wpAny_field hz rfl (x := .ref TO) rfl (wpAny_bind (wpAny_setField_rec hz (by simp) fun ha za sa => ?_)))))
  replace za : IsZip ha z TI TO .ellipsis := za
  refine wpAny_bind ?_
  simp only [List.zipIdx_cons, List.zipIdx_nil, List.forIn_cons, List.forIn_nil]
  refine wpAny_bind (wpAny_bind (wpAny_onRaise (?_ : wpAny _ _ (Builtin.SmallTypes.nextOf (.ref i1) >>= _) _ _ _)))
  refine wpAny_bind (draw (g1.keep fun o => sa.extBut _ o D.i1z) (f1.keep fun o => sa.extBut _ o D.l1z) hx fun hb gb sb => wpAny_pure ?_)
  have pb : IsPair hb TO a b := sb.extBut _ _ D.TOi1 (sa.extBut _ _ D.TOz hTO)
  refine wpAny_bind (wpAny_seqItems pb rfl (wpAny_bind (wpAny_updateSeq_pair pb fun hc pc sc => ?_)))
  replace pc : IsPair hc TO x b := pc
  refine wpAny_bind (wpAny_letGo (wpAny_pure ?_))
  refine wpAny_bind (wpAny_bind (wpAny_onRaise (?_ : wpAny _ _ (Builtin.SmallTypes.nextOf (.ref i2) >>= _) _ _ _)))
  refine wpAny_bind (draw (g2.keep fun o e => sc.extBut _ o D.TOi2.symm (sb.extBut _ o D.i12.symm (sa.extBut _ o D.i2z e))) (f2.keep fun o e => sc.extBut _ o D.l2TO (sb.extBut _ o D.l2i1 (sa.extBut _ o D.l2z e))) hy fun hd gd sd => wpAny_pure ?_)
  have pd : IsPair hd TO x b := sd.extBut _ _ D.TOi2 pc
  refine wpAny_bind (wpAny_seqItems pd rfl (wpAny_bind (wpAny_updateSeq_pair pd fun he pe se => ?_)))
  replace pe : IsPair he TO x y := pe
  refine wpAny_bind (wpAny_letGo (wpAny_pure (wpAny_pure ?_)))
  refine wpAny_bind (wpAny_seqItems pe rfl (wpAny_bind (wpAny_newTuple ?_)))
  have n5 : he.objs.size = s.heap.objs.size := by rw [se.1, sd.1, sc.1, sb.1, sa.1]
  have ze : IsZip he z TI TO .ellipsis := se.extBut _ _ D.TOz.symm (sd.extBut _ _ D.i2z.symm (sc.extBut _ _ D.TOz.symm (sb.extBut _ _ D.i1z.symm za)))
  have ke : ∀ c o, c ≠ z → c ≠ TO → c ≠ i1 → c ≠ i2 → s.heap.get? c = some o → he.get? c = some o := fun c o c1 c2 c3 c4 e => se.extBut _ _ c2 (sd.extBut _ _ c4 (sc.extBut _ _ c2 (sb.extBut _ _ c3 (sa.extBut _ _ c1 e))))
  have g1e : It1 t he i1 l1 (k1 + 1) := gb.keep fun o e => se.extBut _ o D.TOi1.symm (sd.extBut _ o D.i12 (sc.extBut _ o D.TOi1.symm e))
  have g2e : It1 u he i2 l2 (k2 + 1) := gd.keep fun o e => se.extBut _ o D.TOi2.symm e
  have zlt : z < he.objs.size := Heap.lt_size ze
  show wpAny _ _ (Builtin.SmallTypes.ownedTupleHandOut (.ref z) (.ref he.objs.size) >>= _) _ _ _
  refine wpAny_bind ?_
  unfold Builtin.SmallTypes.ownedTupleHandOut
  have z6 : IsZip (he.push { cls := .type "tuple", data := .seq #[x, y] }) z TI TO .ellipsis := Heap.get?_push_of_some _ ze
  refine wpAny_bind (wpAny_setField_rec z6 (by simp) fun h7 z7 s7 => ?_)
  replace z7 : IsZip h7 z TI TO (rawInt he.objs.size) := z7
  refine wpAny_setField_rec z7 (by simp) fun h8 z8 s8 => ?_
  replace z8 : IsZip h8 z TI TO (rawInt he.objs.size) := z8
  have up : ∀ c o, c ≠ z → he.get? c = some o → h8.get? c = some o := fun c o c1 e => s8.extBut _ _ c1 (s7.extBut _ _ c1 (Heap.get?_push_of_some _ e))
  have t8 : IsPair h8 he.objs.size x y := s8.extBut _ _ (Nat.ne_of_gt zlt) (s7.extBut _ _ (Nat.ne_of_gt zlt) (Heap.get?_push_size _ rfl))
  have n8 : h8.objs.size = he.objs.size + 1 := by rw [s8.1, s7.1, Heap.size_push]
  rw [n5] at z8 t8 n8
  refine wpAny_pure ⟨_, rfl, (?_ : Q (.ref he.objs.size) _)⟩
  rw [n5]
  exact hQ h8 z8 (up _ _ D.TOz pe) (g1e.keep fun o e => up _ o D.i1z e) (g2e.keep fun o e => up _ o D.i2z e) t8 n8 fun c o c1 c2 c3 c4 e => up c o c1 (ke c o c1 c2 c3 c4 e)
theorem zg_end {t u : Bool} {z TI TO i1 i2 l1 l2 : Addr} {k1 k2 : Nat} {xs ys : Array Value} {a b : Value} {Q : Fin → Shared → Prop} (hh : A.handled = none) (D : ZipApart z TI TO i1 i2 l1 l2) (hz : IsZip s.heap z TI TO .none) (hTI : IsPair s.heap TI (.ref i1) (.ref i2)) (hTO : IsPair s.heap TO a b)
    (g1 : It1 t s.heap i1 l1 k1) (g2 : It1 u s.heap i2 l2 k2) (f1 : Sq1 t s.heap l1 xs) (f2 : Sq1 u s.heap l2 ys) (hend : xs[k1]? = none ∨ ys[k2]? = none)
    (hE : ∀ h' e, (∀ c o, c ≠ z → c ≠ TO → c ≠ i1 → c ≠ i2 → s.heap.get? c = some o → h'.get? c = some o) → (∃ o, h'.get? e = some o ∧ o.cls = .type "StopIteration") → E (.ref e) { s with heap := h' }) :
    wpAny (model prog w) A (Builtin.«zip.__next__» ⟨[.ref z], []⟩) Q E s := by
  show wpAny _ _ (field (.ref z) 2 >>= _) _ _ _
  refine wpAny_bind (wpAny_field hz rfl (x := .bool false) rfl (?_ : wpAny _ _ (field (.ref z) 3 >>= _) _ _ _))
  refine wpAny_bind (wpAny_field hz rfl (x := .ref TI) rfl (wpAny_bind (wpAny_seqItems hTI rfl (?_ : wpAny _ _ (Builtin.SmallTypes.ownedTupleIsFree (.ref z) >>= _) _ _ _))))
  refine wpAny_bind ?_
  unfold Builtin.SmallTypes.ownedTupleIsFree
  refine wpAny_bind (wpAny_field hz rfl (x := .none) rfl (wpAny_pure ?_))
  simp only [if_true]
  refine wpAny_bind (wpAny_rule (wpAny_bind (wpAny_field hz rfl (x := .ref TO) rfl (wpAny_bind (wpAny_setField_rec hz (by simp) fun ha za sa => ?_)))))
  replace za : IsZip ha z TI TO .ellipsis := za
  refine wpAny_bind ?_
  simp only [List.zipIdx_cons, List.zipIdx_nil, List.forIn_cons, List.forIn_nil]
  refine wpAny_bind (wpAny_bind (wpAny_onRaise (?_ : wpAny _ _ (Builtin.SmallTypes.nextOf (.ref i1) >>= _) _ _ _)))
  cases hx : xs[k1]? with
  | none =>
    refine wpAny_bind (drawEnd hh (g1.keep fun o => sa.extBut _ o D.i1z) (f1.keep fun o => sa.extBut _ o D.l1z) hx fun hb e sb he => ?_)
    obtain ⟨oe, eo, ec⟩ := he
    have zb : IsZip hb z TI TO .ellipsis := sb _ _ D.i1z.symm za
    have ez : e ≠ z := fun x => by subst x; rw [zb] at eo; cases eo; simp at ec
    exact wpAny_setField_rec zb (by simp) fun hc _ sc => hE hc e (fun c o c1 _ c3 _ x => sc.extBut _ _ c1 (sb _ _ c3 (sa.extBut _ _ c1 x))) ⟨oe, sc.extBut _ _ ez eo, ec⟩
  | some x =>
    have hy : ys[k2]? = none := by rcases hend with h | h; rw [hx] at h; cases h; exact h
    refine wpAny_bind (draw (g1.keep fun o => sa.extBut _ o D.i1z) (f1.keep fun o => sa.extBut _ o D.l1z) hx fun hb gb sb => wpAny_pure ?_)
    have pb : IsPair hb TO a b := sb.extBut _ _ D.TOi1 (sa.extBut _ _ D.TOz hTO)
    refine wpAny_bind (wpAny_seqItems pb rfl (wpAny_bind (wpAny_updateSeq_pair pb fun hc pc sc => ?_)))
    refine wpAny_bind (wpAny_letGo (wpAny_pure ?_))
    refine wpAny_bind (wpAny_bind (wpAny_onRaise (?_ : wpAny _ _ (Builtin.SmallTypes.nextOf (.ref i2) >>= _) _ _ _)))
    refine wpAny_bind (drawEnd hh (g2.keep fun o e => sc.extBut _ o D.TOi2.symm (sb.extBut _ o D.i12.symm (sa.extBut _ o D.i2z e))) (f2.keep fun o e => sc.extBut _ o D.l2TO (sb.extBut _ o D.l2i1 (sa.extBut _ o D.l2z e))) hy fun hd e sd he => ?_)
    obtain ⟨oe, eo, ec⟩ := he
    have zd : IsZip hd z TI TO .ellipsis := sd _ _ D.i2z.symm (sc.extBut _ _ D.TOz.symm (sb.extBut _ _ D.i1z.symm za))
    have ez : e ≠ z := fun x => by subst x; rw [zd] at eo; cases eo; simp at ec
    exact wpAny_setField_rec zd (by simp) fun hf _ sf => hE hf e (fun c o c1 c2 c3 c4 x => sf.extBut _ _ c1 (sd _ _ c4 (sc.extBut _ _ c2 (sb.extBut _ _ c3 (sa.extBut _ _ c1 x))))) ⟨oe, sf.extBut _ _ ez eo, ec⟩
theorem zg_next {t u : Bool} {z TI TO i1 i2 l1 l2 : Addr} {k1 k2 : Nat} {xs ys : Array Value} {x y a b : Value} {Q : Option Value → Shared → Prop} (D : ZipApart z TI TO i1 i2 l1 l2) (hz : IsZip s.heap z TI TO .none) (hTI : IsPair s.heap TI (.ref i1) (.ref i2)) (hTO : IsPair s.heap TO a b)
    (g1 : It1 t s.heap i1 l1 k1) (g2 : It1 u s.heap i2 l2 k2) (f1 : Sq1 t s.heap l1 xs) (f2 : Sq1 u s.heap l2 ys) (hx : xs[k1]? = some x) (hy : ys[k2]? = some y)
    (hQ : ∀ h', IsZip h' z TI TO (rawInt s.heap.objs.size) → IsPair h' TO x y → It1 t h' i1 l1 (k1 + 1) → It1 u h' i2 l2 (k2 + 1) → IsPair h' s.heap.objs.size x y → h'.objs.size = s.heap.objs.size + 1 → (∀ c o, c ≠ z → c ≠ TO → c ≠ i1 → c ≠ i2 → s.heap.get? c = some o → h'.get? c = some o) → Q (some (.ref s.heap.objs.size)) { s with heap := h' }) :
    wpAny (model prog w) A (pyNext (.ref z)) Q E s := by
  have T : s.TypeIs (.ref z) "zip" := ⟨_, hz, rfl⟩
  unfold pyNext
  exact wpAny_bind (wpAny_attempt (wpAny_callSpecial?_slot (name := Str.ofString "__next__") T F.slot_zip_next (wpAny_call_entry F.slot_zip_next T F.entry_zip_next
      (zg_item D hz hTI hTO g1 g2 f1 f2 hx hy fun h' a1 a2 a3 a4 a5 a6 a7 => wpAny_pure (hQ h' a1 a2 a3 a4 a5 a6 a7)) (F.args_zip_next_1 _))))
theorem zg_none {t u : Bool} {z TI TO i1 i2 l1 l2 : Addr} {k1 k2 : Nat} {xs ys : Array Value} {a b : Value} {Q : Option Value → Shared → Prop} (hh : A.handled = none) (D : ZipApart z TI TO i1 i2 l1 l2) (hz : IsZip s.heap z TI TO .none) (hTI : IsPair s.heap TI (.ref i1) (.ref i2)) (hTO : IsPair s.heap TO a b)
    (g1 : It1 t s.heap i1 l1 k1) (g2 : It1 u s.heap i2 l2 k2) (f1 : Sq1 t s.heap l1 xs) (f2 : Sq1 u s.heap l2 ys) (hend : xs[k1]? = none ∨ ys[k2]? = none)
    (hQ : ∀ h', (∀ c o, c ≠ z → c ≠ TO → c ≠ i1 → c ≠ i2 → s.heap.get? c = some o → h'.get? c = some o) → Q none { s with heap := h' }) : wpAny (model prog w) A (pyNext (.ref z)) Q E s := by
  have T : s.TypeIs (.ref z) "zip" := ⟨_, hz, rfl⟩
  unfold pyNext
  refine wpAny_bind (wpAny_attempt (wpAny_callSpecial?_slot (name := Str.ofString "__next__") T F.slot_zip_next (wpAny_call_entry F.slot_zip_next T F.entry_zip_next (zg_end hh D hz hTI hTO g1 g2 f1 f2 hend fun h' e hk he => ?_) (F.args_zip_next_1 _))))
  obtain ⟨o, eo, ec⟩ := he
  exact wpAny_bind (wpAny_isInstance (T := "StopIteration") (b := true) ⟨o, eo, ec⟩ isSubtype_stop (wpAny_pure (hQ _ hk)))
end
abbrev zgA (t : Bool) (h : Heap) (l1 : Addr) : Heap := h.push (itOb t l1)
abbrev zgB (t u : Bool) (h : Heap) (l1 l2 : Addr) : Heap := (zgA t h l1).push (itOb u l2)
abbrev zgC (t u : Bool) (h : Heap) (l1 l2 : Addr) : Heap := (zgB t u h l1 l2).push { cls := .type "tuple", data := .seq #[.ref h.objs.size, .ref (zgA t h l1).objs.size] }
abbrev zgD (t u : Bool) (h : Heap) (l1 l2 : Addr) : Heap := (zgC t u h l1 l2).push { cls := .type "tuple", data := .seq #[.none, .none] }
abbrev zgE (t u : Bool) (h : Heap) (l1 l2 : Addr) : Heap := (zgD t u h l1 l2).push { cls := .type "zip", data := .fields #[.none, .bool false, .bool false, .ref (zgB t u h l1 l2).objs.size, .ref (zgC t u h l1 l2).objs.size] }
theorem zg_new (t u : Bool) (l1 l2 : Addr) (xs ys : Array Value) : Meets (Builtin.«zip.__new__» ⟨[.type "zip", .ref l1, .ref l2], []⟩) (fun _ R s => Sq1 t s.heap l1 xs ∧ Sq1 u s.heap l2 ys ∧
      R (.ok (.ret (.ref (zgD t u s.heap l1 l2).objs.size))) { s with heap := zgE t u s.heap l1 l2 }) :=
  .of_wp fun prog w A R s h => by
    obtain ⟨hp, g, d, tk, os⟩ := s
    obtain ⟨f1, f2, h⟩ := h
    have hsub := sub_zip
    have e1 : Sq1 t (Shared.heap ⟨hp, g, d, tk, os⟩) l1 xs := f1
    have e2 : Sq1 u (Shared.heap ⟨hp.push (itOb t l1), g, d, tk, os⟩) l2 ys := f2.keep fun o e => Heap.get?_push_of_some _ e
    wp_walk using iter1 e1, iter1 e2
    exact ⟨_, rfl, h⟩
section
variable {prog : Program} {w : World} {A : Around} {E : Value → Shared → Prop} {s : Shared}
theorem zg_call {t u : Bool} {l1 l2 : Addr} {xs ys : Array Value} {Q : Value → Shared → Prop} (f1 : Sq1 t s.heap l1 xs) (f2 : Sq1 u s.heap l2 ys)
    (h : ∀ h', IsZip h' (s.heap.objs.size + 4) (s.heap.objs.size + 2) (s.heap.objs.size + 3) .none → IsPair h' (s.heap.objs.size + 2) (.ref s.heap.objs.size) (.ref (s.heap.objs.size + 1)) → IsPair h' (s.heap.objs.size + 3) .none .none → It1 t h' s.heap.objs.size l1 0 → It1 u h' (s.heap.objs.size + 1) l2 0 → h'.objs.size = s.heap.objs.size + 5 →
      (∀ c o, s.heap.get? c = some o → h'.get? c = some o) → Q (.ref (s.heap.objs.size + 4)) { s with heap := h' }) : wpAny (model prog w) A (call (.type "zip") [.ref l1, .ref l2]) Q E s := by
  refine callType_new F.called_zip (by decide) (F.typeCall_zip_2 _ _) (F.newCall_zip_2 _ _) (fun obj => F.args_object_init_3 obj _ _) F.entry_zip_new (zg_new t u l1 l2 xs ys) ⟨f1, f2, ?_⟩
  have n1 : (zgA t s.heap l1).objs.size = s.heap.objs.size + 1 := Heap.size_push ..
  have n2 : (zgB t u s.heap l1 l2).objs.size = s.heap.objs.size + 2 := by rw [Heap.size_push, n1]
  have n3 : (zgC t u s.heap l1 l2).objs.size = s.heap.objs.size + 3 := by rw [Heap.size_push, n2]
  have n4 : (zgD t u s.heap l1 l2).objs.size = s.heap.objs.size + 4 := by rw [Heap.size_push, n3]
  have n5 : (zgE t u s.heap l1 l2).objs.size = s.heap.objs.size + 5 := by rw [Heap.size_push, n4]
  have up : ∀ {h : Heap} {c : Addr} {o v : Obj}, h.get? c = some o → (h.push v).get? c = some o := fun e => Heap.get?_push_of_some _ e
  have m5 : (zgE t u s.heap l1 l2).get? (zgD t u s.heap l1 l2).objs.size = some _ := Heap.get?_push_size _ rfl
  have m4 : (zgE t u s.heap l1 l2).get? (zgC t u s.heap l1 l2).objs.size = some _ := up (Heap.get?_push_size _ rfl)
  have m3 : (zgE t u s.heap l1 l2).get? (zgB t u s.heap l1 l2).objs.size = some _ := up (up (Heap.get?_push_size _ rfl))
  have m2 : (zgE t u s.heap l1 l2).get? (zgA t s.heap l1).objs.size = some (itOb u l2) := up (up (up (Heap.get?_push_size _ rfl)))
  have m1 : (zgE t u s.heap l1 l2).get? s.heap.objs.size = some (itOb t l1) := up (up (up (up (Heap.get?_push_size _ rfl))))
  show _ ∧ _
  rw [n2, n3, n4] at m5
  rw [n1, n2] at m3
  rw [n3] at m4
  rw [n1] at m2
  rw [n4]
  exact ⟨⟨_, m5, rfl⟩, h _ m5 m3 m4 (.new m1) (.new m2) n5 fun c o x => up (up (up (up (up x))))⟩
end
/-! ### as rules of the hand layer -/
/-- the items at a by the heap's account: of a tuple (true) or a list -/
def SqB (K : PySem.W.Frag) : Bool → Hp → Addr → List V → Prop
  | true, H, a, xs => SqT K H a xs
  | false, H, a, xs => SqL K H a xs
theorem SqB.same {K : PySem.W.Frag} {t : Bool} {H H' : Hp} {a : Addr} {xs : List V} (s : Same H H') (h : SqB K t H a xs) : SqB K t H' a xs := by
  cases t
  · exact s.seq h
  · exact sqt_same s h
theorem sqb_heap {X : Cx} {pins : List (Addr × Obj)} {σ : L2.St} {H : Hp} {s : Shared} {t : Bool} {a : Addr} {xs : List V} (I : Inv X pins σ H s) (h : SqB X.K t H a xs) : ∃ its : List Value, Vals xs its ∧ Sq1 t s.heap a its.toArray ∧ a < s.heap.objs.size := by
  cases t
  · obtain ⟨its, r, p, _⟩ := I.list h
    exact ⟨its, r, p.isList, p.lt⟩
  · obtain ⟨its, r, p, _⟩ := I.tuple h
    obtain ⟨o, e, _⟩ := id p
    exact ⟨its, r, p, Heap.lt_size e⟩
theorem sqb_inj {X : Cx} {pins : List (Addr × Obj)} {σ : L2.St} {H : Hp} {s : Shared} {t : Bool} {a : Addr} {xs ys : List V} (I : Inv X pins σ H s) (h : SqB X.K t H a xs) (h' : SqB X.K t H a ys) : xs = ys := by
  cases t
  · exact I.list_inj h h'
  · exact I.tuple_inj h h'
def ItzG (K : PySem.W.Frag) (t u : Bool) (a b : Addr) : It :=
  ⟨fun i H => ∃ (xs ys : List V) (x y : V), SqB K t H a xs ∧ SqB K u H b ys ∧ xs[i]? = some x ∧ ys[i]? = some y,
    fun i H v H' => ∃ T x y, v = .ref T ∧ H T = none ∧ H' = upd H T (.tup [x, y]) ∧ (∀ xs, SqB K t H a xs → xs[i]? = some x) ∧ ∀ ys, SqB K u H b ys → ys[i]? = some y,
    fun i H => ∃ xs ys : List V, SqB K t H a xs ∧ SqB K u H b ys ∧ (xs.length ≤ i ∨ ys.length ≤ i)⟩
theorem turnG {P : Program} {w : World} {K : PySem.W.Frag} {elts : List Expr} {kk : Nat} {tpos : Pos} {t u : Bool} {a b z TI TO i1 i2 : Addr} (D : ZipApart z TI TO i1 i2 a b) :
    Turn P w K (.Tuple elts kk tpos) (ItzG K t u a b) [z, TI, TO, i1, i2] z (fun i h => IsZip h z TI TO .none ∧ IsPair h TI (.ref i1) (.ref i2) ∧ (∃ x y, IsPair h TO x y) ∧ It1 t h i1 a i ∧ It1 u h i2 b i) where
  mem := by simp
  obj := fun i h st c hc => by
    obtain ⟨hz, hTI, ⟨x, y, hTO⟩, g1, g2⟩ := st
    obtain ⟨o1, e1, d1⟩ := g1.ob
    obtain ⟨o2, e2, d2⟩ := g2.ob
    have e' : c = z ∨ c = TI ∨ c = TO ∨ c = i1 ∨ c = i2 := by simpa using hc
    rcases e' with q | q | q | q | q
    · rw [q]; exact ⟨_, hz, fun v e => nomatch e⟩
    · rw [q]; exact ⟨_, hTI, fun v e => nomatch e⟩
    · rw [q]; exact ⟨_, hTO, fun v e => nomatch e⟩
    · exact ⟨o1, by rw [q]; exact e1, fun v q => by rw [d1] at q; cases q⟩
    · exact ⟨o2, by rw [q]; exact e2, fun v q => by rw [d2] at q; cases q⟩
  keep := fun i h h' st k => by
    obtain ⟨hz, hTI, ⟨x, y, hTO⟩, g1, g2⟩ := st
    exact ⟨k z (by simp) _ hz, k TI (by simp) _ hTI, ⟨x, y, k TO (by simp) _ hTO⟩, g1.keep fun o q => k i1 (by simp) o q, g2.keep fun o q => k i2 (by simp) o q⟩
  item := by
    intro X hP hw hK hc i pins s σ H E I hf st hg
    subst hP hw hK
    obtain ⟨hz, hTI, ⟨x0, y0, hTO⟩, g1, g2⟩ := st
    obtain ⟨xs, ys, x, y, qx, qy, hx, hy⟩ := hg
    obtain ⟨it1, r1, p1, _⟩ := sqb_heap I qx
    obtain ⟨it2, r2, p2, _⟩ := sqb_heap I qy
    obtain ⟨v1, hv1, rv1⟩ := r1.get hx
    obtain ⟨v2, hv2, rv2⟩ := r2.get hy
    have zl : z < s.heap.objs.size := Heap.lt_size hz
    refine zg_next D hz hTI hTO g1 g2 p1 p2 (x := v1) (y := v2) (by simpa using hv1) (by simpa using hv2) fun h' z' TO' k1 k2 hT hsz hk => ⟨_, rfl, wpAny_letOwnedTupleGo_zip (s := { s with heap := h' }) z' fun h'' z'' sb => ?_⟩
    have hT2 : h''.get? s.heap.objs.size = some { cls := .type "tuple", data := .seq #[v1, v2] } := (sb.2 _ (Nat.ne_of_gt zl)).trans hT
    have new : ObjOk X.prog X.w (upd H s.heap.objs.size (.tup [x, y])) h'' s.heap.objs.size (.tup [x, y]) := ⟨by show 2 ≤ sizeLine; decide, [v1, v2], .cons rv1 (.cons rv2 .nil), ⟨_, hT2, rfl, _, rfl⟩⟩
    have I1 : Inv X pins σ (upd H s.heap.objs.size (.tup [x, y])) { s with heap := h'' } := I.turnedNew (t' := s.toks) (ch := [z, TI, TO, i1, i2]) (fun c o hb q => (sb.2 c (fun q' => hb (by simp [q']))).trans (hk c o (fun q' => hb (by simp [q'])) (fun q' => hb (by simp [q'])) (fun q' => hb (by simp [q'])) (fun q' => hb (by simp [q'])) q)) hf (Nat.le_refl _) new
    refine ⟨.ref s.heap.objs.size, _, I1, rfl, ⟨_, x, y, rfl, I.hok.fresh (Nat.le_refl _), rfl, fun l hl => by rw [sqb_inj I hl qx]; exact hx, fun l hl => by rw [sqb_inj I hl qy]; exact hy⟩,
      ⟨z'', (sb.2 _ D.TIz).trans (hk _ _ D.TIz D.TITO D.TIi1 D.TIi2 hTI), ⟨v1, v2, (sb.2 _ D.TOz).trans TO'⟩, k1.keep fun o q => (sb.2 _ D.i1z).trans q, k2.keep fun o q => (sb.2 _ D.i2z).trans q⟩, fun c hcm => ?_⟩
    have hlt : c < s.heap.objs.size := by
      have e' : c = z ∨ c = TI ∨ c = TO ∨ c = i1 ∨ c = i2 := by simpa using hcm
      rcases e' with q | q | q | q | q <;> rw [q]
      · exact zl
      · exact Heap.lt_size hTI
      · exact Heap.lt_size hTO
      · exact g1.lt
      · exact g2.lt
    rw [upd_ne (Nat.ne_of_lt hlt)]
    exact (hf c hcm).1
  done := by
    intro X hP hw hK hc i pins s σ H E I hf st hg
    subst hP hw hK
    obtain ⟨hz, hTI, ⟨x0, y0, hTO⟩, g1, g2⟩ := st
    obtain ⟨xs, ys, qx, qy, hend⟩ := hg
    obtain ⟨it1, r1, p1, _⟩ := sqb_heap I qx
    obtain ⟨it2, r2, p2, _⟩ := sqb_heap I qy
    have l1 := r1.length
    have l2 := r2.length
    have he : it1.toArray[i]? = none ∨ it2.toArray[i]? = none := by
      rcases hend with q | q
      · exact .inl (by simp; omega)
      · exact .inr (by simp; omega)
    exact zg_none (I.ok.hd hc) D hz hTI hTO g1 g2 p1 p2 he fun h' hk => ⟨rfl, I.turnedL (t' := s.toks) (ch := [z, TI, TO, i1, i2]) (fun c o hb q => hk c o (fun q' => hb (by simp [q'])) (fun q' => hb (by simp [q'])) (fun q' => hb (by simp [q'])) (fun q' => hb (by simp [q'])) q) hf⟩
  self := fun A i s Q E st h => wpAny_pyIter_zip st.1 h
def iZipG (K : PySem.W.Frag) (ta : TA) : TI := fun σ H R => ta σ H fun vs H1 => ∃ (t u : Bool) (a b : Addr) (xs ys : List V), vs = [.ref a, .ref b] ∧ SqB K t H1 a xs ∧ SqB K u H1 b ys ∧ R (ItzG K t u a b) H1
theorem pi_zipG {X : Cx} {K : PySem.W.Frag} (eK : X.K = K) {e e2 : Expr} {ta : TA} {p pos tpos : Pos} {elts : List Expr} {kk : Nat} (hg : Gl X "zip") (hm : X.mg "zip" = none) (ha : PA X [e, e2] ta)
    (hs : starEach [e, e2] X.env = (false, eval e X.env) :: starEach [e2] X.env := by rfl) (hpl : (backTo pos (starEach [e2] X.env)).any (·.1) = false := by rfl) : PI X (.Tuple elts kk tpos) (.Call (.Name "zip" p) [e, e2] [] pos) (iZipG K ta) := by
  subst eK
  refine ⟨fun pins s σ H R I h => ?_⟩
  refine Call_ (ld_blt I hg hm PyProof.Rows.boot_zip (PyProof.Rows.callWith_type1 (thn (ha.run pos pins s σ H _ I h) fun us s1 ⟨vs, H1, I1, r1, q1⟩ => ?_) hs hpl))
  obtain ⟨t, u, a, b, xs, ys, rfl, qx, qy, q⟩ := q1
  cases r1 with
  | cons r rr =>
    cases rr with
    | cons r' rr =>
      cases rr
      cases r
      cases r'
      obtain ⟨it1, v1, p1, lt1⟩ := sqb_heap I1 qx
      obtain ⟨it2, v2, p2, lt2⟩ := sqb_heap I1 qy
      refine zg_call p1 p2 fun h' hz hTI hTO g1 g2 hsz hk => wpAny_pyIter_zip hz ?_
      refine ⟨s1.heap.objs.size + 4, [s1.heap.objs.size + 4, s1.heap.objs.size + 2, s1.heap.objs.size + 3, s1.heap.objs.size, s1.heap.objs.size + 1], _, _, H1, rfl, I1.kept (t' := s1.toks) hk, turnG (PySem.W.ktu_apart s1.heap.objs.size a b lt1 lt2), ⟨hz, hTI, ⟨_, _, hTO⟩, g1, g2⟩, fun c hcm => ?_, q⟩
      have hle : s1.heap.objs.size ≤ c := by
        have e' : c = s1.heap.objs.size + 4 ∨ c = s1.heap.objs.size + 2 ∨ c = s1.heap.objs.size + 3 ∨ c = s1.heap.objs.size ∨ c = s1.heap.objs.size + 1 := by simpa using hcm
        rcases e' with z | z | z | z | z <;> rw [z] <;> omega
      exact I1.fpOk hle (I1.hok.fresh hle)
theorem walkG {K : PySem.W.Frag} {t u : Bool} {a b : Addr} {xs ys : List V} {n : Nat} (hn : n = min xs.length ys.length) : Walk (ItzG K t u a b) n (fun H => SqB K t H a xs ∧ SqB K u H b ys) (YPair (fun i => xs[i]?) (fun i => ys[i]?)) := by
  subst hn
  refine ⟨fun i _ hi q => ⟨xs, ys, xs[i]'(by omega), ys[i]'(by omega), q.1, q.2, List.getElem?_eq_getElem _, List.getElem?_eq_getElem _⟩, fun _ q => ⟨xs, ys, q.1, q.2, by omega⟩, fun i H v H' _ q y => ?_⟩
  obtain ⟨T, x, z, h1, h2, h3, h4, h5⟩ := y
  exact ⟨T, x, z, h1, h2, h3, h4 xs q.1, h5 ys q.2⟩
/-! ### enumerate -/
section
variable {prog : Program} {w : World} {A : Around} {E : Value → Shared → Prop} {s : Shared}
theorem en_item {t : Bool} {e it l : Addr} {i : Nat} {xs : Array Value} {x old : Value} {Q : Value → Shared → Prop} (he : IsEnum s.heap e it i old) (g : It1 t s.heap it l i) (f : Sq1 t s.heap l xs) (hx : xs[i]? = some x) (hne : e ≠ it)
    (hQ : ∀ h', IsEnumOut h' e it ((i : Int) + 1) x s.heap.objs.size → It1 t h' it l (i + 1) → h'.get? s.heap.objs.size = some { cls := .type "tuple", data := .seq #[.int i s.toks, x] } → h'.objs.size = s.heap.objs.size + 1 → (∀ b o, b ≠ e → b ≠ it → s.heap.get? b = some o → h'.get? b = some o) → Q (.ref s.heap.objs.size) { s with heap := h', toks := s.toks + 1 }) :
    wpAny (model prog w) A (Builtin.«enumerate.__next__» ⟨[.ref e], []⟩) (fun fin s' => ∃ v, fin = .done (.ret v) ∧ Q v s') E s := by
  obtain ⟨hp, gl, d, tk, os⟩ := s
  refine (?_ : wpAny _ _ (field (.ref e) 2 >>= _) _ _ _)
  refine wpAny_bind (wpAny_field he rfl (x := .ref it) rfl (wpAny_bind (draw g f hx fun ha ga sa => ?_)))
  replace sa : Heap.SameBut it hp ha := sa
  have ea : IsEnum ha e it i old := (sa.2 e hne).trans he
  refine (?_ : wpAny _ _ (field (.ref e) 3 >>= _) _ _ ⟨ha, gl, d, tk, os⟩)
  refine wpAny_bind (wpAny_field ea rfl (x := rawInt i) rfl (?_ : wpAny _ _ (field (.ref e) 4 >>= _) _ _ ⟨ha, gl, d, tk, os⟩))
  refine wpAny_bind (wpAny_field ea rfl (x := .none) rfl (?_ : wpAny _ _ (mkInt i >>= _) _ _ ⟨ha, gl, d, tk, os⟩))
  refine wpAny_bind (wpAny_mkInt (?_ : wpAny _ _ (setField (.ref e) 3 (rawInt ((i : Int) + 1)) >>= _) _ _ ⟨ha, gl, d, tk + 1, os⟩))
  refine wpAny_bind (wpAny_setField_rec ea (by simp) fun hb eb sb => ?_)
  replace sb : Heap.SameBut e ha hb := sb
  replace eb : IsEnum hb e it ((i : Int) + 1) old := eb
  refine (?_ : wpAny _ _ (setField (.ref e) 4 .none >>= _) _ _ ⟨hb, gl, d, tk + 1, os⟩)
  refine wpAny_bind (wpAny_setField_rec eb (by simp) fun hc ec sc => ?_)
  replace sc : Heap.SameBut e hb hc := sc
  replace ec : IsEnum hc e it ((i : Int) + 1) old := ec
  refine (?_ : wpAny _ _ (newTuple [.int i tk, x] >>= _) _ _ ⟨hc, gl, d, tk + 1, os⟩)
  refine wpAny_bind (wpAny_newTuple ?_)
  have e4 : IsEnum (hc.push { cls := .type "tuple", data := .seq #[.int i tk, x] }) e it ((i : Int) + 1) old := Heap.get?_push_of_some _ ec
  generalize hh4 : hc.push { cls := .type "tuple", data := .seq #[.int i tk, x] } = h4 at e4
  have nz : hc.objs.size = hp.objs.size := by rw [sc.1, sb.1, sa.1]
  have lt : e < hp.objs.size := Heap.lt_size he
  have t4 : h4.get? hp.objs.size = some { cls := .type "tuple", data := .seq #[.int i tk, x] } := by rw [← hh4, ← nz]; exact Heap.get?_push_size _ rfl
  have z4 : h4.objs.size = hp.objs.size + 1 := by rw [← hh4, Heap.size_push, nz]
  have k4 : ∀ b o, b ≠ e → b ≠ it → hp.get? b = some o → h4.get? b = some o := fun b o be bi q => by rw [← hh4]; exact Heap.get?_push_of_some _ (sc.extBut b o be (sb.extBut b o be (sa.extBut b o bi q)))
  have g4 : It1 t h4 it l (i + 1) := by rw [← hh4]; exact ga.keep fun o q => Heap.get?_push_of_some _ (sc.extBut _ o (Ne.symm hne) (sb.extBut _ o (Ne.symm hne) q))
  refine (?_ : wpAny _ _ (Builtin.SmallTypes.ownedTupleIsFree (.ref e) >>= _) _ _ ⟨h4, gl, d, tk + 1, os⟩)
  rw [nz]
  clear hh4 ec sc eb sb ea sa ga nz hc hb ha
  refine wpAny_bind ?_
  unfold Builtin.SmallTypes.ownedTupleIsFree
  refine wpAny_bind (wpAny_field e4 rfl (x := .none) rfl (wpAny_pure ?_))
  simp only [if_true]
  refine wpAny_bind (wpAny_rule (wpAny_bind (wpAny_field e4 rfl (x := old) rfl (wpAny_bind (wpAny_setField_rec e4 (by simp) fun h5 e5 s5 => ?_)))))
  replace s5 : Heap.SameBut e h4 h5 := s5
  replace e5 : IsEnum h5 e it ((i : Int) + 1) x := e5
  refine (?_ : wpAny _ _ (Builtin.SmallTypes.ownedTupleHandOut (.ref e) (.ref hp.objs.size) >>= _) _ _ ⟨h5, gl, d, tk + 1, os⟩)
  refine wpAny_bind ?_
  unfold Builtin.SmallTypes.ownedTupleHandOut
  refine wpAny_bind (wpAny_setField_rec e5 (by simp) fun h6 e6 s6 => ?_)
  replace s6 : Heap.SameBut e h5 h6 := s6
  replace e6 : IsEnumOut h6 e it ((i : Int) + 1) x hp.objs.size := e6
  refine wpAny_setField_rec e6 (by simp) fun h7 e7 s7 => ?_
  replace s7 : Heap.SameBut e h6 h7 := s7
  replace e7 : IsEnumOut h7 e it ((i : Int) + 1) x hp.objs.size := e7
  have up : ∀ b o, b ≠ e → h4.get? b = some o → h7.get? b = some o := fun b o be q => s7.extBut b o be (s6.extBut b o be (s5.extBut b o be q))
  exact wpAny_bind (wpAny_letGo (wpAny_pure ⟨_, rfl, hQ h7 e7 (g4.keep fun o q => up _ o (Ne.symm hne) q) (up _ _ (Nat.ne_of_gt lt) t4) (by rw [s7.1, s6.1, s5.1, z4]) fun b o be bi q => up b o be (k4 b o be bi q)⟩))
theorem en_next {t : Bool} {e it l : Addr} {i : Nat} {xs : Array Value} {x old : Value} {Q : Option Value → Shared → Prop} (he : IsEnum s.heap e it i old) (g : It1 t s.heap it l i) (f : Sq1 t s.heap l xs) (hx : xs[i]? = some x) (hne : e ≠ it)
    (hQ : ∀ h', IsEnumOut h' e it ((i : Int) + 1) x s.heap.objs.size → It1 t h' it l (i + 1) → h'.get? s.heap.objs.size = some { cls := .type "tuple", data := .seq #[.int i s.toks, x] } → h'.objs.size = s.heap.objs.size + 1 → (∀ b o, b ≠ e → b ≠ it → s.heap.get? b = some o → h'.get? b = some o) → Q (some (.ref s.heap.objs.size)) { s with heap := h', toks := s.toks + 1 }) :
    wpAny (model prog w) A (pyNext (.ref e)) Q E s := by
  have T : s.TypeIs (.ref e) "enumerate" := ⟨_, he, rfl⟩
  unfold pyNext
  exact wpAny_bind (wpAny_attempt (wpAny_callSpecial?_slot (name := Str.ofString "__next__") T F.slot_enumerate_next (wpAny_call_entry F.slot_enumerate_next T F.entry_enumerate_next (en_item he g f hx hne fun h' a b c d k => wpAny_pure (hQ h' a b c d k)) (F.args_enumerate_next_1 _))))
theorem en_none {t : Bool} {e it l : Addr} {i : Nat} {xs : Array Value} {old : Value} {Q : Option Value → Shared → Prop} (hh : A.handled = none) (he : IsEnum s.heap e it i old) (g : It1 t s.heap it l i) (f : Sq1 t s.heap l xs) (hx : xs[i]? = none)
    (hQ : ∀ h', Heap.ExtBut it s.heap h' → Q none { s with heap := h' }) : wpAny (model prog w) A (pyNext (.ref e)) Q E s := by
  have T : s.TypeIs (.ref e) "enumerate" := ⟨_, he, rfl⟩
  unfold pyNext
  refine wpAny_bind (wpAny_attempt (wpAny_callSpecial?_slot (name := Str.ofString "__next__") T F.slot_enumerate_next (wpAny_call_entry F.slot_enumerate_next T F.entry_enumerate_next (?_ : wpAny _ _ (field (.ref e) 2 >>= _) _ _ _) (F.args_enumerate_next_1 _))))
  refine wpAny_bind (wpAny_field he rfl (x := .ref it) rfl (wpAny_bind (drawEnd hh g f hx fun h' x he' hx' => ?_)))
  obtain ⟨o, ho, hc⟩ := hx'
  exact wpAny_bind (wpAny_isInstance (T := "StopIteration") (b := true) ⟨o, ho, hc⟩ isSubtype_stop (wpAny_pure (hQ _ he')))
end
theorem en_new (t : Bool) (l : Addr) (xs : Array Value) : Meets (Builtin.«enumerate.__new__» ⟨[.type "enumerate", .ref l], []⟩) (fun _ R s => Sq1 t s.heap l xs ∧
      R (.ok (.ret (.ref (s.heap.push (itOb t l)).objs.size))) { s with heap := (s.heap.push (itOb t l)).push { cls := .type "enumerate", data := .fields #[.none, .bool false, .ref s.heap.objs.size, rawInt 0, .none, .none] } }) :=
  .of_wp fun prog w A R s h => by
    obtain ⟨hp, g, d, tk, os⟩ := s
    obtain ⟨f, h⟩ := h
    have hsub := sub_enumerate
    have f' : Sq1 t (Shared.heap ⟨hp, g, d, tk, os⟩) l xs := f
    have ld : ∃ o : Obj, hp.get? l = some o ∧ (o.cls = .type "list" ∨ o.cls = .type "tuple") := by
      cases t
      · obtain ⟨o, a, b, _⟩ := f
        exact ⟨o, a, .inl b⟩
      · obtain ⟨o, a, b, _⟩ := f
        exact ⟨o, a, .inr b⟩
    obtain ⟨ob, lo, lc⟩ := ld
    wp_walk using AutoSeq1.wpAny_loadPart' lo
    refine wpAny_stack_any fun st => wpAny_pure ?_
    split
    · rename_i c _ _ _ _ _
      cases (c == Value.type "enumerate")
      · wp_walk using AutoSeq1.wpAny_loadPart' lo, iter1 f'
        exact ⟨_, rfl, h⟩
      · wp_walk using AutoSeq1.wpAny_loadPart' lo, iter1 f'
        exact ⟨_, rfl, h⟩
    · wp_walk using AutoSeq1.wpAny_loadPart' lo, iter1 f'
      exact ⟨_, rfl, h⟩
section
variable {prog : Program} {w : World} {A : Around} {E : Value → Shared → Prop} {s : Shared}
theorem en_call {t : Bool} {l : Addr} {xs : Array Value} {Q : Value → Shared → Prop} (f : Sq1 t s.heap l xs)
    (h : ∀ h', IsEnum h' (s.heap.objs.size + 1) s.heap.objs.size 0 .none → It1 t h' s.heap.objs.size l 0 → h'.objs.size = s.heap.objs.size + 2 → (∀ b o, s.heap.get? b = some o → h'.get? b = some o) → Q (.ref (s.heap.objs.size + 1)) { s with heap := h' }) :
    wpAny (model prog w) A (call (.type "enumerate") [.ref l]) Q E s := by
  refine callType_new F.called_enumerate (by decide) (F.typeCall_enumerate_1 _) (F.newCall_enumerate_1 _) (fun obj => F.args_object_init_2 obj _) F.entry_enumerate_new (en_new t l xs) ⟨f, ?_⟩
  have n1 : (s.heap.push (itOb t l)).objs.size = s.heap.objs.size + 1 := Heap.size_push ..
  show _ ∧ _
  rw [n1]
  have m1 : ∀ o : Obj, o.isFreed = false → ((s.heap.push (itOb t l)).push o).get? (s.heap.objs.size + 1) = some o := fun o q => by
    have := Heap.get?_push_size (s.heap.push (itOb t l)) (o := o) q
    rw [n1] at this
    exact this
  have m2 := m1 { cls := .type "enumerate", data := .fields #[.none, .bool false, .ref s.heap.objs.size, rawInt 0, .none, .none] } rfl
  exact ⟨⟨_, m2, rfl⟩, h _ m2 (.new (Heap.get?_push_of_some _ (Heap.get?_push_size _ rfl))) (by rw [Heap.size_push, n1]) fun b o x => Heap.get?_push_of_some _ (Heap.get?_push_of_some _ x)⟩
end
def IteG (K : PySem.W.Frag) (t : Bool) (a : Addr) : It :=
  ⟨fun i H => ∃ (xs : List V) (x : V), SqB K t H a xs ∧ xs[i]? = some x, fun i H v H' => ∃ T x, v = .ref T ∧ H T = none ∧ H' = upd H T (.tup [.int (i : Nat), x]) ∧ ∀ xs, SqB K t H a xs → xs[i]? = some x, fun i H => ∃ xs : List V, SqB K t H a xs ∧ xs.length ≤ i⟩
theorem turnE {P : Program} {w : World} {K : PySem.W.Frag} {elts : List Expr} {kk : Nat} {tpos : Pos} (t : Bool) (a e it : Addr) :
    Turn P w K (.Tuple elts kk tpos) (IteG K t a) [e, it] e (fun i h => (∃ old, IsEnum h e it ((i : Nat) : Int) old) ∧ It1 t h it a i ∧ e ≠ it) where
  mem := by simp
  obj := fun i h st b hb => by
    obtain ⟨⟨old, he⟩, g, _⟩ := st
    obtain ⟨o, ho, hd⟩ := g.ob
    have e' : b = e ∨ b = it := by simpa using hb
    rcases e' with z | z
    · rw [z]; exact ⟨_, he, fun v q => nomatch q⟩
    · rw [z]; exact ⟨o, ho, fun v q => by rw [hd] at q; cases q⟩
  keep := fun i h h' st k => let ⟨⟨old, he⟩, g, hne⟩ := st; ⟨⟨old, k e (by simp) _ he⟩, g.keep fun o q => k it (by simp) o q, hne⟩
  item := by
    intro X hP hw hK hc i pins s σ H E I hf st hg
    subst hP hw hK
    obtain ⟨⟨old, he⟩, g, hne⟩ := st
    obtain ⟨xs, x, hq, hx⟩ := hg
    obtain ⟨its, rv, p, _⟩ := sqb_heap I hq
    obtain ⟨u, hu, ru⟩ := rv.get hx
    have el : e < s.heap.objs.size := Heap.lt_size he
    refine en_next he g p (x := u) (by simpa using hu) hne fun h' ho g' hT hsz hk => ⟨_, rfl, wpAny_letOwnedTupleGo_enum (s := { s with heap := h', toks := s.toks + 1 }) ho fun h'' he' sb => ?_⟩
    have hT2 : h''.get? s.heap.objs.size = some { cls := .type "tuple", data := .seq #[.int i s.toks, u] } := (sb.2 _ (Nat.ne_of_gt el)).trans hT
    have new : ObjOk X.prog X.w (upd H s.heap.objs.size (.tup [.int (i : Nat), x])) h'' s.heap.objs.size (.tup [.int (i : Nat), x]) := ⟨by show 2 ≤ sizeLine; decide, [.int i s.toks, u], .cons ⟨_, rfl⟩ (.cons ru .nil), ⟨_, hT2, rfl, _, rfl⟩⟩
    have I1 : Inv X pins σ (upd H s.heap.objs.size (.tup [.int (i : Nat), x])) { s with heap := h'', toks := s.toks + 1 } := I.turnedNew (ch := [e, it]) (fun b ob hb q => (sb.2 b (fun z => hb (by simp [z]))).trans (hk b ob (fun z => hb (by simp [z])) (fun z => hb (by simp [z])) q)) hf (Nat.le_refl _) new
    have e1 : ((i + 1 : Nat) : Int) = (i : Int) + 1 := by omega
    refine ⟨.ref s.heap.objs.size, _, I1, rfl, ⟨_, x, rfl, I.hok.fresh (Nat.le_refl _), rfl, fun ys hy => by rw [sqb_inj I hy hq]; exact hx⟩, ⟨⟨u, by rw [e1]; exact he'⟩, g'.keep fun o q => (sb.2 it (Ne.symm hne)).trans q, hne⟩, fun b hb => ?_⟩
    have hb' : b < s.heap.objs.size := by
      have e' : b = e ∨ b = it := by simpa using hb
      rcases e' with z | z <;> rw [z]
      · exact el
      · exact g.lt
    rw [upd_ne (Nat.ne_of_lt hb')]
    exact (hf b hb).1
  done := by
    intro X hP hw hK hc i pins s σ H E I hf st hg
    subst hP hw hK
    obtain ⟨⟨old, he⟩, g, hne⟩ := st
    obtain ⟨xs, hq, hx⟩ := hg
    obtain ⟨its, rv, p, _⟩ := sqb_heap I hq
    obtain ⟨f0, f1, f2, f3, f4, f5⟩ := hf it (by simp)
    have hl := rv.length
    exact en_none (I.ok.hd hc) he g p (by simp; omega) fun h' eb => ⟨rfl, I.turned (t' := s.toks) (fun b o hb q => eb b o hb q) f0 f1 f3 f4 f5⟩
  self := fun A i s Q E st h => let ⟨⟨_, he⟩, _⟩ := st; wpAny_pyIter_enum he h
def iEnumG (K : PySem.W.Frag) (ta : TA) : TI := fun σ H R => ta σ H fun vs H1 => ∃ (t : Bool) (a : Addr) (xs : List V), vs = [.ref a] ∧ SqB K t H1 a xs ∧ R (IteG K t a) H1
theorem pi_enumG {X : Cx} {K : PySem.W.Frag} (eK : X.K = K) {e : Expr} {ta : TA} {p pos tpos : Pos} {elts : List Expr} {kk : Nat} (hg : Gl X "enumerate") (hm : X.mg "enumerate" = none) (ha : PA X [e] ta) (hs : starEach [e] X.env = [(false, eval e X.env)] := by rfl) :
    PI X (.Tuple elts kk tpos) (.Call (.Name "enumerate" p) [e] [] pos) (iEnumG K ta) := by
  subst eK
  refine ⟨fun pins s σ H R I h => ?_⟩
  refine Call_ (ld_blt I hg hm boot_enumerate (PyProof.Rows.callWith_type1 (thn (ha.run pos pins s σ H _ I h) fun us s1 ⟨vs, H1, I1, r1, q1⟩ => ?_) hs rfl))
  obtain ⟨t, a, xs, rfl, hq, q⟩ := q1
  cases r1 with
  | cons r rr =>
    cases rr
    cases r
    obtain ⟨its, rv, p', _⟩ := sqb_heap I1 hq
    refine en_call p' fun h' he g hsz hk => wpAny_pyIter_enum he ?_
    refine ⟨s1.heap.objs.size + 1, [s1.heap.objs.size + 1, s1.heap.objs.size], _, _, H1, rfl, I1.kept (t' := s1.toks) hk, turnE t a (s1.heap.objs.size + 1) s1.heap.objs.size, ⟨⟨.none, he⟩, g, Nat.succ_ne_self _⟩, fun b hb => ?_, q⟩
    have hle : s1.heap.objs.size ≤ b := by
      have e' : b = s1.heap.objs.size + 1 ∨ b = s1.heap.objs.size := by simpa using hb
      rcases e' with z | z <;> rw [z] <;> omega
    exact I1.fpOk hle (I1.hok.fresh hle)
theorem walkE {K : PySem.W.Frag} {t : Bool} {a : Addr} {xs : List V} : Walk (IteG K t a) xs.length (fun H => SqB K t H a xs) (YPair (fun i => some (.int (i : Nat))) (fun i => xs[i]?)) := by
  refine ⟨fun i _ hi q => ⟨xs, xs[i], q, List.getElem?_eq_getElem hi⟩, fun _ q => ⟨xs, q, Nat.le_refl _⟩, fun i H v H' _ q y => ?_⟩
  obtain ⟨T, x, h1, h2, h3, h4⟩ := y
  exact ⟨T, .int (i : Nat), x, h1, h2, h3, rfl, h4 xs q⟩
end Zg
/-! comprehensions over two sources -/
namespace Ow
open PySem PySem.Spec PyProof.Rows L2
/-- the inner walk: D grows by ys -/
theorem lc2_in {J1 : L2.It} {n1 : Nat} {G1 : Hp → Prop} {Y1 : Nat → Hp → V → Hp → Prop} (w : Walk J1 n1 G1 Y1) (ys : Nat → V) {a0 : List V} (hb : a0.length + n1 < sizeLine) {g1 : TG} {te : TE} {vs1 : List Nat} {σ : L2.St} {H4 : Hp} {D : Addr} {Nx : Hp → Prop} (e4 : H4 D = some (.lst a0))
    (hG : ∀ H, Gw D H4 H → G1 H)
    (hs : ∀ j x H H' (N : VK), j < n1 → Gw D H4 H → Y1 j H x H' → (∀ H5, Same H H5 → N (ys j) H5) → g1 x (wipe σ vs1) H' fun σ3 H5 => wipe σ3 vs1 = wipe σ vs1 ∧ te σ3 H5 N)
    (hd : ∀ H, Gw D H4 H → H D = some (.lst (a0 ++ (List.range n1).map ys)) → Nx H) :
    ∃ W1 : Nat → Nat → Hp → Prop, (∃ m, W1 0 m H4) ∧ ∀ j k H, W1 j k H →
      (J1.stop j H ∧ Nx H) ∨ (J1.go j H ∧ ∃ Nx1 : Hp → Prop, (∀ H', Nx1 H' → ∃ k', k' < k ∧ W1 (j + 1) k' H') ∧ ∀ x H', J1.yld j H x H' → g1 x (wipe σ vs1) H' fun σ3 H5 => wipe σ3 vs1 = wipe σ vs1 ∧ tYes σ3 H5 fun b H6 =>
        if b = true then te σ3 H6 fun y H7 => ∃ acc, H7 D = some (.lst acc) ∧ acc.length < sizeLine ∧ Nx1 (upd H7 D (.lst (acc ++ [y]))) else Nx1 H6) := by
  refine ⟨fun j m H => m = n1 - j ∧ j ≤ n1 ∧ Gw D H4 H ∧ H D = some (.lst (a0 ++ (List.range j).map ys)), ⟨n1, by simp, Nat.zero_le _, Gw.refl _ _, by simpa using e4⟩, ?_⟩
  rintro j m H ⟨rfl, hj, s, e⟩
  by_cases hlt : j < n1
  · refine .inr ⟨w.goes j H hlt (hG H s), fun H' => Gw D H4 H' ∧ H' D = some (.lst (a0 ++ (List.range (j + 1)).map ys)), fun H' p => ⟨n1 - (j + 1), by omega, rfl, hlt, p.1, p.2⟩, fun x H' y => ?_⟩
    refine hs j x H H' _ hlt s (w.yields j H x H' hlt (hG H s) y) fun H5 s5 => ?_
    refine ⟨_, s5 _ _ e, ?_, (s.trans (Gw.same s5)).trans Gw.put, ?_⟩
    · rw [List.length_append, List.length_map, List.length_range]
      omega
    · rw [upd_same, List.range_succ, List.map_append, List.append_assoc]
      rfl
  · have ej : j = n1 := by omega
    subst ej
    exact .inl ⟨w.stops H (hG H s), hd H s e⟩
/-- the outer walk: with the list ac i at D before turn i -/
theorem lc2_out {J : L2.It} {n : Nat} {G : Hp → Prop} {Y : Nat → Hp → V → Hp → Prop} (w : Walk J n G Y) (ac : Nat → List V) (h0 : ac 0 = []) {g : TG} {wi1 : L2.TI} {g1 : TG} {te : TE} {vs vs1 : List Nat} {σ : L2.St} {H1 : Hp} {D : Addr} {Qd : Hp → Prop} (hD : H1 D = none)
    (hG : ∀ H, Same H1 H → G H)
    (hs : ∀ i x H H', i < n → Same H1 H → H D = some (.lst (ac i)) → Y i H x H' → g x (wipe σ vs) H' fun σ2 H2 => wipe σ2 vs = wipe σ vs ∧
      wi1 σ2 H2 fun J1 H4 => ∃ W1 : Nat → Nat → Hp → Prop, (∃ m, W1 0 m H4) ∧ ∀ j k H, W1 j k H →
        (J1.stop j H ∧ (Same H1 H ∧ H D = some (.lst (ac (i + 1))))) ∨ (J1.go j H ∧ ∃ Nx1 : Hp → Prop, (∀ H', Nx1 H' → ∃ k', k' < k ∧ W1 (j + 1) k' H') ∧ ∀ x H', J1.yld j H x H' → g1 x (wipe σ2 vs1) H' fun σ3 H5 => wipe σ3 vs1 = wipe σ2 vs1 ∧ tYes σ3 H5 fun b H6 =>
          if b = true then te σ3 H6 fun y H7 => ∃ acc, H7 D = some (.lst acc) ∧ acc.length < sizeLine ∧ Nx1 (upd H7 D (.lst (acc ++ [y]))) else Nx1 H6))
    (hd : ∀ H, Same H1 H → H D = some (.lst (ac n)) → Qd H) :
    ∃ W : Nat → Nat → Hp → Prop, (∃ m, W 0 m (upd H1 D (.lst []))) ∧ ∀ i m H, W i m H →
      (J.stop i H ∧ Qd H) ∨ (J.go i H ∧ ∃ Nx : Hp → Prop, (∀ H', Nx H' → ∃ m', m' < m ∧ W (i + 1) m' H') ∧ ∀ x H', J.yld i H x H' → g x (wipe σ vs) H' fun σ2 H2 => wipe σ2 vs = wipe σ vs ∧ tYes σ2 H2 fun b H3 =>
        if b = true then wi1 σ2 H3 fun J1 H4 => ∃ W1 : Nat → Nat → Hp → Prop, (∃ m, W1 0 m H4) ∧ ∀ j k H, W1 j k H →
          (J1.stop j H ∧ Nx H) ∨ (J1.go j H ∧ ∃ Nx1 : Hp → Prop, (∀ H', Nx1 H' → ∃ k', k' < k ∧ W1 (j + 1) k' H') ∧ ∀ x H', J1.yld j H x H' → g1 x (wipe σ2 vs1) H' fun σ3 H5 => wipe σ3 vs1 = wipe σ2 vs1 ∧ tYes σ3 H5 fun b H6 =>
            if b = true then te σ3 H6 fun y H7 => ∃ acc, H7 D = some (.lst acc) ∧ acc.length < sizeLine ∧ Nx1 (upd H7 D (.lst (acc ++ [y]))) else Nx1 H6)
        else Nx H3) := by
  refine ⟨fun i m H => m = n - i ∧ i ≤ n ∧ Same H1 H ∧ H D = some (.lst (ac i)), ⟨n, by simp, Nat.zero_le _, Same.new hD, by rw [h0, upd_same]⟩, ?_⟩
  rintro i m H ⟨rfl, hi, s, e⟩
  by_cases hlt : i < n
  · exact .inr ⟨w.goes i H hlt (hG H s), fun H' => Same H1 H' ∧ H' D = some (.lst (ac (i + 1))), fun H' p => ⟨n - (i + 1), by omega, rfl, hlt, p.1, p.2⟩, fun x H' y => hs i x H H' hlt s e (w.yields i H x H' hlt (hG H s) y)⟩
  · have ei : i = n := by omega
    subst ei
    exact .inl ⟨w.stops H (hG H s), hd H s e⟩
end Ow
/-! tuples: slices and sums, the same object or a new one -/
namespace Ow
open PySem PySem.Spec PyProof.Rows L2
theorem cut_all {xs : List V} {lo hi : Option Int} (h : HT.sIx xs.length 0 lo = 0 ∧ HT.sIx xs.length xs.length hi = xs.length) : cutV xs lo hi = xs := by
  unfold cutV
  rw [h.1, h.2]
  simp
theorem cut_to (xs : List V) (k : Nat) : cutV xs none (some (k : Int)) = xs.take k := by
  unfold cutV
  rw [HT.sIx_none, HT.sIx_nat, List.drop_zero, Nat.sub_zero]
  rcases Nat.le_total k xs.length with h | h
  · rw [Nat.min_eq_left h]
  · rw [Nat.min_eq_right h, List.take_of_length_le (Nat.le_refl _), List.take_of_length_le h]
theorem cut_from (xs : List V) (k : Nat) : cutV xs (some (k : Int)) none = xs.drop k := by
  unfold cutV
  rw [HT.sIx_none, HT.sIx_nat, List.take_of_length_le (by rw [List.length_drop]; exact Nat.le_refl _)]
  rcases Nat.le_total k xs.length with h | h
  · rw [Nat.min_eq_left h]
  · rw [Nat.min_eq_right h, List.drop_of_length_le (Nat.le_refl _), List.drop_of_length_le h]
theorem cut_mid (xs : List V) (j k : Nat) : cutV xs (some (j : Int)) (some (k : Int)) = (xs.drop j).take (k - j) := by
  unfold cutV
  rw [HT.sIx_nat, HT.sIx_nat]
  rcases Nat.le_total j xs.length with h | h
  · rw [Nat.min_eq_left h]
    rcases Nat.le_total k xs.length with h2 | h2
    · rw [Nat.min_eq_left h2]
    · rw [Nat.min_eq_right h2, List.take_of_length_le (by rw [List.length_drop]; omega), List.take_of_length_le (by rw [List.length_drop]; omega)]
  · rw [List.drop_of_length_le (show xs.length ≤ min j xs.length by omega), List.drop_of_length_le h]
    simp
theorem cutA {K : PySem.W.Frag} {H : Hp} {a : Addr} {xs : List V} {lo hi : Option Int} {Q : VK} (h : SqT K H a xs) (q : ∀ p H', Same H H' → SqT K H' p (cutV xs lo hi) → Q (.ref p) H') : rSlA K (.ref a) lo hi H Q := by
  refine ⟨a, xs, rfl, h, fun e => ?_, fun _ p np => ?_⟩
  · exact q a H (Same.refl _) (by rw [cut_all e]; exact h)
  · exact q p _ (Same.new np) (SqT.of upd_same)
theorem catA {K : PySem.W.Frag} {H : Hp} {a b : Addr} {xs ys : List V} {Q : VK} (h : SqT K H a xs) (h2 : SqT K H b ys) (l : xs.length + ys.length ≤ sizeLine) (q : ∀ p H', Same H H' → SqT K H' p (xs ++ ys) → Q (.ref p) H') : rCatA K (.ref a) (.ref b) H Q := by
  refine ⟨a, b, xs, ys, rfl, rfl, h, h2, l, fun e => ?_, fun _ e => ?_, fun _ _ p np => ?_⟩
  · exact q b H (Same.refl _) (by rw [e]; exact h2)
  · exact q a H (Same.refl _) (by rw [e, List.append_nil]; exact h)
  · exact q p _ (Same.new np) (SqT.of upd_same)
end Ow
/-! the policy's mathematics -/
namespace Po
def gI (xs : List Int) (i : Nat) : Int := xs.getD i 0
def gR (W : List (List Int)) (i : Nat) : List Int := W.getD i []
def minL : List Int → Int
  | [] => 0
  | [x] => x
  | x :: y :: r => if x ≤ minL (y :: r) then x else minL (y :: r)
theorem minL_mem : ∀ {xs : List Int}, xs ≠ [] → minL xs ∈ xs
  | [], h => absurd rfl h
  | [x], _ => List.mem_singleton.mpr rfl
  | x :: y :: r, _ => by
    rw [minL]
    split
    · exact List.mem_cons_self
    · exact List.mem_cons_of_mem _ (minL_mem (by simp))
theorem minL_le : ∀ {xs : List Int} {y : Int}, y ∈ xs → minL xs ≤ y
  | [], y, h => nomatch h
  | [x], y, h => by rw [List.mem_singleton.mp h]; exact Int.le_refl _
  | x :: z :: r, y, h => by
    rw [minL]
    rcases List.mem_cons.mp h with e | m
    · split <;> omega
    · have := minL_le m
      split <;> omega
theorem minL_eq {xs : List Int} {m : Int} (h : m ∈ xs) (l : ∀ y ∈ xs, m ≤ y) : m = minL xs :=
  Int.le_antisymm (l _ (minL_mem (fun e => by rw [e] at h; cases h))) (minL_le h)
def argL (xs : List Int) : Nat := xs.findIdx fun x => decide (x = minL xs)
theorem argL_lt {xs : List Int} (h : xs ≠ []) : argL xs < xs.length :=
  List.findIdx_lt_length_of_exists ⟨_, minL_mem h, by simp⟩
theorem argL_at {xs : List Int} (h : xs ≠ []) : xs[argL xs]? = some (minL xs) := by
  have l := argL_lt h
  rw [List.getElem?_eq_getElem l]
  have e := List.findIdx_getElem (xs := xs) (p := fun x => decide (x = minL xs)) (w := l)
  exact congrArg some (of_decide_eq_true e)
theorem argL_no {xs : List Int} {m : Nat} {z : Int} (h : m < argL xs) (e : xs[m]? = some z) : z ≠ minL xs := by
  have := List.not_of_lt_findIdx h
  obtain ⟨l, e⟩ := List.getElem?_eq_some_iff.mp e
  rw [e] at this
  simpa using this
theorem argL_eq {xs : List Int} {j : Nat} (h : xs[j]? = some (minL xs)) (n : ∀ m z, m < j → xs[m]? = some z → z ≠ minL xs) : argL xs = j := by
  have ne : xs ≠ [] := fun e => by rw [e] at h; simp at h
  rcases Nat.lt_trichotomy (argL xs) j with a | a | a
  · exact absurd rfl (n _ _ a (argL_at ne))
  · exact a
  · exact absurd rfl (argL_no a h)
/-- by places -/
def mk (n : Nat) (f : Nat → Int) : List Int := (List.range n).map f
theorem mk_len (n : Nat) (f : Nat → Int) : (mk n f).length = n := by simp [mk]
theorem mk_at {n : Nat} {f : Nat → Int} {i : Nat} (h : i < n) : (mk n f)[i]? = some (f i) := by simp [mk, h]
theorem gI_at {xs : List Int} {i : Nat} {v : Int} (h : xs[i]? = some v) : gI xs i = v := by unfold gI; rw [List.getD_eq_getElem?_getD, h]; rfl
theorem gI_mk {n : Nat} {f : Nat → Int} {i : Nat} (h : i < n) : gI (mk n f) i = f i := gI_at (mk_at h)
theorem at_gI {xs : List Int} {i : Nat} (h : i < xs.length) : xs[i]? = some (gI xs i) := by
  rw [List.getElem?_eq_getElem h]
  exact congrArg some (gI_at (List.getElem?_eq_getElem h)).symm
theorem gR_at {W : List (List Int)} {i : Nat} {v : List Int} (h : W[i]? = some v) : gR W i = v := by unfold gR; rw [List.getD_eq_getElem?_getD, h]; rfl
theorem at_gR {W : List (List Int)} {i : Nat} (h : i < W.length) : W[i]? = some (gR W i) := by
  rw [List.getElem?_eq_getElem h]
  exact congrArg some (gR_at (List.getElem?_eq_getElem h)).symm
theorem mk_ne {n : Nat} {f : Nat → Int} (h : 0 < n) : mk n f ≠ [] := fun e => by have := mk_len n f; rw [e] at this; simp at this; omega
theorem mk_self (xs : List Int) : mk xs.length (gI xs) = xs := by
  apply List.ext_getElem?
  intro i
  by_cases h : i < xs.length
  · rw [mk_at h, at_gI h]
  · rw [List.getElem?_eq_none (by rw [mk_len]; omega), List.getElem?_eq_none (by omega)]
theorem mem_mk {n : Nat} {f : Nat → Int} {y : Int} : y ∈ mk n f ↔ ∃ i, i < n ∧ y = f i := by
  simp only [mk, List.mem_map, List.mem_range]
  exact ⟨fun ⟨i, a, b⟩ => ⟨i, a, b.symm⟩, fun ⟨i, a, b⟩ => ⟨i, a, b.symm⟩⟩
theorem minmk_le {n : Nat} {f : Nat → Int} {i : Nat} (h : i < n) : minL (mk n f) ≤ f i := minL_le (mem_mk.mpr ⟨i, h, rfl⟩)
theorem minmk_ex {n : Nat} {f : Nat → Int} (h : 0 < n) : ∃ i, i < n ∧ minL (mk n f) = f i := mem_mk.mp (minL_mem (mk_ne h))
theorem argmk {n : Nat} {f : Nat → Int} (h : 0 < n) : argL (mk n f) < n ∧ minL (mk n f) = f (argL (mk n f)) := by
  have l := argL_lt (mk_ne (f := f) h)
  rw [mk_len] at l
  refine ⟨l, ?_⟩
  have a := argL_at (mk_ne (f := f) h)
  rw [mk_at l] at a
  exact (Option.some.inj a).symm
/-- the prices: what stands, and the ways -/
structure Pr where
  n : Nat
  S : List Int
  W : List (List Int)
  start : Nat
def goF (c : Pr) (x y : Nat) : Int := (gI (gR c.W x) y + gI c.S y - gI c.S x) / 2
def sumF (c : Pr) (w e : List Int) (p i : Nat) : Int := gI w i + 2 * gI e i + gI (gR c.W i) p
def sums (c : Pr) (w e : List Int) (p : Nat) : List Int := mk c.n (sumF c w e p)
def stepW (c : Pr) (w e : List Int) : List Int := mk c.n fun p => minL (sums c w e p)
def wk (c : Pr) (T : List (List Int)) : List Int := T.foldl (stepW c) (gR c.W c.start)
structure Good (c : Pr) : Prop where
  pos : 0 < c.n
  s : c.S.length = c.n
  w : c.W.length = c.n
  r : ∀ i, i < c.n → (gR c.W i).length = c.n
  st : c.start < c.n
  self : ∀ i, i < c.n → gI (gR c.W i) i = 0
  go : ∀ x y, x < c.n → y < c.n → 0 ≤ gI (gR c.W x) y + gI c.S y - gI c.S x ∧ (gI (gR c.W x) y + gI c.S y - gI c.S x) % 2 = 0
theorem go2 {c : Pr} (g : Good c) {x y : Nat} (hx : x < c.n) (hy : y < c.n) : 2 * goF c x y = gI (gR c.W x) y + gI c.S y - gI c.S x := by
  have := (g.go x y hx hy).2
  unfold goF
  omega
/-- what the best plan to each layout spends -/
def F0 (c : Pr) : List (Option Int) := (List.range c.n).map fun x => if x = c.start then some 0 else none
def oV : Option Int → Int | some v => v | none => 0
def oG (xs : List (Option Int)) (i : Nat) : Option Int := (xs[i]?).join
def fwdF (c : Pr) (F : List (Option Int)) (e : List Int) (y : Nat) : Int := minL (((List.range c.n).filter fun x => (oG F x).isSome).map fun x => oV (oG F x) + goF c x y) + gI e y
def fwd (c : Pr) (F : List (Option Int)) (e : List Int) : List (Option Int) := (List.range c.n).map fun y => some (fwdF c F e y)
def fw (c : Pr) (T : List (List Int)) : List (Option Int) := T.foldl (fwd c) (F0 c)
theorem oG_F0 {c : Pr} {x : Nat} (h : x < c.n) : oG (F0 c) x = if x = c.start then some 0 else none := by unfold oG F0; simp [h]
theorem oG_fwd {c : Pr} {F : List (Option Int)} {e : List Int} {y : Nat} (h : y < c.n) : oG (fwd c F e) y = some (fwdF c F e y) := by unfold oG fwd; simp [h]
/-- the works are the least of the ways on from the best plans -/
structure Rel (c : Pr) (w : List Int) (F : List (Option Int)) : Prop where
  le : ∀ s x v, s < c.n → x < c.n → oG F x = some v → gI w s ≤ 2 * v - gI c.S x + gI c.S c.start + gI (gR c.W x) s
  ex : ∀ s, s < c.n → ∃ x v, x < c.n ∧ oG F x = some v ∧ gI w s = 2 * v - gI c.S x + gI c.S c.start + gI (gR c.W x) s
theorem rel0 {c : Pr} (g : Good c) : Rel c (gR c.W c.start) (F0 c) := by
  refine ⟨fun s x v hs hx e => ?_, fun s hs => ⟨c.start, 0, g.st, by rw [oG_F0 g.st, if_pos rfl], by omega⟩⟩
  rw [oG_F0 hx] at e
  split at e
  · rename_i z
    cases e
    subst z
    omega
  · cases e
theorem minfl_le {c : Pr} {F : List (Option Int)} {f : Nat → Int} {x : Nat} {v : Int} (hx : x < c.n) (e : oG F x = some v) : minL (((List.range c.n).filter fun x => (oG F x).isSome).map f) ≤ f x :=
  minL_le (List.mem_map.mpr ⟨x, List.mem_filter.mpr ⟨List.mem_range.mpr hx, by rw [e]; rfl⟩, rfl⟩)
theorem minfl_ex {c : Pr} {F : List (Option Int)} {f : Nat → Int} {x : Nat} {v : Int} (hx : x < c.n) (e : oG F x = some v) :
    ∃ y u, y < c.n ∧ oG F y = some u ∧ minL (((List.range c.n).filter fun x => (oG F x).isSome).map f) = f y := by
  have m : f x ∈ (((List.range c.n).filter fun x => (oG F x).isSome).map f) := List.mem_map.mpr ⟨x, List.mem_filter.mpr ⟨List.mem_range.mpr hx, by rw [e]; rfl⟩, rfl⟩
  obtain ⟨y, my, ey⟩ := List.mem_map.mp (minL_mem (List.ne_nil_of_mem m))
  obtain ⟨a, b⟩ := List.mem_filter.mp my
  cases z : oG F y with
  | none => rw [z] at b; cases b
  | some u => exact ⟨y, u, List.mem_range.mp a, z, ey.symm⟩
/-- the best plan to y, in works -/
theorem best_eq {c : Pr} (g : Good c) {w : List Int} {F : List (Option Int)} (r : Rel c w F) {e : List Int} {y : Nat} (hy : y < c.n) :
    2 * fwdF c F e y - gI c.S y + gI c.S c.start = gI w y + 2 * gI e y := by
  obtain ⟨x0, v0, hx0, e0, q0⟩ := r.ex y hy
  obtain ⟨x1, v1, hx1, e1, q1⟩ := minfl_ex (c := c) (F := F) (f := fun x => oV (oG F x) + goF c x y) hx0 e0
  have l0 := minfl_le (c := c) (F := F) (f := fun x => oV (oG F x) + goF c x y) hx0 e0
  have l1 := r.le y x1 v1 hy hx1 e1
  have g0 := go2 g hx0 hy
  have g1 := go2 g hx1 hy
  have k0 : oV (oG F x0) = v0 := by rw [e0]; rfl
  have k1 : oV (oG F x1) = v1 := by rw [e1]; rfl
  unfold fwdF
  simp only [k0] at l0
  simp only [k1] at q1
  omega
theorem rel_step {c : Pr} (g : Good c) {w : List Int} {F : List (Option Int)} (r : Rel c w F) (e : List Int) : Rel c (stepW c w e) (fwd c F e) := by
  refine ⟨fun s x v hs hx ex => ?_, fun s hs => ?_⟩
  · rw [oG_fwd hx] at ex
    have ev := Option.some.inj ex
    have b := best_eq g r (e := e) hx
    have l := minmk_le (f := sumF c w e s) hx
    unfold stepW
    rw [gI_mk hs]
    unfold sums
    have : sumF c w e s x = gI w x + 2 * gI e x + gI (gR c.W x) s := rfl
    omega
  · obtain ⟨x, hx, q⟩ := minmk_ex (f := sumF c w e s) g.pos
    have b := best_eq g r (e := e) hx
    refine ⟨x, _, hx, oG_fwd hx, ?_⟩
    unfold stepW
    rw [gI_mk hs]
    unfold sums
    have : sumF c w e s x = gI w x + 2 * gI e x + gI (gR c.W x) s := rfl
    omega
theorem rel_all {c : Pr} (g : Good c) (T : List (List Int)) : Rel c (wk c T) (fw c T) := by
  unfold wk fw
  suffices h : ∀ (T : List (List Int)) w F, Rel c w F → Rel c (T.foldl (stepW c) w) (T.foldl (fwd c) F) from h T _ _ (rel0 g)
  intro T
  induction T with
  | nil => exact fun w F r => r
  | cons e T ih => exact fun w F r => ih _ _ (rel_step g r e)
def least (c : Pr) (T : List (List Int)) : Int := minL ((fw c T).filterMap id)
theorem fw_len {c : Pr} : ∀ (T : List (List Int)), (fw c T).length = c.n := by
  intro T
  unfold fw
  suffices h : ∀ (T : List (List Int)) F, F.length = c.n → (T.foldl (fwd c) F).length = c.n from h T _ (by simp [F0])
  intro T
  induction T with
  | nil => exact fun F h => h
  | cons e T ih => exact fun F h => ih _ (by simp [fwd])
theorem mem_ids {xs : List (Option Int)} {n : Nat} (l : xs.length = n) {v : Int} : v ∈ xs.filterMap id ↔ ∃ x, x < n ∧ oG xs x = some v := by
  rw [List.mem_filterMap]
  constructor
  · rintro ⟨a, ma, ea⟩
    obtain ⟨x, hx⟩ := List.mem_iff_getElem?.mp ma
    refine ⟨x, by rw [← l]; exact (List.getElem?_eq_some_iff.mp hx).1, ?_⟩
    unfold oG
    rw [hx]
    exact ea
  · rintro ⟨x, hx, e⟩
    unfold oG at e
    cases z : xs[x]? with
    | none => rw [z] at e; cases e
    | some a => rw [z] at e; exact ⟨a, List.mem_of_getElem? z, e⟩
def ends (c : Pr) (w : List Int) : List Int := mk c.n fun s => gI w s + gI c.S s
theorem ends_least {c : Pr} (g : Good c) (T : List (List Int)) : minL (ends c (wk c T)) = 2 * least c T + gI c.S c.start := by
  have r := rel_all g T
  obtain ⟨s, hs, q⟩ := minmk_ex (f := fun s => gI (wk c T) s + gI c.S s) g.pos
  obtain ⟨x, v, hx, ex, qx⟩ := r.ex s hs
  have m : v ∈ (fw c T).filterMap id := (mem_ids (fw_len T)).mpr ⟨x, hx, ex⟩
  have l1 := minL_le m
  have g1 := (g.go x s hx hs).1
  obtain ⟨y, hy, ey⟩ := (mem_ids (fw_len T)).mp (minL_mem (List.ne_nil_of_mem m))
  have l2 := r.le y y _ hy hy ey
  have l3 := minmk_le (f := fun s => gI (wk c T) s + gI c.S s) hy
  have z := g.self y hy
  unfold ends least
  omega
/-- what a plan spends, told from its end -/
def spR (c : Pr) : List (List Int) → List Nat → Int
  | e :: T, p :: ps => spR c T ps + goF c (ps.headD c.start) p + gI e p
  | _, _ => 0
/-- no plan spends less than the best one to its end -/
theorem low {c : Pr} (g : Good c) : ∀ (T : List (List Int)) (ps : List Nat), T.length = ps.length → (∀ p ∈ ps, p < c.n) → ∃ v, oG (fw c T.reverse) (ps.headD c.start) = some v ∧ v ≤ spR c T ps
  | [], [], _, _ => ⟨0, by show oG (F0 c) c.start = _; rw [oG_F0 g.st, if_pos rfl], Int.le_refl _⟩
  | [], _ :: _, h, _ => by cases h
  | _ :: _, [], h, _ => by cases h
  | e :: T, p :: ps, h, hp => by
    obtain ⟨v, ev, lv⟩ := low g T ps (Nat.succ.inj h) fun q m => hp q (List.mem_cons_of_mem _ m)
    have hpn := hp p List.mem_cons_self
    have hq : ps.headD c.start < c.n := by
      cases ps with
      | nil => exact g.st
      | cons q r => exact hp q (List.mem_cons_of_mem _ List.mem_cons_self)
    have er : fw c (e :: T).reverse = fwd c (fw c T.reverse) e := by unfold fw; rw [List.reverse_cons, List.foldl_append]; rfl
    refine ⟨fwdF c (fw c T.reverse) e p, by rw [er]; exact oG_fwd hpn, ?_⟩
    have l := minfl_le (c := c) (F := fw c T.reverse) (f := fun x => oV (oG (fw c T.reverse) x) + goF c x p) hq ev
    have k : oV (oG (fw c T.reverse) (ps.headD c.start)) = v := by rw [ev]; rfl
    simp only [k] at l
    show _ ≤ spR c T ps + goF c (ps.headD c.start) p + gI e p
    unfold fwdF
    omega
/-- the plan found backwards, the last task first -/
def back (c : Pr) : List (List Int) → Nat → List Nat
  | [], _ => []
  | e :: T, p => argL (sums c (wk c T.reverse) e p) :: back c T (argL (sums c (wk c T.reverse) e p))
theorem back_len (c : Pr) : ∀ (T : List (List Int)) (p : Nat), (back c T p).length = T.length
  | [], _ => rfl
  | e :: T, p => congrArg Nat.succ (back_len c T _)
theorem back_lt {c : Pr} (g : Good c) : ∀ (T : List (List Int)) (p : Nat), ∀ q ∈ back c T p, q < c.n
  | [], _, q, h => nomatch h
  | e :: T, p, q, h => by
    rcases List.mem_cons.mp h with z | z
    · rw [z]; exact (argmk g.pos).1
    · exact back_lt g T _ q z
theorem wk_cons {c : Pr} (e : List Int) (T : List (List Int)) : wk c (e :: T).reverse = stepW c (wk c T.reverse) e := by unfold wk; rw [List.reverse_cons, List.foldl_append]; rfl
theorem back_sp {c : Pr} (g : Good c) : ∀ (T : List (List Int)) (p : Nat), p < c.n →
    gI (wk c T.reverse) p = 2 * spR c T (back c T p) + gI c.S c.start - gI c.S ((back c T p).headD c.start) + gI (gR c.W ((back c T p).headD c.start)) p
  | [], p, hp => by
    show gI (gR c.W c.start) p = 2 * 0 + gI c.S c.start - gI c.S c.start + gI (gR c.W c.start) p
    omega
  | e :: T, p, hp => by
    have a : argL (sums c (wk c T.reverse) e p) < c.n ∧ minL (sums c (wk c T.reverse) e p) = sumF c (wk c T.reverse) e p (argL (sums c (wk c T.reverse) e p)) := argmk g.pos
    have ih := back_sp g T (argL (sums c (wk c T.reverse) e p)) a.1
    have hq : (back c T (argL (sums c (wk c T.reverse) e p))).headD c.start < c.n := by
      cases z : back c T (argL (sums c (wk c T.reverse) e p)) with
      | nil => exact g.st
      | cons q r => exact back_lt g T (argL (sums c (wk c T.reverse) e p)) q (by rw [z]; exact List.mem_cons_self)
    have g2 := go2 g hq a.1
    rw [wk_cons]
    unfold stepW
    rw [gI_mk hp]
    have b := a.2
    show minL (sums c (wk c T.reverse) e p) = 2 * (spR c T (back c T (argL (sums c (wk c T.reverse) e p))) + goF c ((back c T (argL (sums c (wk c T.reverse) e p))).headD c.start) (argL (sums c (wk c T.reverse) e p)) + gI e (argL (sums c (wk c T.reverse) e p)))
      + gI c.S c.start - gI c.S (argL (sums c (wk c T.reverse) e p)) + gI (gR c.W (argL (sums c (wk c T.reverse) e p))) p
    have s : sumF c (wk c T.reverse) e p (argL (sums c (wk c T.reverse) e p)) = gI (wk c T.reverse) (argL (sums c (wk c T.reverse) e p)) + 2 * gI e (argL (sums c (wk c T.reverse) e p)) + gI (gR c.W (argL (sums c (wk c T.reverse) e p))) p := rfl
    rw [b, s, ih]
    omega
theorem plan_least {c : Pr} (g : Good c) (T : List (List Int)) : spR c T (back c T (argL (ends c (wk c T.reverse)))) = least c T.reverse := by
  have a := argmk (n := c.n) (f := fun s => gI (wk c T.reverse) s + gI c.S s) g.pos
  have b := back_sp g T (argL (ends c (wk c T.reverse))) a.1
  have d := ends_least g T.reverse
  have hq : (back c T (argL (ends c (wk c T.reverse)))).headD c.start < c.n := by
    cases z : back c T (argL (ends c (wk c T.reverse))) with
    | nil => exact g.st
    | cons q r => exact back_lt g T _ q (by rw [z]; exact List.mem_cons_self)
  have go := (g.go _ _ hq a.1).1
  have a2 : minL (ends c (wk c T.reverse)) = gI (wk c T.reverse) (argL (ends c (wk c T.reverse))) + gI c.S (argL (ends c (wk c T.reverse))) := a.2
  have go' : 0 ≤ gI (gR c.W ((back c T (argL (ends c (wk c T.reverse)))).headD c.start)) (argL (ends c (wk c T.reverse))) + gI c.S (argL (ends c (wk c T.reverse))) - gI c.S ((back c T (argL (ends c (wk c T.reverse)))).headD c.start) := go
  obtain ⟨v, ev, lv⟩ := low g T (back c T (argL (ends c (wk c T.reverse)))) (back_len c T _).symm (back_lt g T _)
  have m : least c T.reverse ≤ v := minL_le ((mem_ids (fw_len T.reverse)).mpr ⟨_, hq, ev⟩)
  omega
end Po
namespace Po
theorem stepW_len (c : Pr) (w e : List Int) : (stepW c w e).length = c.n := mk_len _ _
theorem wk_snoc (c : Pr) (T : List (List Int)) (e : List Int) : wk c (T ++ [e]) = stepW c (wk c T) e := by unfold wk; rw [List.foldl_append]; rfl
theorem wk_len {c : Pr} (g : Good c) : ∀ T : List (List Int), (wk c T).length = c.n := by
  intro T
  unfold wk
  suffices h : ∀ (T : List (List Int)) w, w.length = c.n → (T.foldl (stepW c) w).length = c.n from h T _ (g.r _ g.st)
  intro T
  induction T with
  | nil => exact fun w h => h
  | cons e T ih => exact fun w h => ih _ (stepW_len _ _ _)
def worksL (c : Pr) (T : List (List Int)) : List (List Int) := (List.range (T.length + 1)).map fun t => wk c (T.take t)
theorem worksL_len (c : Pr) (T : List (List Int)) : (worksL c T).length = T.length + 1 := by simp [worksL]
theorem worksL_at (c : Pr) {T : List (List Int)} {i : Nat} (h : i ≤ T.length) : (worksL c T)[i]? = some (wk c (T.take i)) := by simp [worksL, show i < T.length + 1 by omega]
theorem worksL_nil (c : Pr) : worksL c [] = [gR c.W c.start] := rfl
theorem worksL_snoc (c : Pr) (T : List (List Int)) (e : List Int) : worksL c (T ++ [e]) = worksL c T ++ [stepW c (wk c T) e] := by
  apply List.ext_getElem?
  intro i
  rcases Nat.lt_trichotomy i (T.length + 1) with h | h | h
  · rw [worksL_at c (by rw [List.length_append]; simp; omega), List.getElem?_append_left (by rw [worksL_len]; omega), worksL_at c (by omega), List.take_append_of_le_length (by omega)]
  · have e1 : i = (worksL c T).length := by rw [worksL_len]; exact h
    rw [worksL_at c (by rw [List.length_append]; simp; omega), List.getElem?_append_right (by omega), e1, Nat.sub_self, worksL_len, List.take_of_length_le (by simp), wk_snoc]
    rfl
  · rw [List.getElem?_eq_none (by rw [worksL_len, List.length_append]; simp; omega), List.getElem?_eq_none (by rw [List.length_append, worksL_len]; simp; omega)]
/-- where the plan that is found backwards is, i tasks from the end -/
def plc (c : Pr) (R : List (List Int)) (p : Nat) (i : Nat) : Nat := (p :: back c R p).getD i 0
theorem back_at (c : Pr) : ∀ (R : List (List Int)) (p i : Nat) (e : List Int), R[i]? = some e → (back c R p)[i]? = some (argL (sums c (wk c (R.drop (i + 1)).reverse) e (plc c R p i)))
  | [], p, i, e, h => by simp at h
  | e' :: R, p, 0, e, h => by
    cases h
    rfl
  | e' :: R, p, i + 1, e, h => by
    have ih := back_at c R (argL (sums c (wk c R.reverse) e' p)) i e h
    exact ih
theorem plc_succ {c : Pr} {R : List (List Int)} {p i q : Nat} (h : (back c R p)[i]? = some q) : plc c R p (i + 1) = q := by
  unfold plc
  rw [List.getD_eq_getElem?_getD, List.getElem?_cons_succ, h]
  rfl
theorem drop_rev {α : Type} (T : List α) (i : Nat) : (T.reverse.drop i).reverse = T.take (T.length - i) := by
  rw [List.drop_reverse, List.reverse_reverse]
theorem rev_at {α : Type} {T : List α} {i : Nat} (h : i < T.length) : T.reverse[i]? = T[T.length - 1 - i]? := List.getElem?_reverse h
end Po
/-! the prices that are drawn -/
namespace Po
def itD : Nat → Int → Int
  | 0, c => c
  | n + 1, c => itD n (c / 100003)
theorem itD_succ (n : Nat) (c : Int) : itD (n + 1) c = itD n c / 100003 := by
  induction n generalizing c with
  | zero => rfl
  | succ n ih => exact ih (c / 100003)
def drawF (ns : List Int) (k : Nat) : Int :=
  if ns.length = 0 then (k : Int) * 5 % 7 else
  if gI ns (k % ns.length) ≥ 1000000000000000000 then itD (min (k / ns.length) 60) (gI ns (k % ns.length)) % 100003
  else (gI ns (k % ns.length) * 48271 + (k : Int) * 69621 + 13) % 2147483647 * 16807 % 2147483629
theorem drawF_nn (ns : List Int) (k : Nat) : 0 ≤ drawF ns k := by
  unfold drawF
  split
  · omega
  · split
    · exact Int.emod_nonneg _ (by decide)
    · exact Int.emod_nonneg _ (by decide)
def nF (ns : List Int) : Nat := (1 + drawF ns 0 % 5).toNat
theorem nF_b (ns : List Int) : 1 ≤ nF ns ∧ nF ns ≤ 5 ∧ ((nF ns : Nat) : Int) = 1 + drawF ns 0 % 5 := by
  unfold nF
  have := Int.emod_nonneg (drawF ns 0) (show (5 : Int) ≠ 0 by decide)
  have := Int.emod_lt_of_pos (drawF ns 0) (show (0 : Int) < 5 by decide)
  omega
def szF (ns : List Int) (k : Nat) : Int := 1 + drawF ns (1 + k) % 30
def szL (ns : List Int) : List Int := mk 4 (szF ns)
def bitF (d : Int) : Nat → Int
  | 0 => d % 2
  | 1 => d / 2 % 2
  | 2 => d / 4 % 2
  | _ => d / 8 % 2
def layL (ns : List Int) (x : Nat) : List Int := [drawF ns (6 + x) % 2, drawF ns (6 + x) / 2 % 2, drawF ns (6 + x) / 4 % 2, drawF ns (6 + x) / 8 % 2]
theorem layL_at (ns : List Int) (x k : Nat) (h : k < 4) : gI (layL ns x) k = bitF (drawF ns (6 + x)) k := by
  match k, h with
  | 0, _ => rfl
  | 1, _ => rfl
  | 2, _ => rfl
  | 3, _ => rfl
def laysL (ns : List Int) : List (List Int) := (List.range (nF ns)).map (layL ns)
def absF (i : Int) : Int := if i < 0 then -i else i
def stF (ns : List Int) (x : Nat) : Int := (mk 4 fun k => gI (szL ns) k * gI (layL ns x) k).sum
def wyF (ns : List Int) (x y : Nat) : Int := (mk 4 fun k => gI (szL ns) k * absF (gI (layL ns x) k - gI (layL ns y) k)).sum
def costF (ns : List Int) : Pr := ⟨nF ns, mk (nF ns) (stF ns), (List.range (nF ns)).map fun x => mk (nF ns) (wyF ns x), (drawF ns 12 % (nF ns : Int)).toNat⟩
theorem costF_start (ns : List Int) : (((costF ns).start : Nat) : Int) = drawF ns 12 % (nF ns : Int) := by
  show ((drawF ns 12 % (nF ns : Int)).toNat : Int) = _
  have b := nF_b ns
  have := Int.emod_nonneg (drawF ns 12) (show ((nF ns : Nat) : Int) ≠ 0 by omega)
  omega
theorem costF_W {ns : List Int} {x : Nat} (h : x < nF ns) : gR (costF ns).W x = mk (nF ns) (wyF ns x) := by
  apply gR_at
  show ((List.range (nF ns)).map fun x => mk (nF ns) (wyF ns x))[x]? = _
  simp [h]
theorem sum4 (f : Nat → Int) : (mk 4 f).sum = f 0 + (f 1 + (f 2 + (f 3 + 0))) := rfl
theorem sz_nn (ns : List Int) {k : Nat} (h : k < 4) : 0 ≤ gI (szL ns) k := by
  unfold szL
  rw [gI_mk h]
  unfold szF
  have := Int.emod_nonneg (drawF ns (1 + k)) (show (30 : Int) ≠ 0 by decide)
  omega
theorem bit01 (d : Int) (k : Nat) : bitF d k = 0 ∨ bitF d k = 1 := by
  unfold bitF
  split <;> omega
theorem one_go {s a b : Int} (hs : 0 ≤ s) (ha : a = 0 ∨ a = 1) (hb : b = 0 ∨ b = 1) : 0 ≤ s * absF (a - b) + s * b - s * a ∧ (s * absF (a - b) + s * b - s * a) % 2 = 0 := by
  rcases ha with rfl | rfl <;> rcases hb with rfl | rfl <;> simp [absF] <;> omega
theorem costF_good (ns : List Int) : Good (costF ns) := by
  have b := nF_b ns
  refine ⟨b.1, mk_len _ _, by show ((List.range (nF ns)).map _).length = _; rw [List.length_map, List.length_range]; rfl, fun i hi => ?_, ?_, fun i (hi : i < nF ns) => ?_, fun x y (hx : x < nF ns) (hy : y < nF ns) => ?_⟩
  · rw [costF_W hi]
    exact mk_len _ _
  · have := costF_start ns
    have := Int.emod_lt_of_pos (drawF ns 12) (show (0 : Int) < (nF ns : Int) by omega)
    show (costF ns).start < nF ns
    omega
  · rw [costF_W hi, gI_mk hi]
    unfold wyF
    rw [sum4]
    simp [absF]
  · rw [costF_W hx, gI_mk hy]
    show 0 ≤ wyF ns x y + gI (mk (nF ns) (stF ns)) y - gI (mk (nF ns) (stF ns)) x ∧ (wyF ns x y + gI (mk (nF ns) (stF ns)) y - gI (mk (nF ns) (stF ns)) x) % 2 = 0
    rw [gI_mk hx, gI_mk hy]
    have o : ∀ k, k < 4 → 0 ≤ gI (szL ns) k * absF (gI (layL ns x) k - gI (layL ns y) k) + gI (szL ns) k * gI (layL ns y) k - gI (szL ns) k * gI (layL ns x) k ∧ (gI (szL ns) k * absF (gI (layL ns x) k - gI (layL ns y) k) + gI (szL ns) k * gI (layL ns y) k - gI (szL ns) k * gI (layL ns x) k) % 2 = 0 := fun k hk => by
      rw [layL_at ns x k hk, layL_at ns y k hk]
      exact one_go (sz_nn ns hk) (bit01 _ _) (bit01 _ _)
    have o0 := o 0 (by decide)
    have o1 := o 1 (by decide)
    have o2 := o 2 (by decide)
    have o3 := o 3 (by decide)
    unfold wyF stF
    rw [sum4, sum4, sum4]
    omega
def taskF (d : Int) (n : Nat) : List Int := mk n fun k => d / (1 + 7 * (k : Int) * (k : Int)) % (if d % 2 = 0 then 4 else 40)
end Po
namespace K1
open PySem PySem.Spec PyProof.Rows L2 Ow Po Z3
def topS (i : Nat) : Stmt := PySem.Challenge.pw_turnshelves_k47_papers_without_the_form.main.body.getD i (.Pass ⟨0, 0, 0, 0⟩)
/-- the names that the top leaves alone -/
structure Bl (mg : Str → Option Value) : Prop where
  range : mg "range" = none
  len : mg "len" = none
  int : mg "int" = none
  list : mg "list" = none
  zip : mg "zip" = none
  min : mg "min" = none
  sum : mg "sum" = none
  abs : mg "abs" = none
  isinstance : mg "isinstance" = none
  tuple : mg "tuple" = none
  bool : mg "bool" = none
  all : mg "all" = none
  any : mg "any" = none
  enumerate : mg "enumerate" = none
  max : mg "max" = none
  reversed : mg "reversed" = none
def LI (H : Hp) (a : Addr) (xs : List Int) : Prop := H a = some (.lst (xs.map V.int))
theorem LI.same {H H' : Hp} {a : Addr} {xs : List Int} (s : Same H H') (h : LI H a xs) : LI H' a xs := s _ _ h
theorem LI.seq {K : PySem.W.Frag} {H : Hp} {a : Addr} {xs : List Int} (h : LI H a xs) : SqL K H a (xs.map V.int) := SqL.of h
theorem li_at {xs : List Int} {i : Nat} (h : i < xs.length) : (xs.map V.int)[i]? = some (V.int (gI xs i)) := by rw [List.getElem?_map, at_gI h]; rfl
/-- a list of lists of ints, none of which is av -/
structure LL (av : Addr → Prop) (H : Hp) (a : Addr) (xss : List (List Int)) : Prop where
  ex : ∃ ts : List Addr, H a = some (.lst (ts.map V.ref)) ∧ ts.length = xss.length ∧ (∀ (i : Nat) (t : Addr) (xs : List Int), ts[i]? = some t → xss[i]? = some xs → LI H t xs) ∧ ∀ t ∈ ts, ¬ av t
theorem LL.same {av : Addr → Prop} {H H' : Hp} {a : Addr} {xss : List (List Int)} (s : Same H H') (h : LL av H a xss) : LL av H' a xss := by
  obtain ⟨ts, e, l, g, n⟩ := h
  exact ⟨ts, s _ _ e, l, fun i t xs e1 e2 => s _ _ (g i t xs e1 e2), n⟩
/-- the place i -/
theorem LL.at {av : Addr → Prop} {H : Hp} {a : Addr} {xss : List (List Int)} (h : LL av H a xss) {i : Nat} {xs : List Int} (e : xss[i]? = some xs) : ∃ ys t, H a = some (.lst ys) ∧ ys.length = xss.length ∧ ys[i]? = some (.ref t) ∧ LI H t xs ∧ ¬ av t := by
  obtain ⟨ts, f, l, g, n⟩ := h
  have hi := (List.getElem?_eq_some_iff.mp e).1
  have ht : i < ts.length := by rw [l]; exact hi
  refine ⟨_, ts[i], f, by rw [List.length_map, l], by simp [ht], g i _ xs (List.getElem?_eq_getElem ht) e, n _ (List.getElem_mem ht)⟩
/-- but for the places in Z all stays -/
def Bt (Z : Addr → Prop) (H H' : Hp) : Prop := ∀ b o, ¬ Z b → H b = some o → H' b = some o
theorem Bt.same {Z : Addr → Prop} {H H' : Hp} (s : Same H H') : Bt Z H H' := fun b o _ e => s b o e
theorem Bt.trans {Z : Addr → Prop} {H H1 H2 : Hp} (a : Bt Z H H1) (b : Bt Z H1 H2) : Bt Z H H2 := fun c o n e => b c o n (a c o n e)
theorem Bt.put {Z : Addr → Prop} {H : Hp} {p : Addr} {o : HO} (z : Z p) : Bt Z H (upd H p o) := fun b u n e => by rw [upd_ne (fun t => n (by rw [t]; exact z))]; exact e
theorem Bt.new {Z : Addr → Prop} {H : Hp} {p : Addr} {o : HO} (n : H p = none) : Bt Z H (upd H p o) := Bt.same (Same.new n)
theorem LI.bt {Z : Addr → Prop} {H H' : Hp} {a : Addr} {xs : List Int} (s : Bt Z H H') (n : ¬ Z a) (h : LI H a xs) : LI H' a xs := s _ _ n h
theorem LL.bt {av Z : Addr → Prop} {H H' : Hp} {a : Addr} {xss : List (List Int)} (s : Bt Z H H') (n : ¬ Z a) (hz : ∀ t, Z t → av t ∨ ∀ xs : List Int, ¬ LI H t xs) (h : LL av H a xss) : LL av H' a xss := by
  obtain ⟨ts, f, l, g, na⟩ := h
  refine ⟨ts, s _ _ n f, l, fun i t xs e1 e2 => s _ _ (fun z => ?_) (g i t xs e1 e2), na⟩
  rcases hz t z with y | y
  · exact na t (List.mem_of_getElem? e1) y
  · exact y xs (g i t xs e1 e2)
theorem LL.snoc {av : Addr → Prop} {H H' : Hp} {a t : Addr} {xss : List (List Int)} {xs : List Int} {ys : List V} (h : LL av H a xss) (f : H a = some (.lst ys)) (fa : H' a = some (.lst (ys ++ [.ref t]))) (ft : LI H' t xs) (nt : ¬ av t)
    (s : ∀ b zs, LI H b zs → ¬ av b → LI H' b zs) : LL av H' a (xss ++ [xs]) := by
  obtain ⟨ts, f', l, g, na⟩ := h
  rw [f] at f'
  cases f'
  refine ⟨ts ++ [t], by rw [fa, List.map_append]; rfl, by rw [List.length_append, List.length_append, l]; rfl, fun i u zs e1 e2 => ?_, fun u m => ?_⟩
  · rcases Nat.lt_trichotomy i ts.length with h1 | h1 | h1
    · rw [List.getElem?_append_left h1] at e1
      rw [List.getElem?_append_left (by omega)] at e2
      exact s u zs (g i u zs e1 e2) (na u (List.mem_of_getElem? e1))
    · have a1 : t = u := by rw [h1] at e1; simpa using e1
      have a2 : xs = zs := by rw [h1, l] at e2; simpa using e2
      rw [← a1, ← a2]
      exact ft
    · rw [List.getElem?_eq_none (by rw [List.length_append, List.length_singleton]; omega)] at e1
      cases e1
  · rcases List.mem_append.mp m with m | m
    · exact na u m
    · rw [List.mem_singleton.mp m]; exact nt
/-- the attributes of a policy, in their order -/
def polF (st sA wA now sp tA kA : V) : List (Str × V) := putF "works" kA (putF "tasks" tA (putF "spent" sp (putF "now" now (putF "ways" wA (putF "stands" sA (putF "start" st []))))))
def pNames : List Str := ["start", "stands", "ways", "now", "spent", "tasks", "works"]
theorem pn_ne : pNames.Nodup := by decide +kernel
theorem k_start_stands : ¬ (("start" : Str) = "stands") := by decide +kernel
theorem k_start_ways : ¬ (("start" : Str) = "ways") := by decide +kernel
theorem k_start_now : ¬ (("start" : Str) = "now") := by decide +kernel
theorem k_start_spent : ¬ (("start" : Str) = "spent") := by decide +kernel
theorem k_start_tasks : ¬ (("start" : Str) = "tasks") := by decide +kernel
theorem k_start_works : ¬ (("start" : Str) = "works") := by decide +kernel
theorem k_stands_start : ¬ (("stands" : Str) = "start") := by decide +kernel
theorem k_stands_ways : ¬ (("stands" : Str) = "ways") := by decide +kernel
theorem k_stands_now : ¬ (("stands" : Str) = "now") := by decide +kernel
theorem k_stands_spent : ¬ (("stands" : Str) = "spent") := by decide +kernel
theorem k_stands_tasks : ¬ (("stands" : Str) = "tasks") := by decide +kernel
theorem k_stands_works : ¬ (("stands" : Str) = "works") := by decide +kernel
theorem k_ways_start : ¬ (("ways" : Str) = "start") := by decide +kernel
theorem k_ways_stands : ¬ (("ways" : Str) = "stands") := by decide +kernel
theorem k_ways_now : ¬ (("ways" : Str) = "now") := by decide +kernel
theorem k_ways_spent : ¬ (("ways" : Str) = "spent") := by decide +kernel
theorem k_ways_tasks : ¬ (("ways" : Str) = "tasks") := by decide +kernel
theorem k_ways_works : ¬ (("ways" : Str) = "works") := by decide +kernel
theorem k_now_start : ¬ (("now" : Str) = "start") := by decide +kernel
theorem k_now_stands : ¬ (("now" : Str) = "stands") := by decide +kernel
theorem k_now_ways : ¬ (("now" : Str) = "ways") := by decide +kernel
theorem k_now_spent : ¬ (("now" : Str) = "spent") := by decide +kernel
theorem k_now_tasks : ¬ (("now" : Str) = "tasks") := by decide +kernel
theorem k_now_works : ¬ (("now" : Str) = "works") := by decide +kernel
theorem k_spent_start : ¬ (("spent" : Str) = "start") := by decide +kernel
theorem k_spent_stands : ¬ (("spent" : Str) = "stands") := by decide +kernel
theorem k_spent_ways : ¬ (("spent" : Str) = "ways") := by decide +kernel
theorem k_spent_now : ¬ (("spent" : Str) = "now") := by decide +kernel
theorem k_spent_tasks : ¬ (("spent" : Str) = "tasks") := by decide +kernel
theorem k_spent_works : ¬ (("spent" : Str) = "works") := by decide +kernel
theorem k_tasks_start : ¬ (("tasks" : Str) = "start") := by decide +kernel
theorem k_tasks_stands : ¬ (("tasks" : Str) = "stands") := by decide +kernel
theorem k_tasks_ways : ¬ (("tasks" : Str) = "ways") := by decide +kernel
theorem k_tasks_now : ¬ (("tasks" : Str) = "now") := by decide +kernel
theorem k_tasks_spent : ¬ (("tasks" : Str) = "spent") := by decide +kernel
theorem k_tasks_works : ¬ (("tasks" : Str) = "works") := by decide +kernel
theorem k_works_start : ¬ (("works" : Str) = "start") := by decide +kernel
theorem k_works_stands : ¬ (("works" : Str) = "stands") := by decide +kernel
theorem k_works_ways : ¬ (("works" : Str) = "ways") := by decide +kernel
theorem k_works_now : ¬ (("works" : Str) = "now") := by decide +kernel
theorem k_works_spent : ¬ (("works" : Str) = "spent") := by decide +kernel
theorem k_works_tasks : ¬ (("works" : Str) = "tasks") := by decide +kernel
theorem polF_start (st sA wA now sp tA kA : V) : (polF st sA wA now sp tA kA).lookup ("start" : Str) = some st := by
  unfold polF
  rw [lookup_putF, if_neg k_start_works, lookup_putF, if_neg k_start_tasks, lookup_putF, if_neg k_start_spent, lookup_putF, if_neg k_start_now, lookup_putF, if_neg k_start_ways, lookup_putF, if_neg k_start_stands, lookup_putF, if_pos rfl]
theorem polF_stands (st sA wA now sp tA kA : V) : (polF st sA wA now sp tA kA).lookup ("stands" : Str) = some sA := by
  unfold polF
  rw [lookup_putF, if_neg k_stands_works, lookup_putF, if_neg k_stands_tasks, lookup_putF, if_neg k_stands_spent, lookup_putF, if_neg k_stands_now, lookup_putF, if_neg k_stands_ways, lookup_putF, if_pos rfl]
theorem polF_ways (st sA wA now sp tA kA : V) : (polF st sA wA now sp tA kA).lookup ("ways" : Str) = some wA := by
  unfold polF
  rw [lookup_putF, if_neg k_ways_works, lookup_putF, if_neg k_ways_tasks, lookup_putF, if_neg k_ways_spent, lookup_putF, if_neg k_ways_now, lookup_putF, if_pos rfl]
theorem polF_now (st sA wA now sp tA kA : V) : (polF st sA wA now sp tA kA).lookup ("now" : Str) = some now := by
  unfold polF
  rw [lookup_putF, if_neg k_now_works, lookup_putF, if_neg k_now_tasks, lookup_putF, if_neg k_now_spent, lookup_putF, if_pos rfl]
theorem polF_spent (st sA wA now sp tA kA : V) : (polF st sA wA now sp tA kA).lookup ("spent" : Str) = some sp := by
  unfold polF
  rw [lookup_putF, if_neg k_spent_works, lookup_putF, if_neg k_spent_tasks, lookup_putF, if_pos rfl]
theorem polF_tasks (st sA wA now sp tA kA : V) : (polF st sA wA now sp tA kA).lookup ("tasks" : Str) = some tA := by
  unfold polF
  rw [lookup_putF, if_neg k_tasks_works, lookup_putF, if_pos rfl]
theorem polF_works (st sA wA now sp tA kA : V) : (polF st sA wA now sp tA kA).lookup ("works" : Str) = some kA := by
  unfold polF
  rw [lookup_putF, if_pos rfl]
theorem polF_len (st sA wA now sp tA kA : V) : (polF st sA wA now sp tA kA).length ≤ 7 := by
  unfold polF
  have h := fun f v fs => putF_len f v fs
  refine Nat.le_trans (h _ _ _) (Nat.succ_le_succ (Nat.le_trans (h _ _ _) (Nat.succ_le_succ (Nat.le_trans (h _ _ _) (Nat.succ_le_succ (Nat.le_trans (h _ _ _) (Nat.succ_le_succ (Nat.le_trans (h _ _ _) (Nat.succ_le_succ (Nat.le_trans (h _ _ _) (Nat.succ_le_succ (h _ _ _))))))))))))
theorem putF_ne {f g : Str} {v u : V} {fs : List (Str × V)} (n : ¬ f = g) : putF f v ((g, u) :: fs) = (g, u) :: putF f v fs := by
  show (if g = f then _ else _) = _
  rw [if_neg (fun e => n e.symm)]
theorem putF_eq {f : Str} {v u : V} {fs : List (Str × V)} : putF f v ((f, u) :: fs) = (f, v) :: fs := by
  show (if f = f then _ else _) = _
  rw [if_pos rfl]
theorem putF_nil {f : Str} {v : V} : putF f v [] = [(f, v)] := rfl
theorem polF_eq (st sA wA now sp tA kA : V) : polF st sA wA now sp tA kA = ([("start", st), ("stands", sA), ("ways", wA), ("now", now), ("spent", sp), ("tasks", tA), ("works", kA)] : List (Str × V)) := by
  unfold polF
  rw [putF_nil, putF_ne k_stands_start, putF_nil, putF_ne k_ways_start, putF_ne k_ways_stands, putF_nil, putF_ne k_now_start, putF_ne k_now_stands, putF_ne k_now_ways, putF_nil,
    putF_ne k_spent_start, putF_ne k_spent_stands, putF_ne k_spent_ways, putF_ne k_spent_now, putF_nil, putF_ne k_tasks_start, putF_ne k_tasks_stands, putF_ne k_tasks_ways, putF_ne k_tasks_now, putF_ne k_tasks_spent, putF_nil,
    putF_ne k_works_start, putF_ne k_works_stands, putF_ne k_works_ways, putF_ne k_works_now, putF_ne k_works_spent, putF_ne k_works_tasks, putF_nil]
theorem put_now (st sA wA now sp tA kA v : V) : putF "now" v (polF st sA wA now sp tA kA) = polF st sA wA v sp tA kA := by
  rw [polF_eq, polF_eq, putF_ne k_now_start, putF_ne k_now_stands, putF_ne k_now_ways, putF_eq]
theorem put_spent (st sA wA now sp tA kA v : V) : putF "spent" v (polF st sA wA now sp tA kA) = polF st sA wA now v tA kA := by
  rw [polF_eq, polF_eq, putF_ne k_spent_start, putF_ne k_spent_stands, putF_ne k_spent_ways, putF_ne k_spent_now, putF_eq]
theorem polF_no_going (st sA wA now sp tA kA : V) : (polF st sA wA now sp tA kA).lookup ("going" : Str) = none := by
  unfold polF
  rw [lookup_putF, if_neg (show ¬ (("going" : Str) = "works") by decide +kernel), lookup_putF, if_neg (show ¬ (("going" : Str) = "tasks") by decide +kernel), lookup_putF, if_neg (show ¬ (("going" : Str) = "spent") by decide +kernel), lookup_putF, if_neg (show ¬ (("going" : Str) = "now") by decide +kernel), lookup_putF, if_neg (show ¬ (("going" : Str) = "ways") by decide +kernel), lookup_putF, if_neg (show ¬ (("going" : Str) = "stands") by decide +kernel), lookup_putF, if_neg (show ¬ (("going" : Str) = "start") by decide +kernel)]
  rfl
theorem polF_no_sums (st sA wA now sp tA kA : V) : (polF st sA wA now sp tA kA).lookup ("sums" : Str) = none := by
  unfold polF
  rw [lookup_putF, if_neg (show ¬ (("sums" : Str) = "works") by decide +kernel), lookup_putF, if_neg (show ¬ (("sums" : Str) = "tasks") by decide +kernel), lookup_putF, if_neg (show ¬ (("sums" : Str) = "spent") by decide +kernel), lookup_putF, if_neg (show ¬ (("sums" : Str) = "now") by decide +kernel), lookup_putF, if_neg (show ¬ (("sums" : Str) = "ways") by decide +kernel), lookup_putF, if_neg (show ¬ (("sums" : Str) = "stands") by decide +kernel), lookup_putF, if_neg (show ¬ (("sums" : Str) = "start") by decide +kernel)]
  rfl
theorem polF_no_serve (st sA wA now sp tA kA : V) : (polF st sA wA now sp tA kA).lookup ("serve" : Str) = none := by
  unfold polF
  rw [lookup_putF, if_neg (show ¬ (("serve" : Str) = "works") by decide +kernel), lookup_putF, if_neg (show ¬ (("serve" : Str) = "tasks") by decide +kernel), lookup_putF, if_neg (show ¬ (("serve" : Str) = "spent") by decide +kernel), lookup_putF, if_neg (show ¬ (("serve" : Str) = "now") by decide +kernel), lookup_putF, if_neg (show ¬ (("serve" : Str) = "ways") by decide +kernel), lookup_putF, if_neg (show ¬ (("serve" : Str) = "stands") by decide +kernel), lookup_putF, if_neg (show ¬ (("serve" : Str) = "start") by decide +kernel)]
  rfl
theorem polF_no_hindsight (st sA wA now sp tA kA : V) : (polF st sA wA now sp tA kA).lookup ("hindsight" : Str) = none := by
  unfold polF
  rw [lookup_putF, if_neg (show ¬ (("hindsight" : Str) = "works") by decide +kernel), lookup_putF, if_neg (show ¬ (("hindsight" : Str) = "tasks") by decide +kernel), lookup_putF, if_neg (show ¬ (("hindsight" : Str) = "spent") by decide +kernel), lookup_putF, if_neg (show ¬ (("hindsight" : Str) = "now") by decide +kernel), lookup_putF, if_neg (show ¬ (("hindsight" : Str) = "ways") by decide +kernel), lookup_putF, if_neg (show ¬ (("hindsight" : Str) = "stands") by decide +kernel), lookup_putF, if_neg (show ¬ (("hindsight" : Str) = "start") by decide +kernel)]
  rfl
theorem polF_no_paper (st sA wA now sp tA kA : V) : (polF st sA wA now sp tA kA).lookup ("paper" : Str) = none := by
  unfold polF
  rw [lookup_putF, if_neg (show ¬ (("paper" : Str) = "works") by decide +kernel), lookup_putF, if_neg (show ¬ (("paper" : Str) = "tasks") by decide +kernel), lookup_putF, if_neg (show ¬ (("paper" : Str) = "spent") by decide +kernel), lookup_putF, if_neg (show ¬ (("paper" : Str) = "now") by decide +kernel), lookup_putF, if_neg (show ¬ (("paper" : Str) = "ways") by decide +kernel), lookup_putF, if_neg (show ¬ (("paper" : Str) = "stands") by decide +kernel), lookup_putF, if_neg (show ¬ (("paper" : Str) = "start") by decide +kernel)]
  rfl
/-- a policy stands at p -/
structure PolAt (C : Addr) (Z : Addr → Prop) (H : Hp) (p sA wA tA kA : Addr) (c : Pr) (now : Nat) (spent : Int) (T Kw : List (List Int)) : Prop where
  ob : ∃ dx, H p = some (.ins C dx (polF (.int (c.start : Nat)) (.ref sA) (.ref wA) (.int (now : Nat)) (.int spent) (.ref tA) (.ref kA)))
  s : LI H sA c.S
  w : LL (fun t => (t = tA ∨ t = kA) ∨ Z t) H wA c.W
  t : LL (fun t => (t = tA ∨ t = kA) ∨ Z t) H tA T
  k : LL (fun t => (t = tA ∨ t = kA) ∨ Z t) H kA Kw
  ne : tA ≠ kA ∧ wA ≠ tA ∧ wA ≠ kA ∧ sA ≠ tA ∧ sA ≠ kA
  al : ∀ b, Z b → H b ≠ none
  nz : ¬ Z p ∧ ¬ Z sA ∧ ¬ Z wA ∧ ¬ Z tA ∧ ¬ Z kA
theorem al_same {Z : Addr → Prop} {H H' : Hp} (s : Same H H') (h : ∀ b, Z b → H b ≠ none) : ∀ b, Z b → H' b ≠ none := fun b z n => by
  cases e : H b with
  | none => exact h b z e
  | some o => rw [s b o e] at n; cases n
theorem al_upd {Z : Addr → Prop} {H : Hp} {x : Addr} {o : HO} (h : ∀ b, Z b → H b ≠ none) : ∀ b, Z b → upd H x o b ≠ none := fun b z n => by
  by_cases w : b = x
  · rw [w, upd_same] at n; cases n
  · rw [upd_ne w] at n; exact h b z n
theorem PolAt.same {C : Addr} {Z : Addr → Prop} {H H' : Hp} {p sA wA tA kA : Addr} {c : Pr} {now : Nat} {spent : Int} {T Kw : List (List Int)} (s : Same H H') (h : PolAt C Z H p sA wA tA kA c now spent T Kw) : PolAt C Z H' p sA wA tA kA c now spent T Kw := by
  obtain ⟨dx, e⟩ := h.ob
  exact ⟨⟨dx, s _ _ e⟩, h.s.same s, h.w.same s, h.t.same s, h.k.same s, h.ne, al_same s h.al, h.nz⟩
/-- what the walk asks of the class -/
structure Txt (K : PySem.W.Frag) (mg : Str → Option Value) (C : Addr) : Prop where
  cl : Cls K C
  start : NoAttr K C "start"
  stands : NoAttr K C "stands"
  ways : NoAttr K C "ways"
  now : NoAttr K C "now"
  spent : NoAttr K C "spent"
  tasks : NoAttr K C "tasks"
  works : NoAttr K C "works"
  mgC : mg "Policy" = some (.ref C)
abbrev sPol : Stmt := topS 19
end K1
namespace K1
open PySem PySem.Spec PyProof.Rows L2 Ow Po Z3
abbrev sfirst_least : Stmt := topS 18
theorem scfirst_least : FnScope ["numbers"] ["numbers"] (defScope sfirst_least) := ⟨rfl, rfl, rfl, by decide +kernel, rfl, by decide +kernel, by decide +kernel⟩
def spFirstLeast (K : PySem.W.Frag) : Sp := fun vs H Q _ => ∃ (a : Addr) (xs : List Int), vs = [.ref a] ∧ SqL K H a (xs.map V.int) ∧ xs ≠ [] ∧ Q (.int (argL xs : Nat)) H
def spGoing (C : Addr) : Sp := fun vs H Q _ => ∃ (Z : Addr → Prop) (p sA wA tA kA : Addr) (c : Pr) (now : Nat) (spent : Int) (T Kw : List (List Int)) (x y : Nat), vs = [.ref p, .int (x : Nat), .int (y : Nat)] ∧
  PolAt C Z H p sA wA tA kA c now spent T Kw ∧ Good c ∧ x < c.n ∧ y < c.n ∧ Q (.int (goF c x y)) H
def spSums (C : Addr) : Sp := fun vs H Q _ => ∃ (Z : Addr → Prop) (p sA wA tA kA : Addr) (c : Pr) (now : Nat) (spent : Int) (T Kw : List (List Int)) (i y : Nat) (w e : List Int), vs = [.ref p, .int (i : Nat), .int (y : Nat)] ∧
  PolAt C Z H p sA wA tA kA c now spent T Kw ∧ Good c ∧ y < c.n ∧ c.n ≤ 1000 ∧ Kw[i]? = some w ∧ T[i]? = some e ∧ w.length = c.n ∧ e.length = c.n ∧ ∀ H' l, Same H H' → H l = none → LI H' l (sums c w e y) → Q (.ref l) H'
theorem flat_ints (xs : List Int) : (xs.map V.int).all flatV = true := by
  rw [List.all_eq_true]
  intro v m
  obtain ⟨i, _, rfl⟩ := List.mem_map.mp m
  rfl
section
variable {P : Program} {w : World} {K : PySem.W.Frag} {mg : Str → Option Value} {base : Heap}
theorem ok_first_least {f : Addr} {fd : FuncData} (F : Fun K "first_least" "first_least" sfirst_least f fd) (T : Bl mg) :
    FnOk P w K mg base CX0 1 f fd ["numbers"] (spFirstLeast K) := by
  refine F.ok scfirst_least (fun vs H Q E h => ?_) (fun cdv A outer s H vs Q E hr h => ?_)
  · obtain ⟨a, xs, rfl, _⟩ := h
    rfl
  · obtain ⟨a, xs, rfl, hs, ne, q⟩ := h
    refine ⟨_, pss_one (ps_ret (pe_bm PySem.F.plainAttrs_list PySem.F.slot_list_index PySem.F.type_list_index mt_index (pv 0) (pa_cons (pe_callB (cr_min rfl) (by rfl) T.min (by decide +kernel) (pa_cons (pv 0) pa_nil)) pa_nil))), ?_⟩
    refine ⟨_, rfl, .inl ⟨rfl, _, hs⟩, _, rfl, a, xs, rfl, hs, List.length_pos_iff.mpr ne, fun m hm hle => ?_⟩
    have em : m = minL xs := minL_eq hm hle
    refine ⟨a, _, .int m, argL xs, .int (minL xs), rfl, rfl, hs, rfl, flat_ints xs, ?_, ?_, fun j z hj hz => ?_, q⟩
    · rw [List.getElem?_map, argL_at ne]
      rfl
    · rw [em]
      simp [eqV]
    · rw [List.getElem?_map] at hz
      cases e : xs[j]? with
      | none => rw [e] at hz; cases hz
      | some u =>
        rw [e] at hz
        cases hz
        have := argL_no hj e
        rw [em]
        simpa [eqV] using this
abbrev sGo : Stmt := inClass sPol 1
theorem scGo : FnScope ["self", "first", "second"] ["self", "first", "second"] (defScope sGo) := ⟨rfl, rfl, rfl, by decide +kernel, rfl, by decide +kernel, by decide +kernel⟩
theorem ok_going {f C : Addr} {fd : FuncData} (F : Fun K "going" "Policy.going" sGo f fd) (X : Txt K mg C) :
    FnOk P w K mg base CX0 1 f fd ["self", "first", "second"] (spGoing C) := by
  refine F.ok scGo (fun vs H Q E h => ?_) (fun cdv A outer s H vs Q E hr h => ?_)
  · obtain ⟨Z, p, sA, wA, tA, kA, c, now, spent, T, Kw, x, y, rfl, _⟩ := h
    rfl
  · obtain ⟨Z, p, sA, wA, tA, kA, c, now, spent, T, Kw, x, y, rfl, D, g, hx, hy, q⟩ := h
    obtain ⟨dx, ob⟩ := D.ob
    refine ⟨_, pss_one (ps_ret (pe_op op_fdiv (pe_op op_sub (pe_op op_add (pe_ix ix_list (pe_ix ix_list (pe_fld (pv 0) rfl) (pv 1) (fun _ _ => rfl)) (pv 2) (fun _ _ => rfl)) (pe_ix ix_list (pe_fld (pv 0) rfl) (pv 2) (fun _ _ => rfl))) (pe_ix ix_list (pe_fld (pv 0) rfl) (pv 1) (fun _ _ => rfl))) pe_int)), ?_⟩
    obtain ⟨ws, t, ew, lw, e1, et, _⟩ := D.w.at (at_gR (W := c.W) (i := x) (by rw [g.w]; exact hx))
    have ly : y < (gR c.W x).length := by rw [g.r x hx]; exact hy
    refine ⟨_, rfl, p, C, dx, _, _, rfl, ob, X.cl, X.ways, polF_ways _ _ _ _ _ _ _, _, rfl, _, _, _, _, rfl, rfl, SqL.of ew, atI_nat e1, _, rfl, _, _, _, _, rfl, rfl, et.seq, atI_nat (li_at ly), _, rfl, p, C, dx, _, _, rfl, ob, X.cl, X.stands, polF_stands _ _ _ _ _ _ _, _, rfl,
      _, _, _, _, rfl, rfl, D.s.seq, atI_nat (li_at (by rw [g.s]; exact hy)), _, _, rfl, rfl, _, rfl, p, C, dx, _, _, rfl, ob, X.cl, X.stands, polF_stands _ _ _ _ _ _ _, _, rfl, _, _, _, _, rfl, rfl, D.s.seq, atI_nat (li_at (by rw [g.s]; exact hx)), _, _, rfl, rfl, _, _, rfl, rfl, ⟨by decide, by decide⟩, ?_⟩
    exact q
end
end K1
namespace K1
open PySem PySem.Spec PyProof.Rows L2 Ow Po Z3
theorem tri_some : ∀ {xs ys zs : List V} {j : Nat} {x y u : V}, xs[j]? = some x → ys[j]? = some y → zs[j]? = some u → (tri xs ys zs)[j]? = some [x, y, u]
  | [], _, _, j, x, y, u, h, _, _ => by simp at h
  | _ :: _, [], _, j, x, y, u, _, h, _ => by simp at h
  | _ :: _, _ :: _, [], j, x, y, u, _, _, h => by simp at h
  | a :: xs, b :: ys, c :: zs, 0, x, y, u, h1, h2, h3 => by
    cases h1
    cases h2
    cases h3
    rfl
  | a :: xs, b :: ys, c :: zs, j + 1, x, y, u, h1, h2, h3 => tri_some (xs := xs) (ys := ys) (zs := zs) (j := j) h1 h2 h3
abbrev sSums : Stmt := inClass sPol 2
abbrev NSums : List Str := ["self", "at", "place", "parts", "work", "excess", "row"]
theorem scSums : FnScope NSums ["self", "at", "place"] (defScope sSums) := ⟨rfl, rfl, rfl, by decide +kernel, rfl, by decide +kernel, by decide +kernel⟩
section
variable {P : Program} {w : World} {K : PySem.W.Frag} {mg : Str → Option Value} {base : Heap}
theorem ok_sums {f C : Addr} {fd : FuncData} (F : Fun K "sums" "Policy.sums" sSums f fd) (T0 : Bl mg) (X : Txt K mg C) :
    FnOk P w K mg base CX0 1 f fd ["self", "at", "place"] (spSums C) := by
  refine F.ok scSums (fun vs H Q E h => ?_) (fun cdv A outer s H vs Q E hr h => ?_)
  · obtain ⟨Z, p, sA, wA, tA, kA, c, now, spent, T, Kw, i, y, w', e, rfl, _⟩ := h
    rfl
  · obtain ⟨Z, p, sA, wA, tA, kA, c, now, spent, T, Kw, i, y, w', e, rfl, D, g, hy, hn, eK, eT, lw, le, q⟩ := h
    obtain ⟨dx, ob⟩ := D.ob
    refine ⟨_, pss_cons (ps_set (i := 3) scSums.nd rfl (.inl rfl) (pe_listZip3 rfl (by rfl) T0.list (by rfl) T0.zip (pa_cons (pe_ix ix_list (pe_fld (pv 0) rfl) (pv 1) (fun _ _ => rfl)) (pa_cons (pe_ix ix_list (pe_fld (pv 0) rfl) (pv 1) (fun _ _ => rfl)) (pa_cons (pe_fld (pv 0) rfl) pa_nil)))))
      (pss_one (ps_ret (pe_lc (own := [("work", 4), ("excess", 5), ("row", 6)]) (g := gTup K 3 (gCons (gName 4) (gCons (gName 5) (gCons (gName 6) gNil)))) (tt := tYes) rfl scSums.nd (pi_list (pv 3)) (blkOk_by (own := [("work", 4), ("excess", 5), ("row", 6)]) (N := NSums) (sc := defScope sSums) (by decide +kernel))
        (fun _ _ _ _ _ => pg_tup rfl (pgs_cons (pg_name (i := 4) scSums.nd rfl (Or.inl rfl)) (pgs_cons (pg_name (i := 5) scSums.nd rfl (Or.inl rfl)) (pgs_cons (pg_name (i := 6) scSums.nd rfl (Or.inl rfl)) pgs_nil))))
        (fun _ _ _ _ _ => pts_nil) (fun _ _ _ _ _ => pe_op op_add (pe_op op_add (pv 4) (pe_op op_mul pe_int (pv 5))) (pe_ix (ix_list_K rfl) (pv 6) (pv 2) (fun _ _ => rfl)))))), ?_⟩
    obtain ⟨ks, t1, ek, lk, e1, f1, _⟩ := D.k.at eK
    obtain ⟨ts, t2, et, lt, e2, f2, _⟩ := D.t.at eT
    obtain ⟨ws, ew, lws, gws, _⟩ := D.w.ex
    have sl : (w'.map V.int).length = (e.map V.int).length := by rw [List.length_map, List.length_map, lw, le]
    have sl2 : (w'.map V.int).length = (ws.map V.ref).length := by rw [List.length_map, List.length_map, lw, lws, g.w]
    refine ⟨_, rfl, p, C, dx, _, _, rfl, ob, X.cl, X.works, polF_works _ _ _ _ _ _ _, _, rfl, _, _, _, _, rfl, rfl, SqL.of ek, atI_nat e1, _, rfl, p, C, dx, _, _, rfl, ob, X.cl, X.tasks, polF_tasks _ _ _ _ _ _ _, _, rfl, _, _, _, _, rfl, rfl, SqL.of et, atI_nat e2,
      _, rfl, p, C, dx, _, _, rfl, ob, X.cl, X.ways, polF_ways _ _ _ _ _ _ _, _, _, _, _, _, _, rfl, f1.seq, f2.seq, SqL.of ew, sl, sl2, fun H1 l us nt => ?_⟩
    obtain ⟨s1, nl, nus, _, _, lu, el, eu⟩ := nt
    have tl : us.length = c.n := by rw [lu, tri_len sl sl2, List.length_map, lw]
    refine ⟨_, rfl, _, rfl, ⟨_, SqL.of el⟩, fun D0 hD => ?_⟩
    have lu' : (us.map V.ref).length = c.n := by rw [List.length_map, tl]
    refine lc_mk (walk_list (K := K) (a := l) (xs := us.map V.ref)) (fun j => V.int (sumF c w' e y j)) (by rw [lu']; exact small hn (by decide)) hD (fun H s => SqL.of (s _ _ el)) (fun j x H2 H2' N hj s2 yy fin => ?_) fun H2 s2 eD => ?_
    · obtain ⟨rfl, ex⟩ := yy
      rw [lu'] at hj
      have hu : j < us.length := by rw [tl]; exact hj
      have hw : j < ws.length := by rw [lws, g.w]; exact hj
      rw [List.getElem?_map, List.getElem?_eq_getElem hu] at ex
      cases ex
      have tr := tri_some (li_at (xs := w') (i := j) (by rw [lw]; exact hj)) (li_at (xs := e) (i := j) (by rw [le]; exact hj)) (show (ws.map V.ref)[j]? = some (V.ref ws[j]) by simp [hw])
      have tu := s2 _ _ (eu j _ _ (List.getElem?_eq_getElem hu) tr)
      have rw' := (gws j _ _ (List.getElem?_eq_getElem hw) (at_gR (W := c.W) (i := j) (by rw [g.w]; exact hj))).same (Same.trans s1 s2)
      refine ⟨_, _, rfl, SqT.of tu, rfl, _, _, rfl, _, _, rfl, _, _, rfl, rfl, rfl, ?_⟩
      refine ⟨_, rfl, _, rfl, _, _, rfl, rfl, .inl ⟨by decide, by decide⟩, _, _, rfl, rfl, _, rfl, _, rfl, _, _, _, _, rfl, rfl, rw'.seq, atI_nat (li_at (by rw [g.r j hj]; exact hy)), _, _, rfl, rfl, ?_⟩
      exact fin _ (Same.refl _)
    · refine q H2 D0 (Same.trans s1 s2) (Same.free s1 hD) ?_
      unfold LI sums mk
      rw [eD, lu', List.map_map]
      rfl
end
end K1
namespace K1
open PySem PySem.Spec PyProof.Rows L2 Ow Po Z3
abbrev sInit : Stmt := inClass sPol 0
abbrev NInit : List Str := ["self", "start", "stands", "ways", "row"]
theorem scInit : FnScope NInit ["self", "start", "stands", "ways"] (defScope sInit) := ⟨rfl, rfl, rfl, by decide +kernel, rfl, by decide +kernel, by decide +kernel⟩
def spInit (K : PySem.W.Frag) (C : Addr) : Sp := fun vs H Q _ => ∃ (p dx a b : Addr) (c : Pr) (av : Addr → Prop), vs = [.ref p, .int (c.start : Nat), .ref a, .ref b] ∧ H p = some (.ins C dx []) ∧ LI H a c.S ∧ LL av H b c.W ∧ Good c ∧ c.n ≤ 1000 ∧
  ∀ H' sA wA tA kA, PolAt C (fun b => H b ≠ none ∧ b ≠ p) H' p sA wA tA kA c c.start 0 [] [gR c.W c.start] → (∀ q o, H q = some o → q ≠ p → H' q = some o) → H sA = none ∧ H wA = none ∧ H tA = none ∧ H kA = none → Q .non H'
theorem few {f : Str} {v : V} {fs : List (Str × V)} {n : Nat} (h : fs.length ≤ n) : (putF f v fs).length ≤ n + 1 := Nat.le_trans (putF_len f v fs) (Nat.succ_le_succ h)
section
variable {P : Program} {w : World} {K : PySem.W.Frag} {mg : Str → Option Value} {base : Heap}
theorem ok_init {f C : Addr} {fd : FuncData} (F : Fun K "__init__" "Policy.__init__" sInit f fd) (T0 : Bl mg) (X : Txt K mg C) :
    FnOk P w K mg base CX0 1 f fd ["self", "start", "stands", "ways"] (spInit K C) := by
  refine F.ok scInit (fun vs H Q E h => ?_) (fun cdv A outer s H vs Q E hr h => ?_)
  · obtain ⟨p, dx, a, b, c, av, rfl, _⟩ := h
    rfl
  · obtain ⟨p, dx, a, b, c, av, rfl, hp, ha, hb, g, hn, q⟩ := h
    refine ⟨_, pss_cons (ps_fld (pv 0) (pv 1) rfl)
      (pss_cons (ps_fld (pv 0) (pe_callTy call_list_of (by rfl) T0.list (by decide +kernel) (pa_cons (pv 2) pa_nil)) rfl)
      (pss_cons (ps_fld (pv 0) (pe_lc (own := [("row", 4)]) (g := gName 4) (tt := tYes) rfl scInit.nd (pi_list (pv 3)) (blkOk_by (own := [("row", 4)]) (N := NInit) (sc := defScope sInit) (by decide +kernel))
        (fun _ _ _ _ _ => pg_name (i := 4) scInit.nd rfl (Or.inl rfl)) (fun _ _ _ _ _ => pts_nil) (fun _ _ _ _ _ => pe_callTy (call_list_K rfl) (by rfl) T0.list (by decide +kernel) (pa_cons (pv 4) pa_nil))) rfl)
      (pss_cons (ps_fld (pv 0) (pv 1) rfl)
      (pss_cons (ps_fld (pv 0) pe_int rfl)
      (pss_cons (ps_fld (pv 0) (pe_lst pa_nil) rfl)
      (pss_one (ps_fld (pv 0) (pe_lst (pa_cons (pe_callTy call_list_of (by rfl) T0.list (by decide +kernel) (pa_cons (pe_ix ix_list (pe_fld (pv 0) rfl) (pv 1) (fun _ _ => rfl)) pa_nil)) pa_nil)) rfl))))))), ?_⟩
    obtain ⟨ws, ew, lw, gw, _⟩ := hb.ex
    -- self.start
    refine ⟨_, rfl, _, rfl, p, C, dx, _, rfl, hp, X.cl, X.start, (by show 0 < 1000; decide), ?_⟩
    have ap : a ≠ p := ne_of ha hp (by intro z; cases z)
    have bp : b ≠ p := ne_of ew hp (by intro z; cases z)
    -- self.stands
    refine ⟨_, rfl, a, _, rfl, .inl (SqL.of (by rw [upd_ne ap]; exact ha)), fun sA ns => ?_⟩
    have sp : p ≠ sA := fun z => by rw [← z, upd_same] at ns; cases ns
    have hsA : H sA = none := by rw [upd_ne sp.symm] at ns; exact ns
    refine ⟨_, rfl, p, C, dx, _, rfl, (by rw [upd_ne sp, upd_same]), X.cl, X.stands, Nat.lt_of_le_of_lt (few (Nat.le_refl _)) (by show 0 + 1 < 1000; decide), ?_⟩
    -- self.ways
    have B1 : Bt (fun z => z = p) H (upd (upd (upd H p (.ins C dx (putF "start" (.int (c.start : Nat)) []))) sA (.lst (c.S.map V.int))) p (.ins C dx (putF "stands" (.ref sA) (putF "start" (.int (c.start : Nat)) [])))) :=
      ((Bt.put (Z := fun z => z = p) rfl).trans (Bt.new ns)).trans (Bt.put rfl)
    have es1 : (upd (upd (upd H p (.ins C dx (putF "start" (.int (c.start : Nat)) []))) sA (.lst (c.S.map V.int))) p (.ins C dx (putF "stands" (.ref sA) (putF "start" (.int (c.start : Nat)) [])))) sA = some (.lst (c.S.map V.int)) := by rw [upd_ne sp.symm, upd_same]
    have ep1 : (upd (upd (upd H p (.ins C dx (putF "start" (.int (c.start : Nat)) []))) sA (.lst (c.S.map V.int))) p (.ins C dx (putF "stands" (.ref sA) (putF "start" (.int (c.start : Nat)) [])))) p = some (.ins C dx (putF "stands" (.ref sA) (putF "start" (.int (c.start : Nat)) []))) := upd_same
    generalize (upd (upd (upd H p (.ins C dx (putF "start" (.int (c.start : Nat)) []))) sA (.lst (c.S.map V.int))) p (.ins C dx (putF "stands" (.ref sA) (putF "start" (.int (c.start : Nat)) [])))) = H1 at B1 es1 ep1 ⊢
    have ew1 := B1 _ _ bp ew
    refine ⟨_, rfl, b, rfl, ⟨_, SqL.of ew1⟩, fun wA nw => ?_⟩
    have lws : (ws.map V.ref).length = c.n := by rw [List.length_map, lw, g.w]
    refine lc_new (walk_list (K := K) (a := b) (xs := ws.map V.ref)) (fun i => (gR c.W i).map V.int) (by rw [lws]; exact small hn (by decide)) nw (fun H s => SqL.of (s _ _ ew1)) (fun i x H2 H2' N hi s2 yy fin => ?_) fun H2 us s2 eD lu gu => ?_
    · obtain ⟨rfl, ex⟩ := yy
      rw [lws] at hi
      have hu : i < ws.length := by rw [lw, g.w]; exact hi
      rw [List.getElem?_map, List.getElem?_eq_getElem hu] at ex
      cases ex
      have et := gw i _ _ (List.getElem?_eq_getElem hu) (at_gR (W := c.W) (i := i) (by rw [g.w]; exact hi))
      have np : ws[i] ≠ p := ne_of et hp (by intro z; cases z)
      refine ⟨rfl, _, rfl, _, _, rfl, .inl (SqL.of (s2 _ _ (B1 _ _ np et))), fun l nl => ?_⟩
      exact fin _ l (Same.new nl) nl upd_same
    · rw [lws] at lu
      have nwH : H wA = none := by
        cases z : H wA with
        | none => rfl
        | some o =>
          have wp : wA ≠ p := fun t => by rw [t, ep1] at nw; cases nw
          rw [B1 _ _ wp z] at nw
          cases nw
      have wp : wA ≠ p := fun t => by rw [t, ep1] at nw; cases nw
      have wsn : sA ≠ wA := fun t => by rw [← t, es1] at nw; cases nw
      have gus : ∀ i t, us[i]? = some t → t ≠ p ∧ t ≠ wA ∧ t ≠ sA := fun i t et => by
        obtain ⟨f1, f2, _⟩ := gu i t et
        exact ⟨(fun z => by rw [z, ep1] at f1; cases f1), f2, (fun z => by rw [z, es1] at f1; cases f1)⟩
      refine ⟨_, rfl, p, C, dx, _, rfl, s2 _ _ ep1, X.cl, X.ways, Nat.lt_of_le_of_lt (few (few (Nat.le_refl _))) (by show 0 + 1 + 1 < 1000; decide), ?_⟩
      have B2 : Bt (fun z => z = p) H (upd H2 p (.ins C dx (putF "ways" (.ref wA) (putF "stands" (.ref sA) (putF "start" (.int (c.start : Nat)) []))))) := (B1.trans (Bt.same s2)).trans (Bt.put rfl)
      have es2 : (upd H2 p (.ins C dx (putF "ways" (.ref wA) (putF "stands" (.ref sA) (putF "start" (.int (c.start : Nat)) []))))) sA = some (.lst (c.S.map V.int)) := by rw [upd_ne sp.symm]; exact s2 _ _ es1
      have ew2 : (upd H2 p (.ins C dx (putF "ways" (.ref wA) (putF "stands" (.ref sA) (putF "start" (.int (c.start : Nat)) []))))) wA = some (.lst (us.map V.ref)) := by rw [upd_ne wp]; exact eD
      have eu2 : ∀ i t, us[i]? = some t → (upd H2 p (.ins C dx (putF "ways" (.ref wA) (putF "stands" (.ref sA) (putF "start" (.int (c.start : Nat)) []))))) t = some (.lst ((gR c.W i).map V.int)) := fun i t et => by
        rw [upd_ne (gus i t et).1]
        exact (gu i t et).2.2
      have ep2 : (upd H2 p (.ins C dx (putF "ways" (.ref wA) (putF "stands" (.ref sA) (putF "start" (.int (c.start : Nat)) []))))) p = some (.ins C dx (putF "ways" (.ref wA) (putF "stands" (.ref sA) (putF "start" (.int (c.start : Nat)) [])))) := upd_same
      generalize (upd H2 p (.ins C dx (putF "ways" (.ref wA) (putF "stands" (.ref sA) (putF "start" (.int (c.start : Nat)) []))))) = H3 at B2 es2 ew2 eu2 ep2 ⊢
      -- self.now, self.spent
      refine ⟨_, rfl, _, rfl, p, C, dx, _, rfl, ep2, X.cl, X.now, Nat.lt_of_le_of_lt (few (few (few (Nat.le_refl _)))) (by show 0 + 1 + 1 + 1 < 1000; decide), ?_⟩
      refine ⟨_, rfl, p, C, dx, _, rfl, upd_same, X.cl, X.spent, Nat.lt_of_le_of_lt (few (few (few (few (Nat.le_refl _))))) (by show 0 + 1 + 1 + 1 + 1 < 1000; decide), ?_⟩
      -- self.tasks
      refine ⟨by show 0 ≤ sizeLine; decide, fun tA nt => ?_⟩
      have tp : p ≠ tA := fun z => by rw [← z, upd_same] at nt; cases nt
      have nt3 : H3 tA = none := by rw [upd_ne tp.symm, upd_ne tp.symm] at nt; exact nt
      refine ⟨_, rfl, p, C, dx, _, rfl, (by rw [upd_ne tp, upd_same]), X.cl, X.tasks, Nat.lt_of_le_of_lt (few (few (few (few (few (Nat.le_refl _)))))) (by show 0 + 1 + 1 + 1 + 1 + 1 < 1000; decide), ?_⟩
      have st : sA ≠ tA := fun z => by rw [← z, es2] at nt3; cases nt3
      have wt : wA ≠ tA := fun z => by rw [← z, ew2] at nt3; cases nt3
      have ut : ∀ i t, us[i]? = some t → t ≠ tA := fun i t et z => by
        have := eu2 i t et
        rw [z, nt3] at this
        cases this
      have tnH : H tA = none := by
        cases z : H tA with
        | none => rfl
        | some o => rw [B2 _ _ tp.symm z] at nt3; cases nt3
      have B3 : ∀ b o, ¬ b = p → H3 b = some o → (upd (upd (upd (upd H3 p (.ins C dx (putF "now" (.int (c.start : Nat)) (putF "ways" (.ref wA) (putF "stands" (.ref sA) (putF "start" (.int (c.start : Nat)) [])))))) p
        (.ins C dx (putF "spent" (.int 0) (putF "now" (.int (c.start : Nat)) (putF "ways" (.ref wA) (putF "stands" (.ref sA) (putF "start" (.int (c.start : Nat)) []))))))) tA (.lst [])) p
        (.ins C dx (putF "tasks" (.ref tA) (putF "spent" (.int 0) (putF "now" (.int (c.start : Nat)) (putF "ways" (.ref wA) (putF "stands" (.ref sA) (putF "start" (.int (c.start : Nat)) [])))))))) b = some o := fun b o n e => by
        rw [upd_ne n, upd_ne (ne_of_none e nt3), upd_ne n, upd_ne n]
        exact e
      have et3 : (upd (upd (upd (upd H3 p (.ins C dx (putF "now" (.int (c.start : Nat)) (putF "ways" (.ref wA) (putF "stands" (.ref sA) (putF "start" (.int (c.start : Nat)) [])))))) p
        (.ins C dx (putF "spent" (.int 0) (putF "now" (.int (c.start : Nat)) (putF "ways" (.ref wA) (putF "stands" (.ref sA) (putF "start" (.int (c.start : Nat)) []))))))) tA (.lst [])) p
        (.ins C dx (putF "tasks" (.ref tA) (putF "spent" (.int 0) (putF "now" (.int (c.start : Nat)) (putF "ways" (.ref wA) (putF "stands" (.ref sA) (putF "start" (.int (c.start : Nat)) [])))))))) tA = some (.lst []) := by rw [upd_ne tp.symm, upd_same]
      have ep3 : (upd (upd (upd (upd H3 p (.ins C dx (putF "now" (.int (c.start : Nat)) (putF "ways" (.ref wA) (putF "stands" (.ref sA) (putF "start" (.int (c.start : Nat)) [])))))) p
        (.ins C dx (putF "spent" (.int 0) (putF "now" (.int (c.start : Nat)) (putF "ways" (.ref wA) (putF "stands" (.ref sA) (putF "start" (.int (c.start : Nat)) []))))))) tA (.lst [])) p
        (.ins C dx (putF "tasks" (.ref tA) (putF "spent" (.int 0) (putF "now" (.int (c.start : Nat)) (putF "ways" (.ref wA) (putF "stands" (.ref sA) (putF "start" (.int (c.start : Nat)) [])))))))) p =
        some (.ins C dx (putF "tasks" (.ref tA) (putF "spent" (.int 0) (putF "now" (.int (c.start : Nat)) (putF "ways" (.ref wA) (putF "stands" (.ref sA) (putF "start" (.int (c.start : Nat)) []))))))) := upd_same
      generalize (upd (upd (upd (upd H3 p (.ins C dx (putF "now" (.int (c.start : Nat)) (putF "ways" (.ref wA) (putF "stands" (.ref sA) (putF "start" (.int (c.start : Nat)) [])))))) p
        (.ins C dx (putF "spent" (.int 0) (putF "now" (.int (c.start : Nat)) (putF "ways" (.ref wA) (putF "stands" (.ref sA) (putF "start" (.int (c.start : Nat)) []))))))) tA (.lst [])) p
        (.ins C dx (putF "tasks" (.ref tA) (putF "spent" (.int 0) (putF "now" (.int (c.start : Nat)) (putF "ways" (.ref wA) (putF "stands" (.ref sA) (putF "start" (.int (c.start : Nat)) [])))))))) = H4 at B3 et3 ep3 ⊢
      have hst : c.start < us.length := by rw [lu]; exact g.st
      have e0 := List.getElem?_eq_getElem hst
      have n0 := (gus _ _ e0).1
      refine ⟨_, rfl, p, C, dx, _, _, rfl, ep3, X.cl, X.ways, ?_, _, rfl, wA, _, _, V.ref us[c.start], rfl, rfl, SqL.of (B3 _ _ wp ew2), atI_nat (by rw [List.getElem?_map, e0]; rfl), _, _, rfl, .inl (SqL.of (B3 _ _ n0 (eu2 _ _ e0))), fun t0 nt0 => ?_⟩
      · rw [lookup_putF, if_neg k_ways_tasks, lookup_putF, if_neg k_ways_spent, lookup_putF, if_neg k_ways_now, lookup_putF, if_pos rfl]
      refine ⟨by show 1 ≤ sizeLine; decide, fun kA nk => ?_⟩
      have tk0 : t0 ≠ kA := fun z => by rw [← z, upd_same] at nk; cases nk
      have pk : p ≠ kA := fun z => by rw [← z, upd_ne (ne_of_none ep3 nt0), ep3] at nk; cases nk
      have pt : p ≠ t0 := ne_of_none ep3 nt0
      have nk4 : H4 kA = none := by rw [upd_ne tk0.symm] at nk; exact nk
      refine ⟨_, rfl, p, C, dx, _, rfl, (by rw [upd_ne pk, upd_ne pt]; exact ep3), X.cl, X.works, Nat.lt_of_le_of_lt (few (few (few (few (few (few (Nat.le_refl _))))))) (by show 0 + 1 + 1 + 1 + 1 + 1 + 1 < 1000; decide), ?_⟩
      have B5 : ∀ b o, ¬ b = p → H4 b = some o → (upd (upd (upd H4 t0 (.lst ((gR c.W c.start).map V.int))) kA (.lst [V.ref t0])) p (.ins C dx (polF (.int (c.start : Nat)) (.ref sA) (.ref wA) (.int (c.start : Nat)) (.int 0) (.ref tA) (.ref kA)))) b = some o := fun b o n e => by
        rw [upd_ne n, upd_ne (ne_of_none e nk4), upd_ne (ne_of_none e nt0)]
        exact e
      have a1 : ∀ b o, ¬ b = p → H3 b = some o → b ≠ kA := fun b o n e => ne_of_none (B3 b o n e) nk4
      have tk : tA ≠ kA := ne_of_none et3 nk4
      have nkH : H kA = none := by
        cases z : H kA with
        | none => rfl
        | some o => rw [B3 _ _ pk.symm (B2 _ _ pk.symm z)] at nk4; cases nk4
      refine q _ sA wA tA kA ⟨⟨dx, upd_same⟩, B5 _ _ sp.symm (B3 _ _ sp.symm es2), ⟨us, B5 _ _ wp (B3 _ _ wp ew2), by rw [lu, g.w], fun i t xs f1 f2 => ?_, fun t m => ?_⟩, ⟨[], B5 _ _ tp.symm et3, rfl, fun i t xs f1 f2 => by simp at f1, fun t m => by cases m⟩,
        ⟨[t0], ?_, rfl, fun i t xs f1 f2 => ?_, fun t m => ?_⟩, ⟨tk, wt, a1 _ _ wp ew2, st, a1 _ _ sp.symm es2⟩, fun b z n => ?_, ⟨fun z => z.2 rfl, fun z => z.1 hsA, fun z => z.1 nwH, fun z => z.1 tnH, fun z => z.1 nkH⟩⟩ (fun b o e n => B5 _ _ n (B3 _ _ n (B2 _ _ n e))) ⟨hsA, nwH, tnH, nkH⟩
      · have := gR_at f2
        rw [← this]
        exact B5 _ _ (gus i t f1).1 (B3 _ _ (gus i t f1).1 (eu2 i t f1))
      · obtain ⟨i, ei⟩ := List.mem_iff_getElem?.mp m
        rintro ((z | z) | z)
        · exact ut i t ei z
        · exact a1 _ _ (gus i t ei).1 (eu2 i t ei) z
        · have f1 := (gu i t ei).1
          cases w : H t with
          | none => exact z.1 w
          | some o => rw [B1 _ _ z.2 w] at f1; cases f1
      · rw [upd_ne pk.symm, upd_same]
        rfl
      · cases i with
        | zero =>
          cases f1
          cases f2
          show upd (upd (upd H4 t0 _) kA _) p _ t0 = _
          rw [upd_ne pt.symm, upd_ne tk0, upd_same]
        | succ i => simp at f1
      · rw [List.mem_singleton.mp m]
        rintro ((z | z) | z)
        · rw [z, et3] at nt0; cases nt0
        · exact tk0 z
        · cases w : H t0 with
          | none => exact z.1 w
          | some o => rw [B3 _ _ z.2 (B2 _ _ z.2 w)] at nt0; cases nt0
      · cases w : H b with
        | none => exact z.1 w
        | some o => exact absurd ((B5 _ _ z.2 (B3 _ _ z.2 (B2 _ _ z.2 w))).symm.trans n) (fun t => by cases t)
end
end K1
namespace K1
open PySem PySem.Spec PyProof.Rows L2 Ow Po Z3
abbrev sServe : Stmt := inClass sPol 3
abbrev NServe : List Str := ["self", "task", "at", "numbers", "chosen", "place"]
theorem scServe : FnScope NServe ["self", "task"] (defScope sServe) := ⟨rfl, rfl, rfl, by decide +kernel, rfl, by decide +kernel, by decide +kernel⟩
def chF (c : Pr) (w e : List Int) (now : Nat) : Nat := if minL (sums c w e now) < gI (sums c w e now) now then argL (sums c w e now) else now
theorem chF_lt {c : Pr} (g : Good c) {w e : List Int} {now : Nat} (h : now < c.n) : chF c w e now < c.n := by
  unfold chF
  split
  · exact (argmk g.pos).1
  · exact h
def spServe (K : PySem.W.Frag) (C : Addr) : Sp := fun vs H Q _ => ∃ (Z : Addr → Prop) (p a sA wA tA kA : Addr) (c : Pr) (now : Nat) (spent : Int) (T Kw : List (List Int)) (w e : List Int), vs = [.ref p, .ref a] ∧ PolAt C Z H p sA wA tA kA c now spent T Kw ∧ Good c ∧ c.n ≤ 1000 ∧
  LI H a e ∧ e.length = c.n ∧ a ≠ tA ∧ a ≠ kA ∧ Kw.length = T.length + 1 ∧ Kw[T.length]? = some w ∧ w.length = c.n ∧ now < c.n ∧ T.length < 1000 ∧
  ∀ H', PolAt C Z H' p sA wA tA kA c (chF c w e now) (spent + (goF c now (chF c w e now) + gI e (chF c w e now))) (T ++ [e]) (Kw ++ [stepW c w e]) → Bt (fun b => b = p ∨ b = tA ∨ b = kA) H H' → Q (.int (chF c w e now : Nat)) H'
theorem sums_len (c : Pr) (w e : List Int) (y : Nat) : (sums c w e y).length = c.n := mk_len _ _
section
variable {P : Program} {w : World} {K : PySem.W.Frag} {mg : Str → Option Value} {base : Heap}
theorem ok_serve {f C : Addr} {fd : FuncData} (F : Fun K "serve" "Policy.serve" sServe f fd) (T0 : Bl mg) (X : Txt K mg C) (DF : Kn P w K mg base 1 "first_least" ["numbers"] (spFirstLeast K))
    (DG : Kmt P w K mg base C 1 "going" ["self", "first", "second"] (spGoing C)) (DS : Kmt P w K mg base C 1 "sums" ["self", "at", "place"] (spSums C)) :
    FnOk P w K mg base CX0 2 f fd ["self", "task"] (spServe K C) := by
  refine F.ok scServe (fun vs H Q E h => ?_) (fun cdv A outer s H vs Q E hr h => ?_)
  · obtain ⟨Z, p, a, sA, wA, tA, kA, c, now, spent, T, Kw, w', e, rfl, _⟩ := h
    rfl
  · obtain ⟨Z, p, a, sA, wA, tA, kA, c, now, spent, T, Kw, w', e, rfl, D, g, hn, ha, le, at1, at2, lK, eK, lw, hnow, hT, q⟩ := h
    obtain ⟨dx, ob⟩ := D.ob
    refine ⟨_, pss_cons (ps_set (i := 2) scServe.nd rfl (.inr rfl) (pe_callB call_len_seq (by rfl) T0.len PySem.boot_len (pa_cons (pe_fld (pv 0) rfl) pa_nil)))
      (pss_cons (ps_expr (pe_bm PySem.F.plainAttrs_list PySem.F.slot_list_append PySem.F.type_list_append mt_append (pe_fld (pv 0) rfl) (pa_cons (pe_callTy call_list_of (by rfl) T0.list (by decide +kernel) (pa_cons (pv 1) pa_nil)) pa_nil)))
      (pss_cons (ps_expr (pe_bm PySem.F.plainAttrs_list PySem.F.slot_list_append PySem.F.type_list_append mt_append (pe_fld (pv 0) rfl) (pa_cons
        (pe_lc (own := [("place", 5)]) (g := gName 5) (tt := tYes) rfl scServe.nd (pi_range1 (by rfl) T0.range (pa_cons (pe_callB call_len_seq (by rfl) T0.len PySem.boot_len (pa_cons (pe_fld (pv 0) rfl) pa_nil)) pa_nil))
          (blkOk_by (own := [("place", 5)]) (N := NServe) (sc := defScope sServe) (by decide +kernel)) (fun _ _ _ _ _ => pg_name (i := 5) scServe.nd rfl (Or.inl rfl)) (fun _ _ _ _ _ => pts_nil)
          (fun _ _ _ _ _ => pe_callB (call_min_K rfl rfl) (by rfl) T0.min (by decide +kernel) (pa_cons (pe_mt DS hr (pv 0) (pa_cons (pv 2) (pa_cons (pv 5) pa_nil))) pa_nil))) pa_nil)))
      (pss_cons (ps_set (i := 3) scServe.nd rfl (.inl rfl) (pe_mt DS hr (pv 0) (pa_cons (pv 2) (pa_cons (pe_fld (pv 0) rfl) pa_nil))))
      (pss_cons (ps_set (i := 4) scServe.nd rfl (.inl rfl) (pe_fld (pv 0) rfl))
      (pss_mid (ps_if (pt_cmpR op_lt (pe_callB (cr_min rfl) (by rfl) T0.min (by decide +kernel) (pa_cons (pv 3) pa_nil)) (pe_ix ix_list (pv 3) (pv 4) (fun _ _ => rfl)) (nomark _)) (pss_one (ps_set (i := 4) scServe.nd rfl (.inl rfl) (pe_kn DF hr (pa_cons (pv 3) pa_nil)))) pss_nil)
      (pss_cons (ps_fldaug (pv 0) (pe_op op_add (pe_mt DG hr (pv 0) (pa_cons (pe_fld (pv 0) rfl) (pa_cons (pv 4) pa_nil))) (pe_ix ix_list (pv 1) (pv 4) (fun _ _ => rfl))) in_add)
      (pss_cons (ps_fld (pv 0) (pv 4) rfl)
      (pss_one (ps_ret (pv 4)))))))))), ?_⟩
    obtain ⟨ts, et, lts, gts, nts⟩ := D.t.ex
    -- at = len(self.tasks)
    refine ⟨_, rfl, p, C, dx, _, _, rfl, ob, X.cl, X.tasks, polF_tasks _ _ _ _ _ _ _, _, _, rfl, .inl (SqL.of et), ?_⟩
    -- self.tasks.append(list(task))
    refine ⟨_, rfl, p, C, dx, _, _, rfl, ob, X.cl, X.tasks, polF_tasks _ _ _ _ _ _ _, .inl ⟨rfl, _, SqL.of et⟩, _, rfl, a, _, rfl, .inl ha.seq, fun l nl => ?_⟩
    have ltA : tA ≠ l := ne_of_none et nl
    have tlen : (ts.map V.ref).length < sizeLine := by rw [List.length_map, lts]; exact small (Nat.le_of_lt hT) (by decide)
    refine ⟨tA, _, _, rfl, rfl, (by rw [upd_ne ltA]; exact et), tlen, ?_⟩
    have D1 : PolAt C Z (upd (upd H l (.lst (e.map V.int))) tA (.lst (ts.map V.ref ++ [.ref l]))) p sA wA tA kA c now spent (T ++ [e]) Kw := by
      obtain ⟨n1, n2, n3, n4, n5⟩ := D.ne
      have ptA : p ≠ tA := ne_of ob et (by intro z; cases z)
      have B : Bt (fun b => b = tA) H (upd (upd H l (.lst (e.map V.int))) tA (.lst (ts.map V.ref ++ [.ref l]))) := (Bt.new nl).trans (Bt.put (Z := fun b => b = tA) rfl)
      have hz : ∀ t, t = tA → ((t = tA ∨ t = kA) ∨ Z t) ∨ ∀ xs : List Int, ¬ LI H t xs := fun t z => .inl (.inl (.inl z))
      refine ⟨⟨dx, B _ _ ptA ob⟩, D.s.bt B n4, D.w.bt B n2 hz, LL.snoc D.t et upd_same ?_ (fun z => ?_) (fun b zs hb nb => hb.bt B fun z => nb (.inl (.inl z))), D.k.bt B n1.symm hz, D.ne, al_upd (al_upd D.al), D.nz⟩
      · show upd (upd H l _) tA _ l = _
        rw [upd_ne ltA.symm, upd_same]
      · obtain ⟨ks, ek, _⟩ := D.k.ex
        rcases z with (z | z) | z
        · exact ltA z.symm
        · exact ne_of_none ek nl z.symm
        · exact D.al _ z nl
    have B1 : Bt (fun b => b = p ∨ b = tA ∨ b = kA) H (upd (upd H l (.lst (e.map V.int))) tA (.lst (ts.map V.ref ++ [.ref l]))) := (Bt.new nl).trans (Bt.put (Z := fun b => b = p ∨ b = tA ∨ b = kA) (.inr (.inl rfl)))
    have ha1 : LI (upd (upd H l (.lst (e.map V.int))) tA (.lst (ts.map V.ref ++ [.ref l]))) a e := ha.bt B1 (fun z => by
      rcases z with z | z | z
      · rw [z] at ha; rw [ha] at ob; cases ob
      · exact at1 z
      · exact at2 z)
    generalize (upd (upd H l (.lst (e.map V.int))) tA (.lst (ts.map V.ref ++ [.ref l]))) = H1 at D1 B1 ha1 ⊢
    -- self.works.append([..])
    obtain ⟨dx1, ob1⟩ := D1.ob
    obtain ⟨ks, ek, lks, gks, nks⟩ := D1.k.ex
    refine ⟨_, rfl, p, C, dx1, _, _, rfl, ob1, X.cl, X.works, polF_works _ _ _ _ _ _ _, .inl ⟨rfl, _, SqL.of ek⟩, _, rfl, p, C, dx1, _, _, rfl, ob1, X.cl, X.stands, polF_stands _ _ _ _ _ _ _, _, _, rfl, .inl D1.s.seq, _, rfl, ?_, ?_, fun D0 nD => ?_⟩
    · rw [List.length_map, g.s]; omega
    · rw [List.length_map, g.s]; omega
    have en : (((c.S.map V.int).length : Nat) : Int).toNat = c.n := by rw [List.length_map, g.s]; rfl
    have eT1 : (T ++ [e])[(ts.map V.ref).length]? = some e := by rw [List.length_map, lts]; simp
    have eK1 : Kw[(ts.map V.ref).length]? = some w' := by rw [List.length_map, lts]; exact eK
    refine lc_mk (walk_range (lo := 0)) (fun i => V.int (minL (sums c w' e i))) (by rw [en]; exact small hn (by decide)) nD (fun _ _ => trivial) (fun i x H2 H2' N hi s2 yy fin => ?_) fun H2 s2 eD => ?_
    · obtain ⟨rfl, ex⟩ := yy
      rw [en] at hi
      have ex : x = V.int (i : Nat) := by rw [ex]; show V.int (0 + (i : Int)) = _; rw [Int.zero_add]
      subst ex
      have D2 := D1.same s2
      obtain ⟨dx2, ob2⟩ := D2.ob
      refine ⟨rfl, _, rfl, p, dx2, _, rfl, ob2, polF_no_sums _ _ _ _ _ _ _, _, rfl, _, rfl, Z, p, sA, wA, tA, kA, c, now, spent, T ++ [e], Kw, (ts.map V.ref).length, i, w', e, rfl, D2, g, hi, hn, eK1, eT1, lw, le, fun H3 l3 s3 n3 h3 => ?_⟩
      refine ⟨l3, _, rfl, h3.seq, by rw [sums_len]; exact g.pos, fun m hm hle => ?_⟩
      rw [minL_eq hm hle]
      exact fin _ s3
    rw [en] at eD
    have eD' : LI H2 D0 (stepW c w' e) := by
      show H2 D0 = _
      rw [eD]
      unfold stepW mk
      rw [List.map_map]
      rfl
    have D2 := D1.same s2
    have ekH : H2 kA = some (.lst (ks.map V.ref)) := s2 _ _ ek
    refine ⟨kA, _, _, rfl, rfl, ekH, by rw [List.length_map, lks, lK]; exact small (show T.length + 1 ≤ 1000 by omega) (by decide), ?_⟩
    obtain ⟨n1, n2, n3, n4, n5⟩ := D.ne
    have kD : kA ≠ D0 := fun z => by rw [← z, ek] at nD; cases nD
    obtain ⟨ts1, et1, _⟩ := D1.t.ex
    have tD : tA ≠ D0 := fun z => by rw [← z, et1] at nD; cases nD
    have D3 : PolAt C Z (upd H2 kA (.lst (ks.map V.ref ++ [.ref D0]))) p sA wA tA kA c now spent (T ++ [e]) (Kw ++ [stepW c w' e]) := by
      obtain ⟨dx2, ob2⟩ := D2.ob
      have pkA : p ≠ kA := ne_of ob2 ekH (by intro z; cases z)
      have B : Bt (fun b => b = kA) H2 (upd H2 kA (.lst (ks.map V.ref ++ [.ref D0]))) := Bt.put (Z := fun b => b = kA) rfl
      have hz : ∀ t, t = kA → ((t = tA ∨ t = kA) ∨ Z t) ∨ ∀ xs : List Int, ¬ LI H2 t xs := fun t z => .inl (.inl (.inr z))
      refine ⟨⟨dx2, B _ _ pkA ob2⟩, D2.s.bt B n5, D2.w.bt B n3 hz, D2.t.bt B n1 hz, LL.snoc D2.k ekH upd_same (eD'.bt B kD.symm) (fun z => ?_) (fun b zs hb nb => hb.bt B fun z => nb (.inl (.inr z))), D.ne, al_upd D2.al, D.nz⟩
      rcases z with (z | z) | z
      · exact tD z.symm
      · exact kD z.symm
      · exact D1.al _ z nD
    have B3 : Bt (fun b => b = p ∨ b = tA ∨ b = kA) H (upd H2 kA (.lst (ks.map V.ref ++ [.ref D0]))) := (B1.trans (Bt.same s2)).trans (Bt.put (Z := fun b => b = p ∨ b = tA ∨ b = kA) (.inr (.inr rfl)))
    have ha3 : LI (upd H2 kA (.lst (ks.map V.ref ++ [.ref D0]))) a e := (ha1.same s2).bt (Bt.put (Z := fun b => b = kA) rfl) at2
    generalize (upd H2 kA (.lst (ks.map V.ref ++ [.ref D0]))) = H3 at D3 B3 ha3 ⊢
    -- numbers, chosen
    obtain ⟨dx3, ob3⟩ := D3.ob
    have eK3 : (Kw ++ [stepW c w' e])[(ts.map V.ref).length]? = some w' := by rw [List.getElem?_append_left (List.getElem?_eq_some_iff.mp eK1).1]; exact eK1
    refine ⟨_, rfl, p, dx3, _, rfl, ob3, polF_no_sums _ _ _ _ _ _ _, _, rfl, _, rfl, p, C, dx3, _, _, rfl, ob3, X.cl, X.now, polF_now _ _ _ _ _ _ _, Z, p, sA, wA, tA, kA, c, now, spent, T ++ [e], _, (ts.map V.ref).length, now, w', e, rfl, D3, g, hnow, hn, eK3, eT1, lw, le, fun H4 l4 s4 nl4 h4 => ?_⟩
    have D4 := D3.same s4
    obtain ⟨dx4, ob4⟩ := D4.ob
    have sne : sums c w' e now ≠ [] := mk_ne g.pos
    refine ⟨_, rfl, p, C, dx4, _, _, rfl, ob4, X.cl, X.now, polF_now _ _ _ _ _ _ _, ?_⟩
    -- the choice
    refine ⟨fun σ' H' => σ' = [some (.ref p), some (.ref a), some (.int ((ts.map V.ref).length : Nat)), some (.ref l4), some (.int (chF c w' e now : Nat)), none] ∧ H' = H4, ?_, ?_⟩
    · refine ⟨_, rfl, l4, _, rfl, h4.seq, by rw [sums_len]; exact g.pos, fun m hm hle => ?_⟩
      refine ⟨_, rfl, _, rfl, _, _, _, _, rfl, rfl, h4.seq, atI_nat (li_at (by rw [sums_len]; exact hnow)), _, _, rfl, rfl, _, rfl, ?_⟩
      have em : m = minL (sums c w' e now) := minL_eq hm hle
      subst em
      unfold chF
      by_cases hlt : minL (sums c w' e now) < gI (sums c w' e now) now
      · rw [decide_eq_true hlt, if_pos hlt]
        refine iteT ?_
        exact ⟨_, rfl, l4, _, rfl, h4.seq, sne, rfl, rfl⟩
      · rw [decide_eq_false hlt, if_neg hlt]
        refine iteF ?_
        exact ⟨rfl, rfl⟩
    · rintro σ' H' ⟨rfl, rfl⟩
      have hc := chF_lt g (w := w') (e := e) hnow
      refine ⟨_, rfl, p, C, dx4, _, _, rfl, ob4, X.cl, X.spent, polF_spent _ _ _ _ _ _ _, _, rfl, p, dx4, _, rfl, ob4, polF_no_going _ _ _ _ _ _ _, _, rfl, p, C, dx4, _, _, rfl, ob4, X.cl, X.now, polF_now _ _ _ _ _ _ _, _, rfl,
        Z, p, sA, wA, tA, kA, c, now, spent, _, _, now, chF c w' e now, rfl, D4, g, hnow, hc, _, rfl, _, rfl, _, _, _, _, rfl, rfl, (ha3.same s4).seq, atI_nat (li_at (by rw [le]; exact hc)), _, _, rfl, rfl, ?_⟩
      refine ⟨_, _, rfl, rfl, dx4, _, ob4, Nat.lt_of_le_of_lt (polF_len _ _ _ _ _ _ _) (by decide), ?_⟩
      refine ⟨_, rfl, _, rfl, p, C, dx4, _, rfl, upd_same, X.cl, X.now, (by rw [put_spent]; exact Nat.lt_of_le_of_lt (polF_len _ _ _ _ _ _ _) (by decide)), ?_⟩
      refine ⟨_, rfl, ?_⟩
      have B : Bt (fun b => b = p) H' (upd (upd H' p (.ins C dx4 (putF "spent" (.int (spent + (goF c now (chF c w' e now) + gI e (chF c w' e now)))) (polF (.int (c.start : Nat)) (.ref sA) (.ref wA) (.int (now : Nat)) (.int spent) (.ref tA) (.ref kA))))) p
        (.ins C dx4 (putF "now" (.int (chF c w' e now : Nat)) (putF "spent" (.int (spent + (goF c now (chF c w' e now) + gI e (chF c w' e now)))) (polF (.int (c.start : Nat)) (.ref sA) (.ref wA) (.int (now : Nat)) (.int spent) (.ref tA) (.ref kA)))))) :=
        (Bt.put (Z := fun b => b = p) rfl).trans (Bt.put (Z := fun b => b = p) rfl)
      have hz : ∀ t, t = p → ((t = tA ∨ t = kA) ∨ Z t) ∨ ∀ xs : List Int, ¬ LI H' t xs := fun t z => .inr fun xs hx => by
        rw [z] at hx
        rw [show H' p = _ from hx] at ob4
        cases ob4
      obtain ⟨u1, f1, _⟩ := D4.w.ex
      obtain ⟨u2, f2, _⟩ := D4.t.ex
      obtain ⟨u3, f3, _⟩ := D4.k.ex
      refine q _ ⟨⟨dx4, by rw [upd_same, put_spent, put_now]⟩, D4.s.bt B (ne_of D4.s ob4 (by intro z; cases z)), D4.w.bt B (ne_of f1 ob4 (by intro z; cases z)) hz, D4.t.bt B (ne_of f2 ob4 (by intro z; cases z)) hz, D4.k.bt B (ne_of f3 ob4 (by intro z; cases z)) hz, D4.ne, al_upd (al_upd D4.al), D4.nz⟩ ?_
      exact (B3.trans (Bt.same s4)).trans fun b o nb eb => B b o (fun z => nb (.inl z)) eb
end
end K1
namespace K1
open PySem PySem.Spec PyProof.Rows L2 Ow Po Z3
abbrev sHind : Stmt := inClass sPol 4
abbrev NHind : List Str := ["self", "ends", "place", "plan", "at", "work", "standing"]
theorem scHind : FnScope NHind ["self"] (defScope sHind) := ⟨rfl, rfl, rfl, by decide +kernel, rfl, by decide +kernel, by decide +kernel⟩
theorem atI_last {α : Type} {xs : List α} {n : Nat} {v : α} (l : xs.length = n + 1) (h : xs[n]? = some v) : atI xs (-1) = some v := by
  unfold atI ixN
  rw [if_neg (by omega), if_pos (by omega)]
  show xs[((-1 : Int) + (xs.length : Nat)).toNat]? = some v
  rw [show ((-1 : Int) + (xs.length : Nat)).toNat = n by omega]
  exact h
def toI (ps : List Nat) : List Int := ps.map fun (p : Nat) => (p : Int)
def amt (c : Pr) (T : List (List Int)) : Int := (minL (ends c (wk c T)) - gI c.S c.start) / 2
def plan (c : Pr) (T : List (List Int)) : List Nat := (back c T.reverse (argL (ends c (wk c T)))).reverse
theorem plc_lt {c : Pr} (g : Good c) {R : List (List Int)} {p i : Nat} (hp : p < c.n) : plc c R p i < c.n := by
  unfold plc
  rw [List.getD_eq_getElem?_getD]
  cases e : (p :: back c R p)[i]? with
  | none => exact g.pos
  | some q =>
    rcases List.mem_cons.mp (List.mem_of_getElem? e) with z | z
    · rw [z]; exact hp
    · exact back_lt g R p q z
theorem toI_take {ps : List Nat} {i q : Nat} (h : ps[i]? = some q) : toI (ps.take (i + 1)) = toI (ps.take i) ++ [(q : Int)] := by
  unfold toI
  rw [List.take_add_one, h, List.map_append]
  rfl
def spHind (C : Addr) : Sp := fun vs H Q _ => ∃ (Z : Addr → Prop) (p sA wA tA kA : Addr) (c : Pr) (now : Nat) (spent : Int) (T : List (List Int)), vs = [.ref p] ∧ PolAt C Z H p sA wA tA kA c now spent T (worksL c T) ∧ Good c ∧ c.n ≤ 1000 ∧ T.length ≤ 1000 ∧ (∀ e ∈ T, e.length = c.n) ∧
  ∀ H' t l, Same H H' → H t = none → H l = none → H' t = some (.tup [.int (amt c T), .ref l]) → LI H' l (toI (plan c T)) → Q (.ref t) H'
section
variable {P : Program} {w : World} {K : PySem.W.Frag} {mg : Str → Option Value} {base : Heap}
theorem ok_hind {f C : Addr} {fd : FuncData} (F : Fun K "hindsight" "Policy.hindsight" sHind f fd) (T0 : Bl mg) (X : Txt K mg C) (DF : Kn P w K mg base 1 "first_least" ["numbers"] (spFirstLeast K))
    (DS : Kmt P w K mg base C 1 "sums" ["self", "at", "place"] (spSums C)) :
    FnOk P w K mg base CX0 2 f fd ["self"] (spHind C) := by
  refine F.ok scHind (fun vs H Q E h => ?_) (fun cdv A outer s H vs Q E hr h => ?_)
  · obtain ⟨Z, p, sA, wA, tA, kA, c, now, spent, T, rfl, _⟩ := h
    rfl
  · obtain ⟨Z, p, sA, wA, tA, kA, c, now, spent, T, rfl, D, g, hn, hT, le, q⟩ := h
    obtain ⟨dx, ob⟩ := D.ob
    refine ⟨_, pss_cons (ps_setLc (i := 1) (own := [("work", 5), ("standing", 6)]) (g := gTup K 2 (gCons (gName 5) (gCons (gName 6) gNil))) (tt := tYes) rfl scHind.nd rfl rfl (sw_true rfl rfl rfl (by decide +kernel)) (pi_zip (by rfl) T0.zip (pa_cons (pe_ix ix_list (pe_fld (pv 0) rfl) (pe_un un_neg pe_int) (fun _ _ => rfl)) (pa_cons (pe_fld (pv 0) rfl) pa_nil)))
        (blkOk_by (own := [("work", 5), ("standing", 6)]) (N := NHind) (sc := defScope sHind) (by decide +kernel))
        (fun _ _ _ _ _ => pg_tup rfl (pgs_cons (pg_name (i := 5) scHind.nd rfl (Or.inl rfl)) (pgs_cons (pg_name (i := 6) scHind.nd rfl (Or.inl rfl)) pgs_nil))) (fun _ _ _ _ _ => pts_nil) (fun _ _ _ _ _ => pe_op op_add (pv 5) (pv 6)))
      (pss_cons (ps_set (i := 2) scHind.nd rfl (.inl rfl) (pe_kn DF hr (pa_cons (pv 1) pa_nil)))
      (pss_cons (ps_set (i := 3) scHind.nd rfl (.inl rfl) (pe_lst pa_nil))
      (pss_cons (ps_for PassesOwn.never rfl (pi_revR (by rfl) T0.reversed (prg_1 (by rfl) T0.range (pe_callB call_len_seq (by rfl) T0.len PySem.boot_len (pa_cons (pe_fld (pv 0) rfl) pa_nil)))) (pg_name (i := 4) scHind.nd rfl (.inl rfl))
        (pss_cons (ps_set (i := 2) scHind.nd rfl (.inl rfl) (pe_kn DF hr (pa_cons (pe_mt DS hr (pv 0) (pa_cons (pv 4) (pa_cons (pv 2) pa_nil))) pa_nil)))
        (pss_one (ps_expr (pe_bm PySem.F.plainAttrs_list PySem.F.slot_list_append PySem.F.type_list_append mt_append (pv 3) (pa_cons (pv 2) pa_nil))))))
      (pss_one (ps_ret (pe_tup (pa_cons (pe_op op_fdiv (pe_op op_sub (pe_callB (cr_min rfl) (by rfl) T0.min (by decide +kernel) (pa_cons (pv 1) pa_nil)) (pe_ix ix_list (pe_fld (pv 0) rfl) (pe_fld (pv 0) rfl) (fun _ _ => rfl))) pe_int) (pa_cons (pe_revL (pv 3)) pa_nil)))))))), ?_⟩
    obtain ⟨ks, ek, lks, gks, _⟩ := D.k.ex
    rw [worksL_len] at lks
    have lk1 : T.length < ks.length := by omega
    have ekl : (ks.map V.ref)[T.length]? = some (V.ref ks[T.length]) := by rw [List.getElem?_map, List.getElem?_eq_getElem lk1]; rfl
    have wl : LI H ks[T.length] (wk c T) := by
      have := gks _ _ _ (List.getElem?_eq_getElem lk1) (worksL_at c (Nat.le_refl T.length))
      rw [List.take_length] at this
      exact this
    -- ends
    refine ⟨_, rfl, p, C, dx, _, _, rfl, ob, X.cl, X.works, polF_works _ _ _ _ _ _ _, _, rfl, _, _, _, _, rfl, rfl, SqL.of ek, atI_last (by rw [List.length_map, lks]) ekl, _, rfl, p, C, dx, _, _, rfl, ob, X.cl, X.stands, polF_stands _ _ _ _ _ _ _, _, _, _, _, rfl, wl.seq, D.s.seq, fun D0 nD => ?_⟩
    have hmin : c.n = min ((wk c T).map V.int).length (c.S.map V.int).length := by rw [List.length_map, List.length_map, wk_len g, g.s, Nat.min_self]
    refine lc_mk (walk_zip (K := K) hmin) (fun i => V.int (gI (wk c T) i + gI c.S i)) (small hn (by decide)) nD (fun H s => ⟨(wl.same s).seq, (D.s.same s).seq⟩) (fun i x H2 H2' N hi s2 yy fin => ?_) fun H2 s2 eD => ?_
    · obtain ⟨t, x1, y1, rfl, nt, rfl, h1, h2⟩ := yy
      dsimp only at h1 h2
      rw [li_at (by rw [wk_len g]; exact hi)] at h1
      rw [li_at (by rw [g.s]; exact hi)] at h2
      cases h1
      cases h2
      refine ⟨_, _, rfl, SqT.of upd_same, rfl, _, _, rfl, _, _, rfl, rfl, ?_⟩
      refine ⟨rfl, _, rfl, _, rfl, _, _, rfl, rfl, ?_⟩
      exact fin _ (Same.new nt)
    have eE : LI H2 D0 (ends c (wk c T)) := by
      show H2 D0 = _
      rw [eD]
      unfold ends mk
      rw [List.map_map]
      rfl
    have ene : ends c (wk c T) ≠ [] := mk_ne g.pos
    have hp0 : argL (ends c (wk c T)) < c.n := (argmk g.pos).1
    -- place, plan
    refine ⟨_, rfl, D0, _, rfl, eE.seq, ene, by show 0 ≤ sizeLine; decide, fun lp nlp => ?_⟩
    have D2 := D.same s2
    obtain ⟨dx2, ob2⟩ := D2.ob
    obtain ⟨ts, et, lts, gts, _⟩ := D2.t.ex
    have plp : p ≠ lp := ne_of_none ob2 nlp
    have tlp : tA ≠ lp := ne_of_none et nlp
    refine ⟨_, rfl, p, C, dx2, _, _, rfl, (by rw [upd_ne plp]; exact ob2), X.cl, X.tasks, polF_tasks _ _ _ _ _ _ _, _, _, rfl, .inl (SqL.of (by rw [upd_ne tlp]; exact et)), _, rfl, by decide, by decide, ?_, ?_, ?_⟩
    · rw [List.length_map, lts]; omega
    · rw [List.length_map, lts]; omega
    have en : ((((ts.map V.ref).length : Nat) : Int) - 0).toNat = T.length := by rw [List.length_map, lts]; omega
    rw [en]
    refine for_it walk_rangeC (fun i σ H' => ∃ v4, σ = [some (.ref p), some (.ref D0), some (.int (plc c T.reverse (argL (ends c (wk c T))) i : Nat)), some (.ref lp), v4, none, none] ∧ Same H2 H' ∧ LI H' lp (toI ((back c T.reverse (argL (ends c (wk c T)))).take i)))
      ⟨none, rfl, Same.new nlp, upd_same⟩ (fun _ _ _ _ _ => trivial) ?_ ?_
    · rintro i x σ H3 H3' hi ⟨v4, rfl, s3, e3⟩ ⟨rfl, ex⟩
      have D3 := D2.same s3
      obtain ⟨dx3, ob3⟩ := D3.ob
      have hk : T.length - 1 - i < T.length := by omega
      have ex : x = V.int ((T.length - 1 - i : Nat) : Int) := by
        rw [ex]
        show V.int (0 + (T.length : Int) - 1 + (i : Int) * -1) = _
        congr 1
        omega
      subst ex
      have eT : T[T.length - 1 - i]? = some T[T.length - 1 - i] := List.getElem?_eq_getElem hk
      have eR : T.reverse[i]? = some T[T.length - 1 - i] := by rw [rev_at hi]; exact eT
      have bk := back_at c T.reverse (argL (ends c (wk c T))) i _ eR
      rw [drop_rev, show T.length - (i + 1) = T.length - 1 - i by omega] at bk
      refine ⟨_, rfl, p, dx3, _, rfl, ob3, polF_no_sums _ _ _ _ _ _ _, _, rfl, _, rfl, Z, p, sA, wA, tA, kA, c, now, spent, T, worksL c T, T.length - 1 - i, _, _, _, rfl, D3, g, plc_lt g hp0, hn, worksL_at c (by omega), eT, wk_len g _, le _ (List.getElem_mem hk), fun H4 l4 s4 n4 e4 => ?_⟩
      refine ⟨l4, _, rfl, e4.seq, mk_ne g.pos, _, rfl, .inl ⟨rfl, _, SqL.of (s4 _ _ e3)⟩, _, rfl, lp, _, _, rfl, rfl, s4 _ _ e3, ?_, ?_⟩
      · rw [List.length_map]
        unfold toI
        rw [List.length_map, List.length_take]
        exact Nat.lt_of_le_of_lt (Nat.min_le_left _ _) (small (show i ≤ 1000 by omega) (by decide))
      · refine ⟨some (.int ((T.length - 1 - i : Nat) : Int)), ?_, Same.over (s3.trans s4) nlp, ?_⟩
        · rw [plc_succ bk]
          rfl
        · show upd H4 lp _ lp = _
          rw [upd_same, toI_take bk, List.map_append]
          rfl
    · rintro σ H3 ⟨v4, rfl, s3, e3⟩
      have D3 := D2.same s3
      obtain ⟨dx3, ob3⟩ := D3.ob
      refine ⟨_, rfl, D0, _, rfl, (eE.same s3).seq, by unfold ends; rw [mk_len]; exact g.pos, fun m hm hle => ?_⟩
      refine ⟨_, rfl, p, C, dx3, _, _, rfl, ob3, X.cl, X.stands, polF_stands _ _ _ _ _ _ _, _, rfl, p, C, dx3, _, _, rfl, ob3, X.cl, X.start, polF_start _ _ _ _ _ _ _, _, _, _, _, rfl, rfl, D3.s.seq, atI_nat (li_at (by rw [g.s]; exact g.st)), _, _, rfl, rfl, _, _, rfl, rfl, ⟨by decide, by decide⟩, ?_⟩
      refine ⟨_, rfl, lp, _, rfl, SqL.of e3, fun l nl => ⟨by show 2 ≤ sizeLine; decide, fun t nt => ?_⟩⟩
      rw [minL_eq hm hle] at *
      have lt : l ≠ t := fun z => by rw [← z, upd_same] at nt; cases nt
      have nt3 : H3 t = none := by rw [upd_ne lt.symm] at nt; exact nt
      have sA' := s2.trans s3
      refine q _ t l (Same.over (Same.over sA' (Same.free sA' nl)) (Same.free sA' nt3)) (Same.free sA' nt3) (Same.free sA' nl) upd_same ?_
      show upd (upd H3 l _) t _ l = _
      rw [upd_ne lt, upd_same]
      unfold plan toI
      rw [List.take_of_length_le (by rw [back_len, List.length_reverse]; exact Nat.le_refl _), List.map_reverse, List.map_reverse]
end
end K1
/-! the form of a paper, of data of any kind -/
namespace K1
open PySem PySem.Spec PyProof.Rows L2 Ow Po Z3
/-- the numbers that the module's top gives names -/
structure Gi (mg : Str → Option Value) : Prop where
  number : ∃ t, mg "MOST_NUMBER" = some (.int 1000000000000 t)
  layouts : ∃ t, mg "MOST_LAYOUTS" = some (.int 16 t)
  tasks : ∃ t, mg "MOST_TASKS" = some (.int 1000 t)
  parts : ∃ t, mg "PARTS" = some (.int 7 t)
theorem pe_gi {X : Cx} {x : Str} {n : Int} {t : Tok} {pos : Pos} (gl : Gl X x) (top : X.mg x = some (.int n t)) (h1 : x ≠ "__name__" := by decide) (h2 : (x == ("__debug__" : Str)) = false := by decide) : PE X (.Name x pos) (tC (.int n)) := pe_glob (v := .int n) gl top ⟨_, rfl⟩ (hd := h2)
def numD : PyData → Bool
  | .int i => decide (0 ≤ i) && decide (i ≤ 1000000000000)
  | _ => false
def rowD (d : PyData) (many : Int) : Bool := match d with
  | .tuple xs => decide ((xs.length : Int) = many) && xs.all numD
  | _ => false
def tabD (d : PyData) (many wide : Int) : Bool := match d with
  | .tuple xs => decide ((xs.length : Int) = many) && xs.all fun r => rowD r wide
  | _ => false
theorem rowD_tup (xs : List PyData) (m : Int) : rowD (.tuple xs) m = (decide ((xs.length : Int) = m) && xs.all numD) := rfl
theorem tabD_tup (xs : List PyData) (m w : Int) : tabD (.tuple xs) m w = (decide ((xs.length : Int) = m) && xs.all fun r => rowD r w) := rfl
def tyD : PyData → String
  | .none => "NoneType"
  | .bool _ => "bool"
  | .int _ => "int"
  | .str _ => "str"
  | .list _ => "list"
  | .tuple _ => "tuple"
  | .dict _ => "dict"
theorem dp_ty {K : PySem.W.Frag} {H : Hp} {v : V} {d : PyData} (h : Dp K H v d) : TyX K H v (.type (tyD d)) := by
  cases h with
  | non => exact .base .non
  | bl b => exact .base (.bl b)
  | int i => exact .base (.int i)
  | str x => exact .base (.str x)
  | lst h _ =>
    rcases h with (h | ⟨o, h⟩) | ⟨o, vs, n, h, c, _⟩
    · exact .base (.lst h)
    · exact .base (.frz h)
    · exact .kList h (by rw [c])
  | tup h _ =>
    rcases h with (h | ⟨o, h⟩) | ⟨o, vs, n, h, c, _⟩
    · exact .base (.tup h)
    · exact .fTuple h
    · exact .kTuple h (by rw [c])
abbrev sis_number : Stmt := topS 5
abbrev Nis_number : List Str := ["value"]
theorem scis_number : FnScope Nis_number ["value"] (defScope sis_number) := ⟨rfl, rfl, rfl, by decide +kernel, rfl, by decide +kernel, by decide +kernel⟩
def spIsNumber (K : PySem.W.Frag) : Sp := fun vs H Q _ => ∃ (v : V) (d : PyData), vs = [v] ∧ Dp K H v d ∧ Q (.bl (numD d)) H
theorem ki_int {K : PySem.W.Frag} : ∀ d : PyData, PySem.W.kitOne K (.type (tyD d)) (.type "int") = some (match d with | .int _ => true | .bool _ => true | _ => false)
  | .none => kit_ty (show kitB "NoneType" "int" = some false by decide +kernel)
  | .bool _ => kit_ty (show kitB "bool" "int" = some true by decide +kernel)
  | .int _ => kit_ty (show kitB "int" "int" = some true by decide +kernel)
  | .str _ => kit_ty (show kitB "str" "int" = some false by decide +kernel)
  | .list _ => kit_ty (show kitB "list" "int" = some false by decide +kernel)
  | .tuple _ => kit_ty (show kitB "tuple" "int" = some false by decide +kernel)
  | .dict _ => kit_ty (show kitB "dict" "int" = some false by decide +kernel)
theorem ki_bool {K : PySem.W.Frag} : ∀ d : PyData, PySem.W.kitOne K (.type (tyD d)) (.type "bool") = some (match d with | .bool _ => true | _ => false)
  | .none => kit_ty (show kitB "NoneType" "bool" = some false by decide +kernel)
  | .bool _ => kit_ty (show kitB "bool" "bool" = some true by decide +kernel)
  | .int _ => kit_ty (show kitB "int" "bool" = some false by decide +kernel)
  | .str _ => kit_ty (show kitB "str" "bool" = some false by decide +kernel)
  | .list _ => kit_ty (show kitB "list" "bool" = some false by decide +kernel)
  | .tuple _ => kit_ty (show kitB "tuple" "bool" = some false by decide +kernel)
  | .dict _ => kit_ty (show kitB "dict" "bool" = some false by decide +kernel)
theorem ki_tup {K : PySem.W.Frag} : ∀ d : PyData, PySem.W.kitOne K (.type (tyD d)) (.type "tuple") = some (match d with | .tuple _ => true | _ => false)
  | .none => kit_ty (show kitB "NoneType" "tuple" = some false by decide +kernel)
  | .bool _ => kit_ty (show kitB "bool" "tuple" = some false by decide +kernel)
  | .int _ => kit_ty (show kitB "int" "tuple" = some false by decide +kernel)
  | .str _ => kit_ty (show kitB "str" "tuple" = some false by decide +kernel)
  | .list _ => kit_ty (show kitB "list" "tuple" = some false by decide +kernel)
  | .tuple _ => kit_ty (show kitB "tuple" "tuple" = some true by decide +kernel)
  | .dict _ => kit_ty (show kitB "dict" "tuple" = some false by decide +kernel)
section
variable {P : Program} {w : World} {K : PySem.W.Frag} {mg : Str → Option Value} {base : Heap}
theorem ok_isnumber {f : Addr} {fd : FuncData} (F : Fun K "is_number" "is_number" sis_number f fd) (T0 : Bl mg) (G0 : Gi mg) :
    FnOk P w K mg base CX0 1 f fd ["value"] (spIsNumber K) := by
  refine F.ok scis_number (fun vs H Q E h => ?_) (fun cdv A outer s H vs Q E hr h => ?_)
  · obtain ⟨v, d, rfl, _⟩ := h
    rfl
  · obtain ⟨v, d, rfl, hd, q⟩ := h
    obtain ⟨tk, gn⟩ := G0.number
    refine ⟨_, (pss_cons (ps_if (PW.pt (pw_or (pt_not (pt_val (pe_callB call_isi (by rfl) T0.isinstance (by decide +kernel) (pa_cons (pv 0) (pa_cons (pe_ty "int" (by rfl) T0.int (by decide +kernel)) pa_nil))))) (pw_or1 (pt_val (pe_callB call_isi (by rfl) T0.isinstance (by decide +kernel) (pa_cons (pv 0) (pa_cons (pe_ty "bool" (by rfl) T0.bool (by decide +kernel)) pa_nil))))))) (pss_one (ps_ret pe_bl)) pss_nil)
      (pss_one (ps_ret (pe_chain op_le op_le pe_int (pv 0) (pe_gi (by rfl) gn))))), ?_⟩
    refine ⟨_, rfl, _, _, .type (tyD d), .type "int", _, rfl, .ty _, dp_ty hd, ki_int d, ?_⟩
    cases d with
    | int i =>
      refine ⟨_, rfl, iteF ?_⟩
      refine ⟨_, rfl, _, _, .type "int", .type "bool", _, rfl, .ty _, dp_ty hd, ki_bool (.int i), ?_⟩
      refine ⟨_, rfl, iteF ?_⟩
      cases hd
      refine ⟨_, rfl, _, _, rfl, rfl, ?_⟩
      refine ⟨_, rfl, ?_⟩
      have e1 : numD (.int i) = (decide (0 ≤ i) && decide (i ≤ 1000000000000)) := rfl
      rw [e1] at q
      by_cases z : 0 ≤ i
      · rw [if_pos (decide_eq_true z)]
        rw [decide_eq_true z, Bool.true_and] at q
        exact ⟨_, _, rfl, rfl, q⟩
      · rw [if_neg (by rw [decide_eq_false z]; decide)]
        rw [decide_eq_false z, Bool.false_and] at q
        exact q
    | bool b =>
      refine ⟨_, rfl, iteF ?_⟩
      refine ⟨_, rfl, _, _, .type "bool", .type "bool", _, rfl, .ty _, dp_ty hd, ki_bool (.bool b), ?_⟩
      exact ⟨_, rfl, iteT q⟩
    | none => exact ⟨_, rfl, iteT (iteT q)⟩
    | str x => exact ⟨_, rfl, iteT (iteT q)⟩
    | list x => exact ⟨_, rfl, iteT (iteT q)⟩
    | tuple x => exact ⟨_, rfl, iteT (iteT q)⟩
    | dict x => exact ⟨_, rfl, iteT (iteT q)⟩
abbrev sis_row : Stmt := topS 6
abbrev Nis_row : List Str := ["value", "many", "part"]
theorem scis_row : FnScope Nis_row ["value", "many"] (defScope sis_row) := ⟨rfl, rfl, rfl, by decide +kernel, rfl, by decide +kernel, by decide +kernel⟩
abbrev sis_table : Stmt := topS 7
abbrev Nis_table : List Str := ["value", "many", "wide", "part"]
theorem scis_table : FnScope Nis_table ["value", "many", "wide"] (defScope sis_table) := ⟨rfl, rfl, rfl, by decide +kernel, rfl, by decide +kernel, by decide +kernel⟩
abbrev sis_place : Stmt := topS 8
abbrev Nis_place : List Str := ["value", "many"]
theorem scis_place : FnScope Nis_place ["value", "many"] (defScope sis_place) := ⟨rfl, rfl, rfl, by decide +kernel, rfl, by decide +kernel, by decide +kernel⟩
def lenD : PyData → Nat
  | .tuple xs => xs.length
  | .list xs => xs.length
  | _ => 0
/-- of data that is a tuple: not too long -/
def spIsRow (K : PySem.W.Frag) : Sp := fun vs H Q _ => ∃ (v : V) (d : PyData) (many : Int), vs = [v, .int many] ∧ Dp K H v d ∧ lenD d ≤ 10000 ∧ ∀ H', Same H H' → Q (.bl (rowD d many)) H'
theorem dpAll_get {K : PySem.W.Frag} {H : Hp} : ∀ {vs : List V} {ds : List PyData}, DpAll K H vs ds → vs.length = ds.length ∧ ∀ (i : Nat) (v : V), vs[i]? = some v → ∃ d, ds[i]? = some d ∧ Dp K H v d
  | [], [], .nil => ⟨rfl, fun i v e => by simp at e⟩
  | v :: vs, d :: ds, .cons h t => by
    obtain ⟨l, g⟩ := dpAll_get t
    refine ⟨by rw [List.length_cons, List.length_cons, l], fun i u e => ?_⟩
    cases i with
    | zero =>
      cases e
      exact ⟨d, rfl, h⟩
    | succ i => exact g i u e
mutual
theorem dp_same {K : PySem.W.Frag} {H H' : Hp} (s : Same H H') : ∀ {v : V} {d : PyData}, Dp K H v d → Dp K H' v d
  | _, _, .non => .non
  | _, _, .bl b => .bl b
  | _, _, .int i => .int i
  | _, _, .str x => .str x
  | _, _, .lst h a => .lst (s.seq h) (dpAll_same s a)
  | _, _, .tup h a => .tup (sqt_same s h) (dpAll_same s a)
theorem dpAll_same {K : PySem.W.Frag} {H H' : Hp} (s : Same H H') : ∀ {vs : List V} {ds : List PyData}, DpAll K H vs ds → DpAll K H' vs ds
  | _, _, .nil => .nil
  | _, _, .cons h t => .cons (dp_same s h) (dpAll_same s t)
end
theorem ok_isrow {f : Addr} {fd : FuncData} (F : Fun K "is_row" "is_row" sis_row f fd) (T0 : Bl mg) (Dis_number : Kn P w K mg base 1 "is_number" ["value"] (spIsNumber K)) :
    FnOk P w K mg base CX0 2 f fd ["value", "many"] (spIsRow K) := by
  refine F.ok scis_row (fun vs H Q E h => ?_) (fun cdv A outer s H vs Q E hr h => ?_)
  · obtain ⟨v, d, m, rfl, _⟩ := h
    rfl
  · obtain ⟨v, d, m, rfl, hd, ld, q⟩ := h
    refine ⟨_, (pss_cons (ps_if (PW.pt (pw_or (pt_not (pt_val (pe_callB call_isi (by rfl) T0.isinstance (by decide +kernel) (pa_cons (pv 0) (pa_cons (pe_ty "tuple" (by rfl) T0.tuple (by decide +kernel)) pa_nil))))) (pw_or1 (pt_cmpR op_ne (pe_callB call_len_seq (by rfl) T0.len PySem.boot_len (pa_cons (pv 0) pa_nil)) (pv 1) (nomark _))))) (pss_one (ps_ret pe_bl)) pss_nil)
      (pss_one (ps_ret (pe_callB (cr_all rfl) (by rfl) T0.all (by decide +kernel) (pa_cons (pe_lc (own := [("part", 2)]) (g := gName 2) (tt := tYes) rfl scis_row.nd (pi_tup (pv 0)) (blkOk_by (own := [("part", 2)]) (N := Nis_row) (sc := defScope sis_row) (by decide +kernel)) (fun _ _ _ _ _ => pg_name (i := 2) scis_row.nd rfl (Or.inl rfl)) (fun _ _ _ _ _ => pts_nil) (fun _ _ _ _ _ => (pe_kn Dis_number hr (pa_cons (pv 2) pa_nil)))) pa_nil))))), ?_⟩
    refine ⟨_, rfl, _, _, .type (tyD d), .type "tuple", _, rfl, .ty _, dp_ty hd, ki_tup d, ?_⟩
    have no : rowD d m = false → (∀ H', Same H H' → Q (.bl false) H') := fun e H' s => by
      have := q H' s
      rw [e] at this
      exact this
    cases d with
    | tuple xs =>
      refine ⟨_, rfl, iteF ?_⟩
      cases hd with
      | @tup a vs _ ht ha =>
        obtain ⟨lv, gv⟩ := dpAll_get ha
        refine ⟨_, rfl, a, _, rfl, .inr ht, _, rfl, rfl, _, rfl, ?_⟩
        refine ite2 (fun e => ?_) (fun e => ?_)
        · refine no ?_ H (Same.refl _)
          have e2 : ¬ ((vs.length : Nat) : Int) = m := fun z => by
            rw [z] at e
            simp at e
          rw [rowD_tup, ← lv, decide_eq_false e2, Bool.false_and]
        · have e2 : ((vs.length : Nat) : Int) = m := by simpa using e
          have lb : vs.length ≤ 10000 := by rw [lv]; exact ld
          refine ⟨_, rfl, a, rfl, ⟨_, ht⟩, fun D nD => lc_mk (walk_tup (K := K) (a := a) (xs := vs)) (fun i => V.bl ((xs.map numD).getD i false)) (Nat.lt_of_le_of_lt lb (by decide)) nD (fun H s => sqt_same s ht) (fun i x H2 H2' N hi s2 yy fin => ?_) fun H2 s2 eD => ?_⟩
          · obtain ⟨rfl, ex⟩ := yy
            obtain ⟨dd, ed, hdd⟩ := gv i x ex
            refine ⟨rfl, _, rfl, x, dd, rfl, dp_same s2 hdd, ?_⟩
            have := fin _ (Same.refl _)
            rw [List.getD_eq_getElem?_getD, List.getElem?_map, ed] at this
            exact this
          · have e3 : (List.range vs.length).map (fun i => V.bl ((xs.map numD).getD i false)) = (xs.map numD).map V.bl := by
              refine List.ext_getElem? fun i => ?_
              rw [List.getElem?_map, List.getElem?_map, List.getElem?_map, lv]
              rcases Nat.lt_or_ge i xs.length with z | z
              · rw [List.getElem?_range z, List.getElem?_eq_getElem z]
                show some (V.bl ((xs.map numD).getD i false)) = _
                rw [List.getD_eq_getElem?_getD, List.getElem?_map, List.getElem?_eq_getElem z]
                rfl
              · rw [List.getElem?_eq_none (by rw [List.length_range]; exact z), List.getElem?_eq_none z]
                rfl
            rw [e3] at eD
            refine ⟨D, xs.map numD, rfl, SqL.of eD, ?_⟩
            have := q H2 s2
            rw [rowD_tup, ← lv, decide_eq_true e2, Bool.true_and] at this
            rw [List.all_map]
            exact this
    | bool b => exact ⟨_, rfl, iteT (iteT (no rfl H (Same.refl _)))⟩
    | int b => exact ⟨_, rfl, iteT (iteT (no rfl H (Same.refl _)))⟩
    | none => exact ⟨_, rfl, iteT (iteT (no rfl H (Same.refl _)))⟩
    | str x => exact ⟨_, rfl, iteT (iteT (no rfl H (Same.refl _)))⟩
    | list x => exact ⟨_, rfl, iteT (iteT (no rfl H (Same.refl _)))⟩
    | dict x => exact ⟨_, rfl, iteT (iteT (no rfl H (Same.refl _)))⟩
def spIsTable (K : PySem.W.Frag) : Sp := fun vs H Q _ => ∃ (v : V) (d : PyData) (many wide : Int), vs = [v, .int many, .int wide] ∧ Dp K H v d ∧ lenD d ≤ 10000 ∧ (∀ xs, d = .tuple xs → ∀ r ∈ xs, lenD r ≤ 10000) ∧ ∀ H', Same H H' → Q (.bl (tabD d many wide)) H'
theorem ok_istable {f : Addr} {fd : FuncData} (F : Fun K "is_table" "is_table" sis_table f fd) (T0 : Bl mg) (Dis_row : Kn P w K mg base 2 "is_row" ["value", "many"] (spIsRow K)) :
    FnOk P w K mg base CX0 3 f fd ["value", "many", "wide"] (spIsTable K) := by
  refine F.ok scis_table (fun vs H Q E h => ?_) (fun cdv A outer s H vs Q E hr h => ?_)
  · obtain ⟨v, d, m, wd, rfl, _⟩ := h
    rfl
  · obtain ⟨v, d, m, wd, rfl, hd, ld, lds, q⟩ := h
    refine ⟨_, (pss_cons (ps_if (PW.pt (pw_or (pt_not (pt_val (pe_callB call_isi (by rfl) T0.isinstance (by decide +kernel) (pa_cons (pv 0) (pa_cons (pe_ty "tuple" (by rfl) T0.tuple (by decide +kernel)) pa_nil))))) (pw_or1 (pt_cmpR op_ne (pe_callB call_len_seq (by rfl) T0.len PySem.boot_len (pa_cons (pv 0) pa_nil)) (pv 1) (nomark _))))) (pss_one (ps_ret pe_bl)) pss_nil)
      (pss_one (ps_ret (pe_callB (cr_all rfl) (by rfl) T0.all (by decide +kernel) (pa_cons (pe_lc (own := [("part", 3)]) (g := gName 3) (tt := tYes) rfl scis_table.nd (pi_tup (pv 0)) (blkOk_by (own := [("part", 3)]) (N := Nis_table) (sc := defScope sis_table) (by decide +kernel)) (fun _ _ _ _ _ => pg_name (i := 3) scis_table.nd rfl (Or.inl rfl)) (fun _ _ _ _ _ => pts_nil) (fun _ _ _ _ _ => (pe_kn Dis_row hr (pa_cons (pv 3) (pa_cons (pv 2) pa_nil))))) pa_nil))))), ?_⟩
    refine ⟨_, rfl, _, _, .type (tyD d), .type "tuple", _, rfl, .ty _, dp_ty hd, ki_tup d, ?_⟩
    have no : tabD d m wd = false → (∀ H', Same H H' → Q (.bl false) H') := fun e H' s => by
      have := q H' s
      rw [e] at this
      exact this
    cases d with
    | tuple xs =>
      refine ⟨_, rfl, iteF ?_⟩
      cases hd with
      | @tup a vs _ ht ha =>
        obtain ⟨lv, gv⟩ := dpAll_get ha
        refine ⟨_, rfl, a, _, rfl, .inr ht, _, rfl, rfl, _, rfl, ?_⟩
        refine ite2 (fun e => ?_) (fun e => ?_)
        · refine no ?_ H (Same.refl _)
          have e2 : ¬ ((vs.length : Nat) : Int) = m := fun z => by
            rw [z] at e
            simp at e
          rw [tabD_tup, ← lv, decide_eq_false e2, Bool.false_and]
        · have e2 : ((vs.length : Nat) : Int) = m := by simpa using e
          have lb : vs.length ≤ 10000 := by rw [lv]; exact ld
          refine ⟨_, rfl, a, rfl, ⟨_, ht⟩, fun D nD => lc_mk (walk_tup (K := K) (a := a) (xs := vs)) (fun i => V.bl ((xs.map (fun r => rowD r wd)).getD i false)) (Nat.lt_of_le_of_lt lb (by decide)) nD (fun H s => sqt_same s ht) (fun i x H2 H2' N hi s2 yy fin => ?_) fun H2 s2 eD => ?_⟩
          · obtain ⟨rfl, ex⟩ := yy
            obtain ⟨dd, ed, hdd⟩ := gv i x ex
            refine ⟨rfl, _, rfl, _, rfl, x, dd, wd, rfl, dp_same s2 hdd, lds xs rfl dd (List.mem_of_getElem? ed), fun H3 s3 => ?_⟩
            have := fin H3 s3
            rw [List.getD_eq_getElem?_getD, List.getElem?_map, ed] at this
            exact this
          · have e3 : (List.range vs.length).map (fun i => V.bl ((xs.map (fun r => rowD r wd)).getD i false)) = (xs.map (fun r => rowD r wd)).map V.bl := by
              refine List.ext_getElem? fun i => ?_
              rw [List.getElem?_map, List.getElem?_map, List.getElem?_map, lv]
              rcases Nat.lt_or_ge i xs.length with z | z
              · rw [List.getElem?_range z, List.getElem?_eq_getElem z]
                show some (V.bl ((xs.map (fun r => rowD r wd)).getD i false)) = _
                rw [List.getD_eq_getElem?_getD, List.getElem?_map, List.getElem?_eq_getElem z]
                rfl
              · rw [List.getElem?_eq_none (by rw [List.length_range]; exact z), List.getElem?_eq_none z]
                rfl
            rw [e3] at eD
            refine ⟨D, xs.map (fun r => rowD r wd), rfl, SqL.of eD, ?_⟩
            have := q H2 s2
            rw [tabD_tup, ← lv, decide_eq_true e2, Bool.true_and] at this
            rw [List.all_map]
            exact this
    | bool b => exact ⟨_, rfl, iteT (iteT (no rfl H (Same.refl _)))⟩
    | int b => exact ⟨_, rfl, iteT (iteT (no rfl H (Same.refl _)))⟩
    | none => exact ⟨_, rfl, iteT (iteT (no rfl H (Same.refl _)))⟩
    | str x => exact ⟨_, rfl, iteT (iteT (no rfl H (Same.refl _)))⟩
    | list x => exact ⟨_, rfl, iteT (iteT (no rfl H (Same.refl _)))⟩
    | dict x => exact ⟨_, rfl, iteT (iteT (no rfl H (Same.refl _)))⟩
def placeD (d : PyData) (many : Int) : Bool := match d with
  | .int i => numD (.int i) && decide (i < many)
  | _ => false
def spIsPlace (K : PySem.W.Frag) : Sp := fun vs H Q _ => ∃ (v : V) (d : PyData) (many : Int), vs = [v, .int many] ∧ Dp K H v d ∧ Q (.bl (placeD d many)) H
theorem ok_isplace {f : Addr} {fd : FuncData} (F : Fun K "is_place" "is_place" sis_place f fd) (Dis_number : Kn P w K mg base 1 "is_number" ["value"] (spIsNumber K)) :
    FnOk P w K mg base CX0 2 f fd ["value", "many"] (spIsPlace K) := by
  refine F.ok scis_place (fun vs H Q E h => ?_) (fun cdv A outer s H vs Q E hr h => ?_)
  · obtain ⟨v, d, m, rfl, _⟩ := h
    rfl
  · obtain ⟨v, d, m, rfl, hd, q⟩ := h
    refine ⟨_, (pss_one (ps_ret (pe_and (pe_kn Dis_number hr (pa_cons (pv 0) pa_nil)) (pe_one (pe_cmpR op_lt (pv 0) (pv 1) (nomark _)))))), ?_⟩
    refine ⟨_, rfl, v, d, rfl, hd, _, rfl, ?_⟩
    cases hd with
    | int i =>
      have e1 : placeD (.int i) m = (numD (.int i) && decide (i < m)) := rfl
      rw [e1] at q
      cases z : numD (.int i) with
      | true =>
        rw [z, Bool.true_and] at q
        rw [if_pos rfl]
        exact ⟨_, rfl, _, rfl, _, _, rfl, rfl, q⟩
      | false =>
        rw [z, Bool.false_and] at q
        rw [if_neg (by decide)]
        exact q
    | non => exact iteF q
    | bl b => exact iteF q
    | str x => exact iteF q
    | lst h a => exact iteF q
    | tup h a => exact iteF q
end
end K1
namespace K1
open PySem PySem.Spec PyProof.Rows L2 Ow Po Z3
abbrev shas_form : Stmt := topS 9
abbrev Nhas_form : List Str := ["paper", "start", "stands", "ways", "tasks", "work", "row", "spent", "many", "place"]
theorem schas_form : FnScope Nhas_form ["paper"] (defScope shas_form) := ⟨rfl, rfl, rfl, by decide +kernel, rfl, by decide +kernel, by decide +kernel⟩
def ltD (m : Int) : PyData → Bool
  | .int i => decide (i < m)
  | _ => false
def allLt (d : PyData) (m : Int) : Bool := match d with
  | .tuple xs => xs.all (ltD m)
  | _ => false
def form7 (a b c d e f g : PyData) : Bool := match b, d with
  | .tuple ss, .tuple ts => (!decide ((ss.length : Int) < 1) && (!decide ((ss.length : Int) > 16) && !decide ((ts.length : Int) > 1000))) && ((placeD a ss.length && numD g) && ((rowD b ss.length && (tabD c ss.length ss.length && tabD d ts.length ss.length)) && ((tabD e ((ts.length : Int) + 1) ss.length && rowD f ts.length) && allLt f ss.length)))
  | _, _ => false
def formD : PyData → Bool
  | .tuple [a, b, c, d, e, f, g] => form7 a b c d e f g
  | _ => false
theorem len7 {xs : List PyData} (h : xs.length = 7) : ∃ a b c d e f g, xs = [a, b, c, d, e, f, g] := by
  match xs, h with
  | [a, b, c, d, e, f, g], _ => exact ⟨a, b, c, d, e, f, g, rfl⟩
theorem form_len {xs : List PyData} (h : xs.length ≠ 7) : formD (.tuple xs) = false := by
  match xs, h with
  | [], _ => rfl
  | [_], _ => rfl
  | [_, _], _ => rfl
  | [_, _, _], _ => rfl
  | [_, _, _, _], _ => rfl
  | [_, _, _, _, _], _ => rfl
  | [_, _, _, _, _, _], _ => rfl
  | [_, _, _, _, _, _, _], h => exact absurd rfl h
  | _ :: _ :: _ :: _ :: _ :: _ :: _ :: _ :: _, _ => rfl
theorem form7_b {a b c d e f g : PyData} (h : ∀ xs, b ≠ .tuple xs) : form7 a b c d e f g = false := by
  cases b <;> first | rfl | exact absurd rfl (h _)
theorem form7_d {a b c d e f g : PyData} (h : ∀ xs, d ≠ .tuple xs) : form7 a b c d e f g = false := by
  cases b <;> first | rfl | (cases d <;> first | rfl | exact absurd rfl (h _))
def Shr (d : PyData) : Prop := lenD d ≤ 10000 ∧ ∀ xs, d = .tuple xs → ∀ r ∈ xs, lenD r ≤ 10000
def spHasForm (K : PySem.W.Frag) : Sp := fun vs H Q _ => ∃ (v : V) (d : PyData), vs = [v] ∧ Dp K H v d ∧ (∀ xs, d = .tuple xs → ∀ r ∈ xs, Shr r) ∧ ∀ H', Same H H' → Q (.bl (formD d)) H'
def isTup : PyData → Bool
  | .tuple _ => true
  | _ => false
theorem ki_tup2 {K : PySem.W.Frag} (d : PyData) : PySem.W.kitOne K (.type (tyD d)) (.type "tuple") = some (isTup d) := by
  rw [ki_tup]
  cases d <;> rfl
theorem isTup_ex {d : PyData} (h : isTup d = true) : ∃ xs, d = .tuple xs := by
  cases d <;> first | exact ⟨_, rfl⟩ | cases h
theorem isTup_no {d : PyData} (h : isTup d = false) : ∀ xs, d ≠ .tuple xs := fun xs e => by
  rw [e] at h
  cases h
theorem dpAll7 {K : PySem.W.Frag} {H : Hp} {vs : List V} {a b c d e f g : PyData} (h : DpAll K H vs [a, b, c, d, e, f, g]) : ∃ va vb vc vd ve vf vg, vs = [va, vb, vc, vd, ve, vf, vg] ∧ Dp K H va a ∧ Dp K H vb b ∧ Dp K H vc c ∧ Dp K H vd d ∧ Dp K H ve e ∧ Dp K H vf f ∧ Dp K H vg g := by
  cases h with | cons h0 h => cases h with | cons h1 h => cases h with | cons h2 h => cases h with | cons h3 h => cases h with | cons h4 h => cases h with | cons h5 h => cases h with | cons h6 h =>
    cases h
    exact ⟨_, _, _, _, _, _, _, rfl, h0, h1, h2, h3, h4, h5, h6⟩
theorem dp_tup {K : PySem.W.Frag} {H : Hp} {v : V} {xs : List PyData} (h : Dp K H v (.tuple xs)) : ∃ a vs, v = .ref a ∧ SqT K H a vs ∧ DpAll K H vs xs := by
  cases h with
  | tup h a => exact ⟨_, _, rfl, h, a⟩
theorem rowD_true {d : PyData} {m : Int} (h : rowD d m = true) : ∃ rs, d = .tuple rs ∧ rs.all numD = true := by
  cases d with
  | tuple rs => exact ⟨rs, rfl, by rw [rowD_tup, Bool.and_eq_true] at h; exact h.2⟩
  | _ => cases h
theorem numD_int {d : PyData} (h : numD d = true) : ∃ i, d = .int i := by
  cases d with
  | int i => exact ⟨i, rfl⟩
  | _ => cases h
theorem mk_getD (rs : List PyData) (f : PyData → Bool) : (List.range rs.length).map (fun i => V.bl ((rs.map f).getD i false)) = (rs.map f).map V.bl := by
  refine List.ext_getElem? fun i => ?_
  rw [List.getElem?_map, List.getElem?_map, List.getElem?_map]
  rcases Nat.lt_or_ge i rs.length with z | z
  · rw [List.getElem?_range z, List.getElem?_eq_getElem z]
    show some (V.bl ((rs.map f).getD i false)) = _
    rw [List.getD_eq_getElem?_getD, List.getElem?_map, List.getElem?_eq_getElem z]
    rfl
  · rw [List.getElem?_eq_none (by rw [List.length_range]; exact z), List.getElem?_eq_none z]
    rfl
section
variable {P : Program} {w : World} {K : PySem.W.Frag} {mg : Str → Option Value} {base : Heap}
theorem ok_hasform {f : Addr} {fd : FuncData} (F : Fun K "has_form" "has_form" shas_form f fd) (T0 : Bl mg) (G0 : Gi mg) (Dis_number : Kn P w K mg base 1 "is_number" ["value"] (spIsNumber K))
    (Dis_row : Kn P w K mg base 2 "is_row" ["value", "many"] (spIsRow K)) (Dis_table : Kn P w K mg base 3 "is_table" ["value", "many", "wide"] (spIsTable K)) (Dis_place : Kn P w K mg base 2 "is_place" ["value", "many"] (spIsPlace K)) :
    FnOk P w K mg base CX0 4 f fd ["paper"] (spHasForm K) := by
  refine F.ok schas_form (fun vs H Q E h => ?_) (fun cdv A outer s H vs Q E hr h => ?_)
  · obtain ⟨v, d, rfl, _⟩ := h
    rfl
  · obtain ⟨v, d, rfl, hd, sh, q⟩ := h
    obtain ⟨t1, g1⟩ := G0.parts
    obtain ⟨t2, g2⟩ := G0.layouts
    obtain ⟨t3, g3⟩ := G0.tasks
    refine ⟨_, (pss_cons (ps_if (PW.pt (pw_or (pt_not (pt_val (pe_callB call_isi (by rfl) T0.isinstance (by decide +kernel) (pa_cons (pv 0) (pa_cons (pe_ty "tuple" (by rfl) T0.tuple (by decide +kernel)) pa_nil))))) (pw_or1 (pt_cmpR op_ne (pe_callB call_len_seq (by rfl) T0.len PySem.boot_len (pa_cons (pv 0) pa_nil)) (pe_gi (by rfl) g1) (nomark _))))) (pss_one (ps_ret pe_bl)) pss_nil)
      (pss_cons (ps_asg (pv 0) (pg_tup rfl (pgs_cons (pg_name (i := 1) schas_form.nd rfl (.inl rfl)) (pgs_cons (pg_name (i := 2) schas_form.nd rfl (.inl rfl)) (pgs_cons (pg_name (i := 3) schas_form.nd rfl (.inl rfl)) (pgs_cons (pg_name (i := 4) schas_form.nd rfl (.inl rfl)) (pgs_cons (pg_name (i := 5) schas_form.nd rfl (.inl rfl)) (pgs_cons (pg_name (i := 6) schas_form.nd rfl (.inl rfl)) (pgs_cons (pg_name (i := 7) schas_form.nd rfl (.inl rfl)) pgs_nil)))))))))
      (pss_cons (ps_if (PW.pt (pw_or (pt_not (pt_val (pe_callB call_isi (by rfl) T0.isinstance (by decide +kernel) (pa_cons (pv 2) (pa_cons (pe_ty "tuple" (by rfl) T0.tuple (by decide +kernel)) pa_nil))))) (pw_or1 (pt_not (pt_val (pe_callB call_isi (by rfl) T0.isinstance (by decide +kernel) (pa_cons (pv 4) (pa_cons (pe_ty "tuple" (by rfl) T0.tuple (by decide +kernel)) pa_nil)))))))) (pss_one (ps_ret pe_bl)) pss_nil)
      (pss_cons (ps_set (i := 8) schas_form.nd rfl (.inr rfl) (pe_callB call_len_seq (by rfl) T0.len PySem.boot_len (pa_cons (pv 2) pa_nil)))
      (pss_cons (ps_if (PW.pt (pw_or (pt_cmpR op_lt (pv 8) pe_int (nomark _)) (pw_or (pt_cmpR op_gt (pv 8) (pe_gi (by rfl) g2) (nomark _)) (pw_or1 (pt_cmpR op_gt (pe_callB call_len_seq (by rfl) T0.len PySem.boot_len (pa_cons (pv 4) pa_nil)) (pe_gi (by rfl) g3) (nomark _)))))) (pss_one (ps_ret pe_bl)) pss_nil)
      (pss_cons (ps_if (PW.pt (pw_or (pt_not (pt_val (pe_kn Dis_place hr (pa_cons (pv 1) (pa_cons (pv 8) pa_nil))))) (pw_or1 (pt_not (pt_val (pe_kn Dis_number hr (pa_cons (pv 7) pa_nil))))))) (pss_one (ps_ret pe_bl)) pss_nil)
      (pss_cons (ps_if (PW.pt (pw_or (pt_not (pt_val (pe_kn Dis_row hr (pa_cons (pv 2) (pa_cons (pv 8) pa_nil))))) (pw_or (pt_not (pt_val (pe_kn Dis_table hr (pa_cons (pv 3) (pa_cons (pv 8) (pa_cons (pv 8) pa_nil)))))) (pw_or1 (pt_not (pt_val (pe_kn Dis_table hr (pa_cons (pv 4) (pa_cons (pe_callB call_len_seq (by rfl) T0.len PySem.boot_len (pa_cons (pv 4) pa_nil)) (pa_cons (pv 8) pa_nil)))))))))) (pss_one (ps_ret pe_bl)) pss_nil)
      (pss_cons (ps_if (PW.pt (pw_or (pt_not (pt_val (pe_kn Dis_table hr (pa_cons (pv 5) (pa_cons (pe_op op_add (pe_callB call_len_seq (by rfl) T0.len PySem.boot_len (pa_cons (pv 4) pa_nil)) pe_int) (pa_cons (pv 8) pa_nil)))))) (pw_or1 (pt_not (pt_val (pe_kn Dis_row hr (pa_cons (pv 6) (pa_cons (pe_callB call_len_seq (by rfl) T0.len PySem.boot_len (pa_cons (pv 4) pa_nil)) pa_nil)))))))) (pss_one (ps_ret pe_bl)) pss_nil)
      (pss_one (ps_ret (pe_callB (cr_all rfl) (by rfl) T0.all (by decide +kernel) (pa_cons (pe_lc (own := [("place", 9)]) (g := gName 9) (tt := tYes) rfl schas_form.nd (pi_tup (pv 6)) (blkOk_by (own := [("place", 9)]) (N := Nhas_form) (sc := defScope shas_form) (by decide +kernel)) (fun _ _ _ _ _ => pg_name (i := 9) schas_form.nd rfl (Or.inl rfl)) (fun _ _ _ _ _ => pts_nil) (fun _ _ _ _ _ => (pe_cmpR op_lt (pv 9) (pv 8) (nomark _)))) pa_nil)))))))))))), ?_⟩
    refine ⟨_, rfl, _, _, .type (tyD d), .type "tuple", isTup d, rfl, .ty _, dp_ty hd, ki_tup2 d, ?_⟩
    have no : ∀ {H'}, formD d = false → Same H H' → Q (.bl false) H' := fun e s => by
      have := q _ s
      rw [e] at this
      exact this
    cases z : isTup d with
    | false => exact ⟨_, rfl, iteT (iteT (no (by cases d <;> first | rfl | cases z) (Same.refl _)))⟩
    | true =>
      obtain ⟨xs, rfl⟩ := isTup_ex z
      obtain ⟨a, vs, rfl, ht, ha⟩ := dp_tup hd
      have lv := (dpAll_get ha).1
      refine ⟨_, rfl, iteF ?_⟩
      refine ⟨_, rfl, a, _, rfl, .inr ht, rfl, _, rfl, ?_⟩
      by_cases e7 : xs.length = 7
      · refine ite2 (fun e => ?_) (fun _ => ?_)
        · exfalso
          rw [lv, e7] at e
          simp at e
        · obtain ⟨d0, d1, d2, d3, d4, d5, d6, rfl⟩ := len7 e7
          obtain ⟨v0, v1, v2, v3, v4, v5, v6, rfl, h0, h1, h2, h3, h4, h5, h6⟩ := dpAll7 ha
          have s1 := sh _ rfl
          refine ⟨_, rfl, a, _, rfl, ht, rfl, _, _, rfl, _, _, rfl, _, _, rfl, _, _, rfl, _, _, rfl, _, _, rfl, _, _, rfl, rfl, ?_⟩
          refine ⟨_, rfl, _, _, .type (tyD d1), .type "tuple", isTup d1, rfl, .ty _, dp_ty h1, ki_tup2 d1, ?_⟩
          have ef : formD (.tuple [d0, d1, d2, d3, d4, d5, d6]) = form7 d0 d1 d2 d3 d4 d5 d6 := rfl
          rw [ef] at q no
          cases z1 : isTup d1 with
          | false => exact ⟨_, rfl, iteT (iteT (no (form7_b (isTup_no z1)) (Same.refl _)))⟩
          | true =>
            refine ⟨_, rfl, iteF ?_⟩
            refine ⟨_, rfl, _, _, .type (tyD d3), .type "tuple", isTup d3, rfl, .ty _, dp_ty h3, ki_tup2 d3, ?_⟩
            cases z3 : isTup d3 with
            | false => exact ⟨_, rfl, iteT (no (form7_d (isTup_no z3)) (Same.refl _))⟩
            | true =>
              refine ⟨_, rfl, iteF ?_⟩
              obtain ⟨ss, rfl⟩ := isTup_ex z1
              obtain ⟨ts, rfl⟩ := isTup_ex z3
              obtain ⟨aS, vS, rfl, hS, gS⟩ := dp_tup h1
              obtain ⟨aT, vT, rfl, hT, gT⟩ := dp_tup h3
              have lS := (dpAll_get gS).1
              have lT := (dpAll_get gT).1
              have e7 : form7 d0 (.tuple ss) d2 (.tuple ts) d4 d5 d6 = ((!decide ((ss.length : Int) < 1) && (!decide ((ss.length : Int) > 16) && !decide ((ts.length : Int) > 1000))) && ((placeD d0 ss.length && numD d6) && ((rowD (.tuple ss) ss.length && (tabD d2 ss.length ss.length && tabD (.tuple ts) ts.length ss.length)) && ((tabD d4 ((ts.length : Int) + 1) ss.length && rowD d5 ts.length) && allLt d5 ss.length)))) := rfl
              rw [e7] at q no
              -- many
              refine ⟨_, rfl, aS, _, rfl, .inr hS, ?_⟩
              rw [lS]
              refine ⟨_, rfl, _, _, rfl, rfl, _, rfl, ?_⟩
              refine ite2 (fun e => ?_) (fun n1 => ?_)
              · exact iteT (no (by rw [e]; rfl) (Same.refl _))
              have n1 := Bool.eq_false_iff.mpr n1
              rw [n1] at q no
              refine ⟨_, rfl, _, _, rfl, rfl, _, rfl, ?_⟩
              refine ite2 (fun e => ?_) (fun n2 => ?_)
              · exact iteT (no (by rw [show decide ((ss.length : Int) > 16) = true from e]; rfl) (Same.refl _))
              have n2 : decide ((ss.length : Int) > 16) = false := Bool.eq_false_iff.mpr n2
              rw [n2] at q no
              refine ⟨_, rfl, aT, _, rfl, .inr hT, _, _, rfl, rfl, _, rfl, ?_⟩
              rw [lT]
              refine ite2 (fun e => ?_) (fun n3 => ?_)
              · exact no (by rw [show decide ((ts.length : Int) > 1000) = true from e]; rfl) (Same.refl _)
              have n3 : decide ((ts.length : Int) > 1000) = false := Bool.eq_false_iff.mpr n3
              rw [n3] at q no
              have e0 : (!false && (!false && !false)) = true := rfl
              rw [e0, Bool.true_and] at q no
              -- start, spent
              refine ⟨_, rfl, _, rfl, v0, d0, _, rfl, h0, ?_⟩
              cases y0 : placeD d0 ss.length with
              | false => exact ⟨_, rfl, iteT (iteT (no (by rw [y0]; rfl) (Same.refl _)))⟩
              | true =>
              rw [y0, Bool.true_and] at q no
              refine ⟨_, rfl, iteF ?_⟩
              refine ⟨_, rfl, v6, d6, rfl, h6, ?_⟩
              cases y6 : numD d6 with
              | false => exact ⟨_, rfl, iteT (no (by rw [y6]; rfl) (Same.refl _))⟩
              | true =>
              rw [y6, Bool.true_and] at q no
              refine ⟨_, rfl, iteF ?_⟩
              -- stands, ways, tasks
              refine ⟨_, rfl, _, rfl, _, _, _, rfl, h1, (s1 _ (by simp)).1, fun H1 sa => ?_⟩
              cases y1 : rowD (.tuple ss) ss.length with
              | false => exact ⟨_, rfl, iteT (iteT (no (by rw [y1]; rfl) sa))⟩
              | true =>
              rw [y1, Bool.true_and] at q no
              refine ⟨_, rfl, iteF ?_⟩
              refine ⟨_, rfl, _, rfl, _, rfl, _, _, _, _, rfl, dp_same sa h2, (s1 _ (by simp)).1, (s1 _ (by simp)).2, fun H2 sb => ?_⟩
              cases y2 : tabD d2 ss.length ss.length with
              | false => exact ⟨_, rfl, iteT (iteT (no (by rw [y2]; rfl) (sa.trans sb)))⟩
              | true =>
              rw [y2, Bool.true_and] at q no
              refine ⟨_, rfl, iteF ?_⟩
              have sb' := sa.trans sb
              refine ⟨_, rfl, _, rfl, aT, _, rfl, .inr (sqt_same sb' hT), ?_⟩
              rw [lT]
              refine ⟨_, rfl, _, _, _, _, rfl, dp_same sb' h3, (s1 _ (by simp)).1, (s1 _ (by simp)).2, fun H3 sc => ?_⟩
              have sc' := sb'.trans sc
              cases y3 : tabD (.tuple ts) ts.length ss.length with
              | false => exact ⟨_, rfl, iteT (no (by rw [y3]; rfl) sc')⟩
              | true =>
              rw [y3, Bool.true_and] at q no
              refine ⟨_, rfl, iteF ?_⟩
              -- work, row
              refine ⟨_, rfl, _, rfl, aT, _, rfl, .inr (sqt_same sc' hT), ?_⟩
              rw [lT]
              refine ⟨_, _, rfl, rfl, _, rfl, _, _, _, _, rfl, dp_same sc' h4, (s1 _ (by simp)).1, (s1 _ (by simp)).2, fun H4 sd => ?_⟩
              have sd' := sc'.trans sd
              cases y4 : tabD d4 ((ts.length : Int) + 1) ss.length with
              | false => exact ⟨_, rfl, iteT (iteT (no (by rw [y4]; rfl) sd'))⟩
              | true =>
              rw [y4, Bool.true_and] at q no
              refine ⟨_, rfl, iteF ?_⟩
              refine ⟨_, rfl, _, rfl, aT, _, rfl, .inr (sqt_same sd' hT), ?_⟩
              rw [lT]
              refine ⟨_, _, _, rfl, dp_same sd' h5, (s1 _ (by simp)).1, fun H5 se => ?_⟩
              have se' := sd'.trans se
              cases y5 : rowD d5 ts.length with
              | false => exact ⟨_, rfl, iteT (no (by rw [y5]; rfl) se')⟩
              | true =>
              rw [y5, Bool.true_and] at q no
              refine ⟨_, rfl, iteF ?_⟩
              obtain ⟨rs, rfl, nr⟩ := rowD_true y5
              obtain ⟨aR, vR, rfl, hR, gR⟩ := dp_tup h5
              obtain ⟨lR, aR'⟩ := dpAll_get gR
              refine ⟨_, rfl, aR, rfl, ⟨_, sqt_same se' hR⟩, fun D nD => lc_mk (walk_tup (K := K) (a := aR) (xs := vR)) (fun i => V.bl ((rs.map (ltD ss.length)).getD i false)) (by have := (s1 (.tuple rs) (by simp)).1; rw [lR]; exact Nat.lt_of_le_of_lt this (by decide)) nD (fun H s => sqt_same s (sqt_same se' hR)) (fun i x H6 H6' N hi s6 yy fin => ?_) fun H6 s6 eD => ?_⟩
              · obtain ⟨rfl, ex⟩ := yy
                obtain ⟨dd, ed, hdd⟩ := aR' i x ex
                obtain ⟨m, rfl⟩ := numD_int (List.all_eq_true.mp nr dd (List.mem_of_getElem? ed))
                cases hdd
                refine ⟨rfl, _, rfl, _, rfl, _, _, rfl, rfl, ?_⟩
                have := fin _ (Same.refl _)
                rw [List.getD_eq_getElem?_getD, List.getElem?_map, ed] at this
                exact this
              · have e3 : (List.range vR.length).map (fun i => V.bl ((rs.map (ltD ss.length)).getD i false)) = (rs.map (ltD ss.length)).map V.bl := by
                  rw [lR]
                  exact mk_getD rs (ltD ss.length)
                rw [e3] at eD
                refine ⟨D, rs.map (ltD ss.length), rfl, SqL.of eD, ?_⟩
                have := q H6 (se'.trans s6)
                rw [List.all_map]
                exact this
      · refine ite2 (fun _ => no (form_len e7) (Same.refl _)) (fun e => ?_)
        have e2 : ((vs.length : Nat) : Int) = 7 := by simpa using e
        omega
end
end K1
namespace K1
open PySem PySem.Spec PyProof.Rows L2 Ow Po Z3
def Num (i : Int) : Prop := 0 ≤ i ∧ i ≤ 1000000000000
def iD (xs : List Int) : PyData := .tuple (xs.map .int)
def tD (xss : List (List Int)) : PyData := .tuple (xss.map iD)
/-- a paper -/
structure Pap where
  c : Pr
  T : List (List Int)
  Kw : List (List Int)
  row : List Nat
  spent : Int
def papD (p : Pap) : PyData := .tuple [.int (p.c.start : Nat), iD p.c.S, tD p.c.W, tD p.T, tD p.Kw, iD (toI p.row), .int p.spent]
structure Tab (xss : List (List Int)) (many wide : Nat) : Prop where
  l : xss.length = many
  r : ∀ r ∈ xss, r.length = wide ∧ ∀ x ∈ r, Num x
structure FormP (p : Pap) : Prop where
  n1 : 1 ≤ p.c.n
  n16 : p.c.n ≤ 16
  tl : p.T.length ≤ 1000
  st : p.c.start < p.c.n
  sp : Num p.spent
  sl : p.c.S.length = p.c.n
  sn : ∀ x ∈ p.c.S, Num x
  w : Tab p.c.W p.c.n p.c.n
  t : Tab p.T p.T.length p.c.n
  k : Tab p.Kw (p.T.length + 1) p.c.n
  rl : p.row.length = p.T.length
  rn : ∀ q ∈ p.row, q < p.c.n
theorem numD_iff {d : PyData} : numD d = true ↔ ∃ i, d = .int i ∧ Num i := by
  constructor
  · intro h
    obtain ⟨i, rfl⟩ := numD_int h
    have : (decide (0 ≤ i) && decide (i ≤ 1000000000000)) = true := h
    rw [Bool.and_eq_true, decide_eq_true_iff, decide_eq_true_iff] at this
    exact ⟨i, rfl, this⟩
  · rintro ⟨i, rfl, a, b⟩
    show (decide (0 ≤ i) && decide (i ≤ 1000000000000)) = true
    rw [decide_eq_true a, decide_eq_true b]
    rfl
theorem ints_of : ∀ {ds : List PyData}, ds.all numD = true → ∃ xs : List Int, ds = xs.map .int ∧ ∀ x ∈ xs, Num x
  | [], _ => ⟨[], rfl, fun x m => nomatch m⟩
  | d :: ds, h => by
    rw [List.all_cons, Bool.and_eq_true] at h
    obtain ⟨i, rfl, n⟩ := numD_iff.mp h.1
    obtain ⟨xs, rfl, g⟩ := ints_of h.2
    exact ⟨i :: xs, rfl, fun x m => by rcases List.mem_cons.mp m with e | e; rw [e]; exact n; exact g x e⟩
theorem all_num {xs : List Int} (h : ∀ x ∈ xs, Num x) : (xs.map PyData.int).all numD = true := by
  rw [List.all_map, List.all_eq_true]
  exact fun x m => numD_iff.mpr ⟨x, rfl, h x m⟩
theorem rowD_iff {d : PyData} {m : Nat} : rowD d m = true ↔ ∃ xs : List Int, d = iD xs ∧ xs.length = m ∧ ∀ x ∈ xs, Num x := by
  constructor
  · intro h
    obtain ⟨ds, rfl, a⟩ := rowD_true h
    obtain ⟨xs, rfl, g⟩ := ints_of a
    rw [rowD_tup, Bool.and_eq_true, decide_eq_true_iff, List.length_map] at h
    exact ⟨xs, rfl, by omega, g⟩
  · rintro ⟨xs, rfl, l, g⟩
    show rowD (.tuple (xs.map .int)) m = true
    rw [rowD_tup, all_num g, List.length_map, l, decide_eq_true rfl]
    rfl
theorem rows_of {w : Nat} : ∀ {ds : List PyData}, (ds.all fun r => rowD r w) = true → ∃ xss : List (List Int), ds = xss.map iD ∧ ∀ r ∈ xss, r.length = w ∧ ∀ x ∈ r, Num x
  | [], _ => ⟨[], rfl, fun x m => nomatch m⟩
  | d :: ds, h => by
    rw [List.all_cons, Bool.and_eq_true] at h
    obtain ⟨xs, rfl, l, n⟩ := rowD_iff.mp h.1
    obtain ⟨xss, rfl, g⟩ := rows_of h.2
    exact ⟨xs :: xss, rfl, fun x m => by rcases List.mem_cons.mp m with e | e; rw [e]; exact ⟨l, n⟩; exact g x e⟩
theorem tabD_iff {d : PyData} {m w : Nat} : tabD d m w = true ↔ ∃ xss, d = tD xss ∧ Tab xss m w := by
  constructor
  · intro h
    cases d with
    | tuple ds =>
      rw [tabD_tup, Bool.and_eq_true, decide_eq_true_iff] at h
      obtain ⟨xss, rfl, g⟩ := rows_of h.2
      refine ⟨xss, rfl, ?_, g⟩
      have := h.1
      rw [List.length_map] at this
      omega
    | _ => cases h
  · rintro ⟨xss, rfl, l, g⟩
    show tabD (.tuple (xss.map iD)) m w = true
    rw [tabD_tup, List.length_map, l, decide_eq_true rfl, List.all_map]
    show (xss.all _) = true
    rw [List.all_eq_true]
    exact fun r hr => rowD_iff.mpr ⟨r, rfl, g r hr⟩
theorem placeD_iff {d : PyData} {n : Nat} : placeD d n = true ↔ ∃ q : Nat, d = .int (q : Nat) ∧ q < n ∧ Num q := by
  constructor
  · intro h
    cases d with
    | int i =>
      have : (numD (.int i) && decide (i < n)) = true := h
      rw [Bool.and_eq_true, decide_eq_true_iff] at this
      obtain ⟨j, ej, nj⟩ := numD_iff.mp this.1
      cases ej
      obtain ⟨q, rfl⟩ := Int.eq_ofNat_of_zero_le nj.1
      exact ⟨q, rfl, by omega, nj⟩
    | _ => cases h
  · rintro ⟨q, rfl, l, n'⟩
    show (numD (.int q) && decide ((q : Int) < n)) = true
    rw [numD_iff.mpr ⟨_, rfl, n'⟩, decide_eq_true (show (q : Int) < n by omega)]
    rfl
theorem nats_of {n : Nat} : ∀ {xs : List Int}, (∀ x ∈ xs, Num x) → ((xs.map PyData.int).all (ltD n)) = true → ∃ ps : List Nat, xs = toI ps ∧ ∀ q ∈ ps, q < n
  | [], _, _ => ⟨[], rfl, fun x m => nomatch m⟩
  | x :: xs, g, h => by
    rw [List.map_cons, List.all_cons, Bool.and_eq_true] at h
    obtain ⟨ps, rfl, l⟩ := nats_of (fun y m => g y (List.mem_cons_of_mem _ m)) h.2
    obtain ⟨q, rfl⟩ := Int.eq_ofNat_of_zero_le (g x List.mem_cons_self).1
    have : decide ((q : Int) < n) = true := h.1
    rw [decide_eq_true_iff] at this
    exact ⟨q :: ps, rfl, fun y m => by rcases List.mem_cons.mp m with e | e; rw [e]; omega; exact l y e⟩
theorem form_pap {d : PyData} (h : formD d = true) : ∃ p, d = papD p ∧ FormP p := by
  cases d with
  | tuple xs =>
    by_cases e7 : xs.length = 7
    · obtain ⟨d0, d1, d2, d3, d4, d5, d6, rfl⟩ := len7 e7
      have h : form7 d0 d1 d2 d3 d4 d5 d6 = true := h
      cases z1 : isTup d1 with
      | false => rw [form7_b (isTup_no z1)] at h; cases h
      | true =>
      cases z3 : isTup d3 with
      | false => rw [form7_d (isTup_no z3)] at h; cases h
      | true =>
      obtain ⟨ss, rfl⟩ := isTup_ex z1
      obtain ⟨ts, rfl⟩ := isTup_ex z3
      have h : ((!decide ((ss.length : Int) < 1) && (!decide ((ss.length : Int) > 16) && !decide ((ts.length : Int) > 1000))) && ((placeD d0 ss.length && numD d6) && ((rowD (.tuple ss) ss.length && (tabD d2 ss.length ss.length && tabD (.tuple ts) ts.length ss.length)) && ((tabD d4 ((ts.length : Int) + 1) ss.length && rowD d5 ts.length) && allLt d5 ss.length)))) = true := h
      simp only [Bool.and_eq_true, Bool.not_eq_true', decide_eq_false_iff_not] at h
      obtain ⟨⟨a1, a2, a3⟩, ⟨a4, a5⟩, ⟨a6, a7, a8⟩, ⟨a9, a10⟩, a11⟩ := h
      obtain ⟨q, rfl, lq, _⟩ := placeD_iff.mp a4
      obtain ⟨sp, rfl, nsp⟩ := numD_iff.mp a5
      obtain ⟨S, eS, lS, nS⟩ := rowD_iff.mp a6
      obtain ⟨W, rfl, tW⟩ := tabD_iff.mp a7
      obtain ⟨T, eT, tT⟩ := tabD_iff.mp a8
      obtain ⟨Kw, rfl, tK⟩ := tabD_iff.mp (show tabD d4 ((ts.length + 1 : Nat) : Int) ss.length = true from a9)
      obtain ⟨R, rfl, lR, nR⟩ := rowD_iff.mp a10
      obtain ⟨ps, rfl, lp⟩ := nats_of nR a11
      cases eS
      cases eT
      rw [List.length_map] at lS lq tW tT tK lp a1 a2 a3 lR
      have tT' := tT.l
      refine ⟨⟨⟨S.length, S, W, q⟩, T, Kw, ps, sp⟩, rfl, ?_⟩
      exact ⟨by show 1 ≤ S.length; omega, by show S.length ≤ 16; omega, by show T.length ≤ 1000; omega, lq, nsp, rfl, nS, by simpa using tW, by simpa using tT, by simpa using tK, by unfold toI at lR; rw [List.length_map] at lR; simpa using lR, lp⟩
    · rw [form_len e7] at h
      cases h
  | _ => cases h
theorem num_small {q n : Nat} (h : q < n) (hn : n ≤ 16) : Num q := ⟨by omega, by omega⟩
theorem form_of {p : Pap} (h : FormP p) : formD (papD p) = true := by
  have e : formD (papD p) = ((!decide (((p.c.S.map PyData.int).length : Int) < 1) && (!decide (((p.c.S.map PyData.int).length : Int) > 16) && !decide (((p.T.map iD).length : Int) > 1000))) && ((placeD (.int (p.c.start : Nat)) (p.c.S.map PyData.int).length && numD (.int p.spent)) && ((rowD (iD p.c.S) (p.c.S.map PyData.int).length && (tabD (tD p.c.W) (p.c.S.map PyData.int).length (p.c.S.map PyData.int).length && tabD (tD p.T) (p.T.map iD).length (p.c.S.map PyData.int).length)) && ((tabD (tD p.Kw) (((p.T.map iD).length : Int) + 1) (p.c.S.map PyData.int).length && rowD (iD (toI p.row)) (p.T.map iD).length) && allLt (iD (toI p.row)) (p.c.S.map PyData.int).length)))) := rfl
  rw [e, List.length_map, List.length_map, h.sl]
  have n1 := h.n1
  have n16 := h.n16
  have tl := h.tl
  simp only [Bool.and_eq_true, Bool.not_eq_true', decide_eq_false_iff_not]
  refine ⟨⟨by omega, by omega, by omega⟩, ⟨placeD_iff.mpr ⟨_, rfl, h.st, num_small h.st n16⟩, numD_iff.mpr ⟨_, rfl, h.sp⟩⟩, ⟨rowD_iff.mpr ⟨_, rfl, h.sl, h.sn⟩, tabD_iff.mpr ⟨_, rfl, h.w⟩, tabD_iff.mpr ⟨_, rfl, h.t⟩⟩, ⟨?_, ?_⟩, ?_⟩
  · exact tabD_iff.mpr ⟨_, rfl, h.k⟩
  · refine rowD_iff.mpr ⟨_, rfl, by unfold toI; rw [List.length_map]; exact h.rl, fun x m => ?_⟩
    obtain ⟨q, mq, rfl⟩ := List.mem_map.mp m
    exact num_small (h.rn q mq) n16
  · show ((toI p.row).map PyData.int).all (ltD p.c.n) = true
    unfold toI
    rw [List.map_map, List.all_map, List.all_eq_true]
    intro q mq
    have := h.rn q mq
    exact decide_eq_true (show (q : Int) < p.c.n by omega)
/-! how a paper stands -/
def TI (K : PySem.W.Frag) (H : Hp) (v : V) (xs : List Int) : Prop := ∃ a, v = .ref a ∧ SqT K H a (xs.map V.int)
def TT (K : PySem.W.Frag) (H : Hp) (v : V) (xss : List (List Int)) : Prop := ∃ a vs, v = .ref a ∧ SqT K H a vs ∧ vs.length = xss.length ∧ ∀ (i : Nat) (u : V) (xs : List Int), vs[i]? = some u → xss[i]? = some xs → TI K H u xs
theorem TI.same {K : PySem.W.Frag} {H H' : Hp} {v : V} {xs : List Int} (s : Same H H') (h : TI K H v xs) : TI K H' v xs := by
  obtain ⟨a, e, f⟩ := h
  exact ⟨a, e, sqt_same s f⟩
theorem TT.same {K : PySem.W.Frag} {H H' : Hp} {v : V} {xss : List (List Int)} (s : Same H H') (h : TT K H v xss) : TT K H' v xss := by
  obtain ⟨a, vs, e, f, l, g⟩ := h
  exact ⟨a, vs, e, sqt_same s f, l, fun i u xs e1 e2 => (g i u xs e1 e2).same s⟩
theorem dp_ti {K : PySem.W.Frag} {H : Hp} {v : V} {xs : List Int} (h : Dp K H v (iD xs)) : TI K H v xs := by
  obtain ⟨a, vs, rfl, ht, ha⟩ := dp_tup h
  refine ⟨a, rfl, ?_⟩
  have e : vs = xs.map V.int := by
    obtain ⟨l, g⟩ := dpAll_get ha
    rw [List.length_map] at l
    refine List.ext_getElem? fun i => ?_
    rcases Nat.lt_or_ge i vs.length with z | z
    · obtain ⟨d, ed, hd⟩ := g i _ (List.getElem?_eq_getElem z)
      rw [List.getElem?_map, List.getElem?_eq_getElem (by omega)] at ed
      cases ed
      rw [List.getElem?_map, List.getElem?_eq_getElem (show i < xs.length by omega), List.getElem?_eq_getElem z]
      cases hx : vs[i] with
      | int k => rw [hx] at hd; cases hd; rfl
      | _ => rw [hx] at hd; cases hd
    · rw [List.getElem?_eq_none z, List.getElem?_eq_none (by rw [List.length_map]; omega)]
  rw [← e]
  exact ht
theorem dp_tt {K : PySem.W.Frag} {H : Hp} {v : V} {xss : List (List Int)} (h : Dp K H v (tD xss)) : TT K H v xss := by
  obtain ⟨a, vs, rfl, ht, ha⟩ := dp_tup h
  obtain ⟨l, g⟩ := dpAll_get ha
  rw [List.length_map] at l
  refine ⟨a, vs, rfl, ht, l, fun i u xs e1 e2 => ?_⟩
  obtain ⟨d, ed, hd⟩ := g i u e1
  rw [List.getElem?_map, e2] at ed
  cases ed
  exact dp_ti hd
structure PapAt (K : PySem.W.Frag) (H : Hp) (a : Addr) (p : Pap) : Prop where
  ex : ∃ vS vW vT vK vR, SqT K H a [.int (p.c.start : Nat), vS, vW, vT, vK, vR, .int p.spent] ∧ TI K H vS p.c.S ∧ TT K H vW p.c.W ∧ TT K H vT p.T ∧ TT K H vK p.Kw ∧ TI K H vR (toI p.row)
theorem PapAt.same {K : PySem.W.Frag} {H H' : Hp} {a : Addr} {p : Pap} (s : Same H H') (h : PapAt K H a p) : PapAt K H' a p := by
  obtain ⟨vS, vW, vT, vK, vR, e, h1, h2, h3, h4, h5⟩ := h.ex
  exact ⟨vS, vW, vT, vK, vR, sqt_same s e, h1.same s, h2.same s, h3.same s, h4.same s, h5.same s⟩
theorem dp_pap {K : PySem.W.Frag} {H : Hp} {v : V} {p : Pap} (h : Dp K H v (papD p)) : ∃ a, v = .ref a ∧ PapAt K H a p := by
  obtain ⟨a, vs, rfl, ht, ha⟩ := dp_tup h
  obtain ⟨v0, v1, v2, v3, v4, v5, v6, rfl, h0, h1, h2, h3, h4, h5, h6⟩ := dpAll7 ha
  cases h0
  cases h6
  exact ⟨a, rfl, v1, v2, v3, v4, v5, ht, dp_ti h1, dp_tt h2, dp_tt h3, dp_tt h4, dp_ti h5⟩
end K1
namespace K1
open PySem PySem.Spec PyProof.Rows L2 Ow Po Z3
abbrev stwice_going : Stmt := topS 10
abbrev Ntwice_going : List Str := ["paper", "first", "second", "stands"]
theorem sctwice_going : FnScope Ntwice_going ["paper", "first", "second"] (defScope stwice_going) := ⟨rfl, rfl, rfl, by decide +kernel, rfl, by decide +kernel, by decide +kernel⟩
abbrev sways_hold : Stmt := topS 11
abbrev Nways_hold : List Str := ["paper", "many", "twice", "first", "second", "place", "number"]
theorem scways_hold : FnScope Nways_hold ["paper"] (defScope sways_hold) := ⟨rfl, rfl, rfl, by decide +kernel, rfl, by decide +kernel, by decide +kernel⟩
abbrev snone_greater : Stmt := topS 12
abbrev Nnone_greater : List Str := ["numbers", "bounds", "number", "bound"]
theorem scnone_greater : FnScope Nnone_greater ["numbers", "bounds"] (defScope snone_greater) := ⟨rfl, rfl, rfl, by decide +kernel, rfl, by decide +kernel, by decide +kernel⟩
abbrev swork_holds : Stmt := topS 13
abbrev Nwork_holds : List Str := ["paper", "start", "_", "ways", "tasks", "work", "at", "task", "place", "told", "served", "number"]
theorem scwork_holds : FnScope Nwork_holds ["paper"] (defScope swork_holds) := ⟨rfl, rfl, rfl, by decide +kernel, rfl, by decide +kernel, by decide +kernel⟩
abbrev stwice_spent : Stmt := topS 14
abbrev Ntwice_spent : List Str := ["paper", "place", "_", "tasks", "row", "twice", "task", "chosen"]
theorem sctwice_spent : FnScope Ntwice_spent ["paper"] (defScope stwice_spent) := ⟨rfl, rfl, rfl, by decide +kernel, rfl, by decide +kernel, by decide +kernel⟩
abbrev splan_holds : Stmt := topS 15
abbrev Nplan_holds : List Str := ["paper", "start", "stands", "_", "work", "spent", "ends", "number", "standing"]
theorem scplan_holds : FnScope Nplan_holds ["paper"] (defScope splan_holds) := ⟨rfl, rfl, rfl, by decide +kernel, rfl, by decide +kernel, by decide +kernel⟩
abbrev sjudge : Stmt := topS 16
abbrev Njudge : List Str := ["paper"]
theorem scjudge : FnScope Njudge ["paper"] (defScope sjudge) := ⟨rfl, rfl, rfl, by decide +kernel, rfl, by decide +kernel, by decide +kernel⟩
def tg (c : Pr) (x y : Nat) : Int := gI (gR c.W x) y + gI c.S y - gI c.S x
def WaysP (c : Pr) : Prop := (∀ i, i < c.n → gI (gR c.W i) i = 0) ∧ ∀ x y, x < c.n → y < c.n → 0 ≤ tg c x y ∧ tg c x y % 2 = 0
def WorkP (p : Pap) : Prop := (∀ y, y < p.c.n → gI (gR p.Kw 0) y ≤ gI (gR p.c.W p.c.start) y) ∧ ∀ t, t < p.T.length → ∀ x, x < p.c.n → ∀ y, y < p.c.n → gI (gR p.Kw (t + 1)) y ≤ gI (gR p.Kw t) x + 2 * gI (gR p.T t) x + gI (gR p.c.W x) y
def PlanP (p : Pap) : Prop := spR p.c p.T.reverse p.row.reverse = p.spent ∧ ∀ y, y < p.c.n → 2 * p.spent + gI p.c.S p.c.start ≤ gI (gR p.Kw p.T.length) y + gI p.c.S y
theorem form_good {p : Pap} (f : FormP p) (h : WaysP p.c) : Good p.c := by
  refine ⟨f.n1, f.sl, f.w.l, fun i hi => ?_, f.st, h.1, h.2⟩
  exact (f.w.r _ (List.mem_of_getElem? (at_gR (by rw [f.w.l]; exact hi)))).1
theorem tab_at {xss : List (List Int)} {m w i : Nat} (t : Tab xss m w) (h : i < m) : xss[i]? = some (gR xss i) ∧ (gR xss i).length = w := by
  have e := at_gR (W := xss) (i := i) (by rw [t.l]; exact h)
  exact ⟨e, (t.r _ (List.mem_of_getElem? e)).1⟩
theorem TT.get {K : PySem.W.Frag} {H : Hp} {a : Addr} {vs : List V} {xss : List (List Int)} (l : vs.length = xss.length) (g : ∀ (i : Nat) (u : V) (xs : List Int), vs[i]? = some u → xss[i]? = some xs → TI K H u xs) {i : Nat} {xs : List Int} (e : xss[i]? = some xs) :
    ∃ b, vs[i]? = some (.ref b) ∧ SqT K H b (xs.map V.int) := by
  have hi := (List.getElem?_eq_some_iff.mp e).1
  have hv : i < vs.length := by rw [l]; exact hi
  obtain ⟨b, eb, hb⟩ := g i vs[i] xs (List.getElem?_eq_getElem hv) e
  exact ⟨b, by rw [List.getElem?_eq_getElem hv, eb], hb⟩
def spTwice (K : PySem.W.Frag) : Sp := fun vs H Q _ => ∃ (a : Addr) (p : Pap) (x y : Nat), vs = [.ref a, .int (x : Nat), .int (y : Nat)] ∧ PapAt K H a p ∧ FormP p ∧ x < p.c.n ∧ y < p.c.n ∧ Q (.int (tg p.c x y)) H
def spWays (K : PySem.W.Frag) : Sp := fun vs H Q _ => ∃ (a : Addr) (p : Pap), vs = [.ref a] ∧ PapAt K H a p ∧ FormP p ∧ ∀ H' b, Same H H' → (b = true ↔ WaysP p.c) → Q (.bl b) H'
def spNone (K : PySem.W.Frag) : Sp := fun vs H Q _ => ∃ (t u : Bool) (a b : Addr) (xs ys : List Int), vs = [.ref a, .ref b] ∧ Zg.SqB K t H a (xs.map V.int) ∧ Zg.SqB K u H b (ys.map V.int) ∧ xs.length = ys.length ∧ xs.length ≤ 10000 ∧ ∀ H' b, Same H H' → (b = true ↔ ∀ i, i < xs.length → gI xs i ≤ gI ys i) → Q (.bl b) H'
def spWork (K : PySem.W.Frag) : Sp := fun vs H Q _ => ∃ (a : Addr) (p : Pap), vs = [.ref a] ∧ PapAt K H a p ∧ FormP p ∧ ∀ H' b, Same H H' → (b = true ↔ WorkP p) → Q (.bl b) H'
def spTSpent (K : PySem.W.Frag) : Sp := fun vs H Q _ => ∃ (a : Addr) (p : Pap), vs = [.ref a] ∧ PapAt K H a p ∧ FormP p ∧ Good p.c ∧ ∀ H', Same H H' → Q (.int (2 * spR p.c p.T.reverse p.row.reverse)) H'
def spPlan (K : PySem.W.Frag) : Sp := fun vs H Q _ => ∃ (a : Addr) (p : Pap), vs = [.ref a] ∧ PapAt K H a p ∧ FormP p ∧ Good p.c ∧ ∀ H' b, Same H H' → (b = true ↔ PlanP p) → Q (.bl b) H'
section
variable {P : Program} {w : World} {K : PySem.W.Frag} {mg : Str → Option Value} {base : Heap}
theorem ok_twice {f : Addr} {fd : FuncData} (F : Fun K "twice_going" "twice_going" stwice_going f fd) :
    FnOk P w K mg base CX0 1 f fd ["paper", "first", "second"] (spTwice K) := by
  refine F.ok sctwice_going (fun vs H Q E h => ?_) (fun cdv A outer s H vs Q E hr h => ?_)
  · obtain ⟨a, p, x, y, rfl, _⟩ := h
    rfl
  · obtain ⟨a, p, x, y, rfl, D, f, hx, hy, q⟩ := h
    obtain ⟨vS, vW, vT, vK, vR, et, ⟨aS, rfl, hS⟩, ⟨aW, ws, rfl, hW, lW, gW⟩, _⟩ := D.ex
    obtain ⟨eX, lX⟩ := tab_at f.w hx
    obtain ⟨b, eb, hb⟩ := TT.get (a := aW) lW gW eX
    refine ⟨_, (pss_cons (ps_set (i := 3) sctwice_going.nd rfl (.inl rfl) (pe_ix ix_tup (pv 0) pe_int (fun _ _ => rfl)))
      (pss_one (ps_ret (pe_op op_sub (pe_op op_add (pe_ix ix_tup (pe_ix ix_tup (pe_ix ix_tup (pv 0) pe_int (fun _ _ => rfl)) (pv 1) (fun _ _ => rfl)) (pv 2) (fun _ _ => rfl)) (pe_ix ix_tup (pv 3) (pv 2) (fun _ _ => rfl))) (pe_ix ix_tup (pv 3) (pv 1) (fun _ _ => rfl)))))), ?_⟩
    refine ⟨_, rfl, a, _, 1, .ref aS, rfl, rfl, et, rfl, ?_⟩
    refine ⟨_, rfl, a, _, 2, .ref aW, rfl, rfl, et, rfl, _, rfl, aW, _, _, _, rfl, rfl, hW, atI_nat eb, _, rfl, b, _, _, _, rfl, rfl, hb, atI_nat (li_at (by rw [lX]; exact hy)), _, rfl, _, rfl, aS, _, _, _, rfl, rfl, hS, atI_nat (li_at (by rw [f.sl]; exact hy)), _, _, rfl, rfl, _, rfl, _, rfl, aS, _, _, _, rfl, rfl, hS, atI_nat (li_at (by rw [f.sl]; exact hx)), _, _, rfl, rfl, q⟩
theorem ok_none {f : Addr} {fd : FuncData} (F : Fun K "none_greater" "none_greater" snone_greater f fd) (T0 : Bl mg) :
    FnOk P w K mg base CX0 1 f fd ["numbers", "bounds"] (spNone K) := by
  refine F.ok scnone_greater (fun vs H Q E h => ?_) (fun cdv A outer s H vs Q E hr h => ?_)
  · obtain ⟨t, u, a, b, xs, ys, rfl, _⟩ := h
    rfl
  · obtain ⟨t, u, a, b, xs, ys, rfl, hx, hy, le, hl, q⟩ := h
    refine ⟨_, (pss_one (ps_ret (pe_callB (cr_all rfl) (by rfl) T0.all (by decide +kernel) (pa_cons (pe_lc (own := [("number", 2), ("bound", 3)]) (g := gTup K 2 (gCons (gName 2) (gCons (gName 3) gNil))) (tt := tYes) rfl scnone_greater.nd (Zg.pi_zipG (K := K) rfl (by rfl) T0.zip (pa_cons (pv 0) (pa_cons (pv 1) pa_nil))) (blkOk_by (own := [("number", 2), ("bound", 3)]) (N := Nnone_greater) (sc := defScope snone_greater) (by decide +kernel)) (fun _ _ _ _ _ => pg_tup rfl (pgs_cons (pg_name (i := 2) scnone_greater.nd rfl (Or.inl rfl)) (pgs_cons (pg_name (i := 3) scnone_greater.nd rfl (Or.inl rfl)) pgs_nil))) (fun _ _ _ _ _ => pts_nil) (fun _ _ _ _ _ => (pe_cmpR op_le (pv 2) (pv 3) (nomark _)))) pa_nil)))), ?_⟩
    have hn : xs.length = min (xs.map V.int).length (ys.map V.int).length := by rw [List.length_map, List.length_map, ← le, Nat.min_self]
    refine ⟨_, rfl, _, rfl, t, u, a, b, _, _, rfl, hx, hy, fun D nD => lc_mk (Zg.walkG (K := K) hn) (fun i => V.bl (decide (gI xs i ≤ gI ys i))) (Nat.lt_of_le_of_lt hl (by decide)) nD (fun H s => ⟨hx.same s, hy.same s⟩) (fun i x H2 H2' N hi s2 yy fin => ?_) fun H2 s2 eD => ?_⟩
    · obtain ⟨T, x1, y1, rfl, nt, rfl, h1, h2⟩ := yy
      dsimp only at h1 h2
      rw [li_at hi] at h1
      rw [li_at (by rw [← le]; exact hi)] at h2
      cases h1
      cases h2
      refine ⟨_, _, rfl, SqT.of upd_same, rfl, _, _, rfl, _, _, rfl, rfl, ?_⟩
      exact ⟨rfl, _, rfl, _, rfl, _, _, rfl, rfl, fin _ (Same.new nt)⟩
    · have e3 : (List.range xs.length).map (fun i => V.bl (decide (gI xs i ≤ gI ys i))) = ((List.range xs.length).map fun i => decide (gI xs i ≤ gI ys i)).map V.bl := by rw [List.map_map]; rfl
      rw [e3] at eD
      refine ⟨D, _, rfl, SqL.of eD, q _ _ s2 ?_⟩
      rw [List.all_map, List.all_eq_true]
      constructor
      · exact fun h i hi => of_decide_eq_true (h i (List.mem_range.mpr hi))
      · exact fun h i hi => decide_eq_true (h i (List.mem_range.mp hi))
theorem iteT' {b : Bool} {α β : Prop} (h : b = true) (x : α) : if b = true then α else β := by rw [if_pos h]; exact x
theorem iteF' {b : Bool} {α β : Prop} (h : b = false) (x : β) : if b = true then α else β := by rw [if_neg (by rw [h]; decide)]; exact x
theorem neV (x y : Int) : (!decide (V.int x = V.int y)) = decide (x ≠ y) := by
  by_cases z : x = y <;> simp [z]
theorem eqV0 (x y : Int) : decide (V.int x = V.int y) = decide (x = y) := by
  by_cases z : x = y <;> simp [z]
theorem xiJ {x : V} {i : Nat} (h : x = V.int (0 + (i : Int))) : x = V.int (i : Nat) := by rw [h, Int.zero_add]
def twoL (c : Pr) (n : Nat) : List Int := ((List.range n).map fun x => (List.range c.n).map fun y => tg c x y).flatten
theorem twoL_succ (c : Pr) (n : Nat) : twoL c (n + 1) = twoL c n ++ (List.range c.n).map fun y => tg c n y := by
  unfold twoL
  rw [List.range_succ, List.map_append, List.flatten_append]
  simp
theorem twoL_len (c : Pr) (n : Nat) : (twoL c n).length = n * c.n := by
  induction n with
  | zero => simp [twoL]
  | succ n ih => rw [twoL_succ, List.length_append, ih, List.length_map, List.length_range, Nat.succ_mul]
theorem mem_twoL {c : Pr} {v : Int} : v ∈ twoL c c.n ↔ ∃ x y, x < c.n ∧ y < c.n ∧ v = tg c x y := by
  unfold twoL
  simp only [List.mem_flatten, List.mem_map, List.mem_range]
  constructor
  · rintro ⟨l, ⟨x, hx, rfl⟩, h⟩
    obtain ⟨y, hy, e⟩ := List.mem_map.mp h
    exact ⟨x, y, hx, List.mem_range.mp hy, e.symm⟩
  · rintro ⟨x, y, hx, hy, rfl⟩
    exact ⟨_, ⟨x, hx, rfl⟩, List.mem_map.mpr ⟨y, List.mem_range.mpr hy, rfl⟩⟩
theorem ok_ways {f : Addr} {fd : FuncData} (F : Fun K "ways_hold" "ways_hold" sways_hold f fd) (T0 : Bl mg) (Dtwice_going : Kn P w K mg base 1 "twice_going" ["paper", "first", "second"] (spTwice K)) :
    FnOk P w K mg base CX0 2 f fd ["paper"] (spWays K) := by
  refine F.ok scways_hold (fun vs H Q E h => ?_) (fun cdv A outer s H vs Q E hr h => ?_)
  · obtain ⟨a, p, rfl, _⟩ := h
    rfl
  · obtain ⟨a, p, rfl, D, f, q⟩ := h
    obtain ⟨vS, vW, vT, vK, vR, et, ⟨aS, rfl, hS⟩, ⟨aW, ws, rfl, hW, lW, gW⟩, _⟩ := D.ex
    have n16 := f.n16
    have nl : (p.c.S.map V.int).length = p.c.n := by rw [List.length_map, f.sl]
    refine ⟨_, (pss_cons (ps_set (i := 1) scways_hold.nd rfl (.inr rfl) (pe_callB call_len_seq (by rfl) T0.len PySem.boot_len (pa_cons (pe_ix ix_tup (pv 0) pe_int (fun _ _ => rfl)) pa_nil)))
      (pss_cons (ps_if (pt_val (pe_callB (cr_any rfl) (by rfl) T0.any (by decide +kernel) (pa_cons (pe_lc (own := [("place", 5)]) (g := gName 5) (tt := tYes) rfl scways_hold.nd (pi_range1 (by rfl) T0.range (pa_cons (pv 1) pa_nil)) (blkOk_by (own := [("place", 5)]) (N := Nways_hold) (sc := defScope sways_hold) (by decide +kernel)) (fun _ _ _ _ _ => pg_name (i := 5) scways_hold.nd rfl (Or.inl rfl)) (fun _ _ _ _ _ => pts_nil) (fun _ _ _ _ _ => (pe_cmpR op_ne (pe_ix (ix_tup_K (K := K) rfl) (pe_ix (ix_tup_K (K := K) rfl) (pe_ix (ix_tup_K (K := K) rfl) (pv 0) pe_int (fun _ _ => rfl)) (pv 5) (fun _ _ => rfl)) (pv 5) (fun _ _ => rfl)) pe_int (nomark _)))) pa_nil))) (pss_one (ps_ret pe_bl)) pss_nil)
      (pss_cons (ps_setLc2 (i := 2) (own := [("first", 3), ("second", 4)]) (vs1 := [4]) (g := gName 3) (tt := tYes) (g1 := gName 4) (tt1 := tYes) rfl scways_hold.nd rfl rfl (sw_true rfl rfl rfl (by decide +kernel)) (pi_range1 (by rfl) T0.range (pa_cons (pv 1) pa_nil)) (blkOk_by (own := [("first", 3), ("second", 4)]) (N := Nways_hold) (sc := defScope sways_hold) (by decide +kernel)) (by decide) (fun _ _ _ _ _ => pg_name (i := 3) scways_hold.nd rfl (Or.inl rfl)) (fun _ _ _ _ _ => pts_nil) (fun _ _ _ _ _ => (pi_range1 (by rfl) T0.range (pa_cons (pv 1) pa_nil))) (fun _ _ _ _ _ => pg_name (i := 4) scways_hold.nd rfl (Or.inl rfl)) (fun _ _ _ _ _ => pts_nil) (fun _ _ _ _ _ => (pe_kn Dtwice_going hr (pa_cons (pv 0) (pa_cons (pv 3) (pa_cons (pv 4) pa_nil))))))
      (pss_one (ps_ret (pe_callB (cr_all rfl) (by rfl) T0.all (by decide +kernel) (pa_cons (pe_lc (own := [("number", 6)]) (g := gName 6) (tt := tYes) rfl scways_hold.nd (pi_list (pv 2)) (blkOk_by (own := [("number", 6)]) (N := Nways_hold) (sc := defScope sways_hold) (by decide +kernel)) (fun _ _ _ _ _ => pg_name (i := 6) scways_hold.nd rfl (Or.inl rfl)) (fun _ _ _ _ _ => pts_nil) (fun _ _ _ _ _ => (pe_and (pe_cmpR op_ge (pv 6) pe_int (nomark _)) (pe_one (pe_cmpR op_eq (pe_op op_andM (pv 6) pe_int) pe_int (nomark _)))))) pa_nil))))))), ?_⟩
    refine ⟨_, rfl, a, _, 1, .ref aS, rfl, rfl, et, rfl, aS, _, rfl, .inr hS, ?_⟩
    rw [nl]
    refine ⟨_, rfl, _, rfl, by omega, by omega, fun D1 nD => ?_⟩
    rw [Int.toNat_natCast]
    refine lc_mk (walk_range (lo := 0)) (fun i => V.bl (decide (gI (gR p.c.W i) i ≠ 0))) (small (show p.c.n ≤ 16 from n16) (by decide)) nD (fun _ _ => trivial) (fun i x H2 H2' N hi s2 yy fin => ?_) fun H2 s2 eD => ?_
    · obtain ⟨rfl, ex⟩ := yy
      have ex := xiJ ex
      subst ex
      obtain ⟨eX, lX⟩ := tab_at f.w hi
      obtain ⟨b, eb, hb⟩ := TT.get (a := aW) lW gW eX
      refine ⟨rfl, _, rfl, a, _, 2, .ref aW, rfl, rfl, sqt_same s2 et, rfl, _, rfl, aW, _, _, _, rfl, rfl, sqt_same s2 hW, atI_nat eb, _, rfl, b, _, _, _, rfl, rfl, sqt_same s2 hb, atI_nat (li_at (by rw [lX]; exact hi)), ?_⟩
      have fin := fin _ (Same.refl _)
      rw [← neV] at fin
      exact ⟨rfl, fin⟩
    · have e3 : (List.range p.c.n).map (fun i => V.bl (decide (gI (gR p.c.W i) i ≠ 0))) = ((List.range p.c.n).map fun i => decide (gI (gR p.c.W i) i ≠ 0)).map V.bl := by rw [List.map_map]; rfl
      rw [e3] at eD
      refine ⟨D1, _, rfl, SqL.of eD, _, rfl, ?_⟩
      refine ite2 (fun e => ?_) (fun e => ?_)
      · refine q _ _ s2 ⟨(fun z => by cases z), (fun z => ?_)⟩
        exfalso
        rw [List.any_map, List.any_eq_true] at e
        obtain ⟨i, mi, di⟩ := e
        exact of_decide_eq_true di (z.1 i (List.mem_range.mp mi))
      · have self : ∀ i, i < p.c.n → gI (gR p.c.W i) i = 0 := fun i hi => by
          by_cases z : gI (gR p.c.W i) i = 0
          · exact z
          · exact absurd (List.any_eq_true.mpr ⟨decide (gI (gR p.c.W i) i ≠ 0), List.mem_map.mpr ⟨i, List.mem_range.mpr hi, rfl⟩, decide_eq_true z⟩) e
        refine ⟨_, rfl, _, rfl, by omega, by omega, fun D2 nD2 => ?_⟩
        rw [Int.toNat_natCast]
        refine lc2_out (walk_range (lo := 0)) (fun i => (twoL p.c i).map V.int) rfl nD2 (fun _ _ => trivial) (fun x v H3 H3' hx s3 e4 yy => ?_) fun H3 s3 e4 => ?_
        · obtain ⟨rfl, ex⟩ := yy
          have ex := xiJ ex
          subst ex
          refine ⟨rfl, _, rfl, _, rfl, by omega, by omega, ?_⟩
          rw [Int.toNat_natCast]
          refine lc2_in (walk_range (lo := 0)) (fun y => V.int (tg p.c x y)) (a0 := (twoL p.c x).map V.int) ?_ e4 (fun _ _ => trivial) (fun y u H5 H5' N hy s5 yy fin => ?_) fun H5 s5 e5 => ?_
          · rw [List.length_map, twoL_len]
            have : x * p.c.n ≤ 16 * 16 := Nat.mul_le_mul (by omega) n16
            exact small (show x * p.c.n + p.c.n ≤ 300 by omega) (by decide)
          · obtain ⟨rfl, ey⟩ := yy
            have ey := xiJ ey
            subst ey
            have s6 : Same H2 H5' := fun b o e => s5 b o (fun z => by rw [z, nD2] at e; cases e) (s3 b o e)
            refine ⟨rfl, _, rfl, _, rfl, _, rfl, a, p, x, y, rfl, D.same (s2.trans s6), f, hx, hy, fin _ (Same.refl _)⟩
          · refine ⟨fun b o e => s5 b o (fun z => by rw [z, nD2] at e; cases e) (s3 b o e), ?_⟩
            rw [e5, twoL_succ, List.map_append, List.map_map]
            rfl
        · refine ⟨_, rfl, D2, rfl, ⟨_, SqL.of e4⟩, fun D3 nD3 => ?_⟩
          refine lc_mk (walk_list (K := K) (a := D2) (xs := (twoL p.c p.c.n).map V.int)) (fun i => V.bl (decide (0 ≤ gI (twoL p.c p.c.n) i) && decide (gI (twoL p.c p.c.n) i % 2 = 0))) ?_ nD3 (fun H s => SqL.of (s _ _ e4)) (fun i x H5 H5' N hi s5 yy fin => ?_) fun H5 s5 e5 => ?_
          · rw [List.length_map, twoL_len]
            have : p.c.n * p.c.n ≤ 16 * 16 := Nat.mul_le_mul n16 n16
            exact small (show p.c.n * p.c.n ≤ 300 by omega) (by decide)
          · obtain ⟨rfl, ex⟩ := yy
            rw [List.length_map] at hi
            rw [li_at hi] at ex
            cases ex
            have fin := fin _ (Same.refl _)
            refine ⟨rfl, _, rfl, _, _, rfl, rfl, _, rfl, ?_⟩
            by_cases z : 0 ≤ gI (twoL p.c p.c.n) i
            · rw [decide_eq_true z, Bool.true_and] at fin
              refine iteT' (decide_eq_true z) ?_
              refine ⟨_, rfl, _, 1, rfl, rfl, rfl, ?_⟩
              rw [show (2 : Int) ^ 1 = 2 from rfl, eqV0]
              exact fin
            · rw [decide_eq_false z, Bool.false_and] at fin
              refine iteF' (decide_eq_false z) fin
          · have e3 : (List.range ((twoL p.c p.c.n).map V.int).length).map (fun i => V.bl (decide (0 ≤ gI (twoL p.c p.c.n) i) && decide (gI (twoL p.c p.c.n) i % 2 = 0))) = ((List.range (twoL p.c p.c.n).length).map fun i => decide (0 ≤ gI (twoL p.c p.c.n) i) && decide (gI (twoL p.c p.c.n) i % 2 = 0)).map V.bl := by rw [List.map_map, List.length_map]; rfl
            rw [e3] at e5
            refine ⟨D3, _, rfl, SqL.of e5, ?_⟩
            refine q _ _ ((s2.trans s3).trans s5) ?_
            rw [List.all_map, List.all_eq_true]
            constructor
            · intro h
              refine ⟨self, fun x y hx hy => ?_⟩
              obtain ⟨i, ei⟩ := List.mem_iff_getElem?.mp (mem_twoL.mpr ⟨x, y, hx, hy, rfl⟩)
              have := h i (List.mem_range.mpr (List.getElem?_eq_some_iff.mp ei).1)
              have this : (decide (0 ≤ gI (twoL p.c p.c.n) i) && decide (gI (twoL p.c p.c.n) i % 2 = 0)) = true := this
              rw [gI_at ei, Bool.and_eq_true, decide_eq_true_iff, decide_eq_true_iff] at this
              exact this
            · intro h i hi
              have hi := List.mem_range.mp hi
              obtain ⟨x, y, hx, hy, e⟩ := mem_twoL.mp (List.mem_of_getElem? (at_gI hi))
              have := h.2 x y hx hy
              show (decide (0 ≤ gI (twoL p.c p.c.n) i) && decide (gI (twoL p.c p.c.n) i % 2 = 0)) = true
              rw [e, decide_eq_true this.1, decide_eq_true this.2]
              rfl
end
end K1
namespace K1
open PySem PySem.Spec PyProof.Rows L2 Ow Po Z3
theorem takeRevJ {α : Type} {T : List α} {i : Nat} {e : α} (h : T[i]? = some e) : (T.take (i + 1)).reverse = e :: (T.take i).reverse := by
  rw [List.take_add_one, h]
  simp
section
variable {P : Program} {w : World} {K : PySem.W.Frag} {mg : Str → Option Value} {base : Heap}
theorem ok_work {f : Addr} {fd : FuncData} (F : Fun K "work_holds" "work_holds" swork_holds f fd) (T0 : Bl mg) (Dnone_greater : Kn P w K mg base 1 "none_greater" ["numbers", "bounds"] (spNone K)) :
    FnOk P w K mg base CX0 2 f fd ["paper"] (spWork K) := by
  refine F.ok scwork_holds (fun vs H Q E h => ?_) (fun cdv A outer s H vs Q E hr h => ?_)
  · obtain ⟨a, p, rfl, _⟩ := h
    rfl
  · obtain ⟨a, p, rfl, D, f, q⟩ := h
    obtain ⟨vS, vW, vT, vK, vR, et, ⟨aS, rfl, hS⟩, ⟨aW, ws, rfl, hW, lW, gW⟩, ⟨aT, ts, rfl, hT, lT, gT⟩, ⟨aK, ks, rfl, hK, lK, gK⟩, _⟩ := D.ex
    have n16 := f.n16
    refine ⟨_, (pss_cons (ps_asg (pv 0) (pg_tup rfl (pgs_cons (pg_name (i := 1) scwork_holds.nd rfl (.inl rfl)) (pgs_cons (pg_name (i := 2) scwork_holds.nd rfl (.inl rfl)) (pgs_cons (pg_name (i := 3) scwork_holds.nd rfl (.inl rfl)) (pgs_cons (pg_name (i := 4) scwork_holds.nd rfl (.inl rfl)) (pgs_cons (pg_name (i := 5) scwork_holds.nd rfl (.inl rfl)) (pgs_cons (pg_name (i := 2) scwork_holds.nd rfl (.inl rfl)) (pgs_cons (pg_name (i := 2) scwork_holds.nd rfl (.inl rfl)) pgs_nil)))))))))
      (pss_cons (ps_if (pt_not (pt_val (pe_kn Dnone_greater hr (pa_cons (pe_ix ix_tup (pv 5) pe_int (fun _ _ => rfl)) (pa_cons (pe_ix ix_tup (pv 3) (pv 1) (fun _ _ => rfl)) pa_nil))))) (pss_one (ps_ret pe_bl)) pss_nil)
      (pss_cons (ps_for PassesOwn.never rfl (Zg.pi_enumG (K := K) rfl (by rfl) T0.enumerate (pa_cons (pv 4) pa_nil)) (pg_tup rfl (pgs_cons (pg_name (i := 6) scwork_holds.nd rfl (.inl rfl)) (pgs_cons (pg_name (i := 7) scwork_holds.nd rfl (.inl rfl)) pgs_nil))) (pss_one (ps_for PassesOwn.never rfl (Zg.pi_enumG (K := K) rfl (by rfl) T0.enumerate (pa_cons (pe_ix ix_tup (pv 5) (pv 6) (fun _ _ => rfl)) pa_nil)) (pg_tup rfl (pgs_cons (pg_name (i := 8) scwork_holds.nd rfl (.inl rfl)) (pgs_cons (pg_name (i := 9) scwork_holds.nd rfl (.inl rfl)) pgs_nil))) (pss_cons (ps_set (i := 10) scwork_holds.nd rfl (.inr rfl) (pe_op op_add (pv 9) (pe_op op_mul pe_int (pe_ix ix_tup (pv 7) (pv 8) (fun _ _ => rfl)))))
      (pss_one (ps_if (pt_not (pt_val (pe_kn Dnone_greater hr (pa_cons (pe_ix ix_tup (pv 5) (pe_op op_add (pv 6) pe_int) (fun _ _ => rfl)) (pa_cons (pe_lc (own := [("number", 11)]) (g := gName 11) (tt := tYes) rfl scwork_holds.nd (pi_tup (pe_ix ix_tup (pv 3) (pv 8) (fun _ _ => rfl))) (blkOk_by (own := [("number", 11)]) (N := Nwork_holds) (sc := defScope swork_holds) (by decide +kernel)) (fun _ _ _ _ _ => pg_name (i := 11) scwork_holds.nd rfl (Or.inl rfl)) (fun _ _ _ _ _ => pts_nil) (fun _ _ _ _ _ => (pe_op op_add (pv 10) (pv 11)))) pa_nil))))) (pss_one (ps_ret pe_bl)) pss_nil))))))
      (pss_one (ps_ret pe_bl))))), ?_⟩
    refine ⟨_, rfl, a, _, rfl, et, rfl, _, _, rfl, _, _, rfl, _, _, rfl, _, _, rfl, _, _, rfl, _, _, rfl, _, _, rfl, rfl, ?_⟩
    obtain ⟨eK0, lK0⟩ := tab_at f.k (show 0 < p.T.length + 1 by omega)
    obtain ⟨b0, eb0, hb0⟩ := TT.get (a := aK) lK gK eK0
    obtain ⟨eW0, lW0⟩ := tab_at f.w f.st
    obtain ⟨c0, ec0, hc0⟩ := TT.get (a := aW) lW gW eW0
    refine ⟨_, rfl, aK, _, 0, .ref b0, rfl, rfl, hK, by exact atI_nat (j := 0) eb0, _, rfl, _, rfl, aW, _, _, _, rfl, rfl, hW, atI_nat ec0, true, true, b0, c0, _, _, rfl, hb0, hc0, by rw [lK0, lW0], by rw [lK0]; omega, fun H1 r0 s1 i0 => ?_⟩
    refine ⟨_, rfl, ?_⟩
    refine ite2 (fun e => ?_) (fun e => ?_)
    · refine q _ _ s1 ⟨(fun z => by cases z), fun z => ?_⟩
      have : r0 = true := i0.mpr fun i hi => z.1 i (by rw [← lK0]; exact hi)
      rw [this] at e
      cases e
    have k0 : ∀ y, y < p.c.n → gI (gR p.Kw 0) y ≤ gI (gR p.c.W p.c.start) y := fun y hy => by
      have : r0 = true := by
        cases r0
        · exact absurd rfl e
        · rfl
      exact i0.mp this y (by rw [lK0]; exact hy)
    have hKl : ks.length = p.T.length + 1 := by rw [lK, f.k.l]
    refine ⟨_, rfl, true, aT, ts, rfl, sqt_same s1 hT, for_it (Zg.walkE (K := K) (t := true) (a := aT) (xs := ts)) (fun t σ H' => ∃ v6 v7 v8 v9 v10, σ = [some (.ref a), some (.int (p.c.start : Nat)), some (.int p.spent), some (.ref aW), some (.ref aT), some (.ref aK), v6, v7, v8, v9, v10, none] ∧ Same H H' ∧
      ∀ t', t' < t → ∀ x, x < p.c.n → ∀ y, y < p.c.n → gI (gR p.Kw (t' + 1)) y ≤ gI (gR p.Kw t') x + 2 * gI (gR p.T t') x + gI (gR p.c.W x) y)
      ⟨none, none, none, none, none, rfl, s1, fun t' h => absurd h (Nat.not_lt_zero _)⟩ (fun _ _ _ _ ⟨_, _, _, _, _, _, s, _⟩ => sqt_same s hT) ?_ ?_⟩
    · rintro t x σ H2 H2' ht ⟨v6, v7, v8, v9, v10, rfl, s2, hw⟩ ⟨T0', x1, y1, rfl, nT, rfl, h1, h2⟩
      have ht' : t < p.T.length := by rw [← lT]; exact ht
      obtain ⟨eT, lTt⟩ := tab_at f.t ht'
      obtain ⟨bT, ebT, hbT⟩ := TT.get (a := aT) lT gT eT
      dsimp only at h1 h2
      cases h1
      rw [ebT] at h2
      cases h2
      have s3 : Same H (upd H2 T0' (.tup [.int (t : Nat), .ref bT])) := Same.over s2 (Same.free s2 nT)
      refine ⟨_, _, rfl, SqT.of upd_same, rfl, _, _, rfl, _, _, rfl, rfl, ?_⟩
      generalize (upd H2 T0' (.tup [.int (t : Nat), .ref bT])) = H3 at s3
      obtain ⟨eKt, lKt⟩ := tab_at f.k (show t < p.T.length + 1 by omega)
      obtain ⟨bK, ebK, hbK⟩ := TT.get (a := aK) lK gK eKt
      obtain ⟨eKs, lKs⟩ := tab_at f.k (show t + 1 < p.T.length + 1 by omega)
      obtain ⟨bN, ebN, hbN⟩ := TT.get (a := aK) lK gK eKs
      have lb : ((gR p.Kw t).map V.int).length = p.c.n := by rw [List.length_map, lKt]
      refine ⟨_, rfl, _, rfl, aK, _, _, _, rfl, rfl, sqt_same s3 hK, atI_nat ebK, true, bK, _, rfl, sqt_same s3 hbK, for_it (Zg.walkE (K := K) (t := true) (a := bK) (xs := (gR p.Kw t).map V.int)) (fun x σ H' => ∃ v8 v9 v10, σ = [some (.ref a), some (.int (p.c.start : Nat)), some (.int p.spent), some (.ref aW), some (.ref aT), some (.ref aK), some (.int (t : Nat)), some (.ref bT), v8, v9, v10, none] ∧ Same H H' ∧
        ∀ x', x' < x → ∀ y, y < p.c.n → gI (gR p.Kw (t + 1)) y ≤ gI (gR p.Kw t) x' + 2 * gI (gR p.T t) x' + gI (gR p.c.W x') y)
        ⟨_, _, _, rfl, s3, fun t' h => absurd h (Nat.not_lt_zero _)⟩ (fun _ _ _ _ ⟨_, _, _, _, s, _⟩ => sqt_same s hbK) ?_ ?_⟩
      · rintro x u σ H4 H4' hx ⟨v8, v9, v10, rfl, s4, hv⟩ ⟨U, x1, y1, rfl, nU, rfl, h1, h2⟩
        have hx' : x < p.c.n := by rw [← lb]; exact hx
        dsimp only at h1 h2
        cases h1
        rw [li_at (by rw [lKt]; exact hx')] at h2
        cases h2
        have s5 : Same H (upd H4 U (.tup [.int (x : Nat), .int (gI (gR p.Kw t) x)])) := Same.over s4 (Same.free s4 nU)
        refine ⟨_, _, rfl, SqT.of upd_same, rfl, _, _, rfl, _, _, rfl, rfl, ?_⟩
        generalize (upd H4 U (.tup [.int (x : Nat), .int (gI (gR p.Kw t) x)])) = H5 at s5
        obtain ⟨eWx, lWx⟩ := tab_at f.w hx'
        obtain ⟨bW, ebW, hbW⟩ := TT.get (a := aW) lW gW eWx
        refine ⟨_, rfl, _, rfl, _, rfl, bT, _, _, _, rfl, rfl, sqt_same s5 hbT, atI_nat (li_at (by rw [lTt]; exact hx')), _, _, rfl, rfl, .inl ⟨by decide, by decide⟩, _, _, rfl, rfl, ?_⟩
        refine ⟨_, rfl, _, rfl, _, _, rfl, rfl, aK, _, _, _, rfl, rfl, sqt_same s5 hK, by exact atI_nat (j := t + 1) ebN, _, rfl, _, rfl, aW, _, _, _, rfl, rfl, sqt_same s5 hW, atI_nat ebW, bW, rfl, ⟨_, sqt_same s5 hbW⟩, fun D nD => ?_⟩
        refine lc_mk (walk_tup (K := K) (a := bW) (xs := (gR p.c.W x).map V.int)) (fun y => V.int (gI (gR p.Kw t) x + 2 * gI (gR p.T t) x + gI (gR p.c.W x) y)) (by rw [List.length_map, lWx]; exact small n16 (by decide)) nD (fun H s => sqt_same s (sqt_same s5 hbW)) (fun y u H6 H6' N hy s6 yy fin => ?_) fun H6 s6 eD => ?_
        · obtain ⟨rfl, ex⟩ := yy
          rw [List.length_map] at hy
          rw [li_at hy] at ex
          cases ex
          exact ⟨rfl, _, rfl, _, rfl, _, _, rfl, rfl, fin _ (Same.refl _)⟩
        · have e3 : (List.range ((gR p.c.W x).map V.int).length).map (fun y => V.int (gI (gR p.Kw t) x + 2 * gI (gR p.T t) x + gI (gR p.c.W x) y)) = (mk p.c.n fun y => gI (gR p.Kw t) x + 2 * gI (gR p.T t) x + gI (gR p.c.W x) y).map V.int := by
            unfold mk
            rw [List.map_map, List.length_map, lWx]
            rfl
          rw [e3] at eD
          refine ⟨true, false, bN, D, _, _, rfl, sqt_same s6 (sqt_same s5 hbN), SqL.of eD, by rw [lKs, mk_len], by rw [lKs]; omega, fun H7 r7 s7 i7 => ?_⟩
          have sA := s5.trans (s6.trans s7)
          refine ⟨_, rfl, ?_⟩
          have i7' : r7 = true ↔ ∀ y, y < p.c.n → gI (gR p.Kw (t + 1)) y ≤ gI (gR p.Kw t) x + 2 * gI (gR p.T t) x + gI (gR p.c.W x) y := by
            rw [i7, lKs]
            constructor
            · intro h y hy
              have := h y hy
              rw [gI_mk hy] at this
              exact this
            · intro h y hy
              rw [gI_mk hy]
              exact h y hy
          refine ite2 (fun e => ?_) (fun e => ?_)
          · refine q _ _ sA ⟨(fun z => by cases z), fun z => ?_⟩
            have : r7 = true := i7'.mpr fun y hy => z.2 t ht' x hx' y hy
            rw [this] at e
            cases e
          · have r7t : r7 = true := by
              cases r7
              · exact absurd rfl e
              · rfl
            refine ⟨_, _, _, rfl, sA, fun x' h y hy => ?_⟩
            rcases Nat.lt_or_eq_of_le (Nat.le_of_lt_succ h) with z | z
            · exact hv x' z y hy
            · rw [z]
              exact i7'.mp r7t y hy
      · rintro σ H4 ⟨v8, v9, v10, rfl, s4, hv⟩
        rw [lb] at hv
        refine ⟨_, _, _, _, _, rfl, s4, fun t' h x hx y hy => ?_⟩
        rcases Nat.lt_or_eq_of_le (Nat.le_of_lt_succ h) with z | z
        · exact hw t' z x hx y hy
        · rw [z]
          exact hv x hx y hy
    · rintro σ H2 ⟨v6, v7, v8, v9, v10, rfl, s2, hw⟩
      rw [lT] at hw
      exact q _ _ s2 ⟨fun _ => ⟨k0, hw⟩, fun _ => rfl⟩
theorem ok_tspent {f : Addr} {fd : FuncData} (F : Fun K "twice_spent" "twice_spent" stwice_spent f fd) (T0 : Bl mg) (Dtwice_going : Kn P w K mg base 1 "twice_going" ["paper", "first", "second"] (spTwice K)) :
    FnOk P w K mg base CX0 2 f fd ["paper"] (spTSpent K) := by
  refine F.ok sctwice_spent (fun vs H Q E h => ?_) (fun cdv A outer s H vs Q E hr h => ?_)
  · obtain ⟨a, p, rfl, _⟩ := h
    rfl
  · obtain ⟨a, p, rfl, D, f, g, q⟩ := h
    obtain ⟨vS, vW, vT, vK, vR, et, ⟨aS, rfl, hS⟩, ⟨aW, ws, rfl, hW, lW, gW⟩, ⟨aT, ts, rfl, hT, lT, gT⟩, ⟨aK, ks, rfl, hK, lK, gK⟩, ⟨aR, rfl, hR⟩⟩ := D.ex
    refine ⟨_, (pss_cons (ps_asg (pv 0) (pg_tup rfl (pgs_cons (pg_name (i := 1) sctwice_spent.nd rfl (.inl rfl)) (pgs_cons (pg_name (i := 2) sctwice_spent.nd rfl (.inl rfl)) (pgs_cons (pg_name (i := 2) sctwice_spent.nd rfl (.inl rfl)) (pgs_cons (pg_name (i := 3) sctwice_spent.nd rfl (.inl rfl)) (pgs_cons (pg_name (i := 2) sctwice_spent.nd rfl (.inl rfl)) (pgs_cons (pg_name (i := 4) sctwice_spent.nd rfl (.inl rfl)) (pgs_cons (pg_name (i := 2) sctwice_spent.nd rfl (.inl rfl)) pgs_nil)))))))))
      (pss_cons (ps_set (i := 5) sctwice_spent.nd rfl (.inl rfl) pe_int)
      (pss_cons (ps_for PassesOwn.never rfl (Zg.pi_zipG (K := K) rfl (by rfl) T0.zip (pa_cons (pv 3) (pa_cons (pv 4) pa_nil))) (pg_tup rfl (pgs_cons (pg_name (i := 6) sctwice_spent.nd rfl (.inl rfl)) (pgs_cons (pg_name (i := 7) sctwice_spent.nd rfl (.inl rfl)) pgs_nil))) (pss_cons (ps_aug (i := 5) sctwice_spent.nd rfl (.inl rfl) (pe_op op_add (pe_kn Dtwice_going hr (pa_cons (pv 0) (pa_cons (pv 1) (pa_cons (pv 7) pa_nil)))) (pe_op op_mul pe_int (pe_ix ix_tup (pv 6) (pv 7) (fun _ _ => rfl)))) ip_add)
      (pss_one (ps_set (i := 1) sctwice_spent.nd rfl (.inl rfl) (pv 7)))))
      (pss_one (ps_ret (pv 5)))))), ?_⟩
    refine ⟨_, rfl, a, _, rfl, et, rfl, _, _, rfl, _, _, rfl, _, _, rfl, _, _, rfl, _, _, rfl, _, _, rfl, _, _, rfl, rfl, ?_⟩
    have hn : p.T.length = min ts.length ((toI p.row).map V.int).length := by
      unfold toI
      rw [List.length_map, List.length_map, f.rl, lT, Nat.min_self]
    refine ⟨_, rfl, _, rfl, true, true, aT, aR, _, _, rfl, hT, hR, for_it (Zg.walkG (K := K) hn) (fun t σ H' => ∃ v6 v7, σ = [some (.ref a), some (.int (((p.row.take t).reverse.headD p.c.start : Nat) : Int)), some (.int p.spent), some (.ref aT), some (.ref aR), some (.int (2 * spR p.c (p.T.take t).reverse (p.row.take t).reverse)), v6, v7] ∧ Same H H')
      ⟨none, none, rfl, Same.refl _⟩ (fun _ _ _ _ ⟨_, _, _, s⟩ => ⟨sqt_same s hT, sqt_same s hR⟩) ?_ ?_⟩
    · rintro t x σ H2 H2' ht ⟨v6, v7, rfl, s2⟩ ⟨U, x1, y1, rfl, nT, rfl, h1, h2⟩
      obtain ⟨eT, lTt⟩ := tab_at f.t ht
      obtain ⟨bT, ebT, hbT⟩ := TT.get (a := aT) lT gT eT
      have hr' : t < p.row.length := by rw [f.rl]; exact ht
      have eR : p.row[t]? = some p.row[t] := List.getElem?_eq_getElem hr'
      have eR' : ((toI p.row).map V.int)[t]? = some (V.int (p.row[t] : Nat)) := by
        unfold toI
        rw [List.getElem?_map, List.getElem?_map, eR]
        rfl
      have hq := f.rn _ (List.getElem_mem hr')
      dsimp only at h1 h2
      rw [ebT] at h1
      rw [eR'] at h2
      cases h1
      cases h2
      have s3 : Same H (upd H2 U (.tup [.ref bT, .int ((p.row[t] : Nat) : Int)])) := Same.over s2 (Same.free s2 nT)
      refine ⟨_, _, rfl, SqT.of upd_same, rfl, _, _, rfl, _, _, rfl, rfl, ?_⟩
      have hp : (p.row.take t).reverse.headD p.c.start < p.c.n := by
        cases z : (p.row.take t).reverse with
        | nil => exact g.st
        | cons u r =>
          have : u ∈ p.row.take t := List.mem_reverse.mp (by rw [z]; exact List.mem_cons_self)
          exact f.rn u (List.mem_of_mem_take this)
      refine ⟨_, rfl, _, rfl, _, rfl, _, rfl, a, p, _, _, rfl, D.same s3, f, hp, hq, ?_⟩
      refine ⟨_, rfl, _, rfl, bT, _, _, _, rfl, rfl, sqt_same s3 hbT, atI_nat (li_at (by rw [lTt]; exact hq)), _, _, rfl, rfl, .inl ⟨by decide, by decide⟩, _, _, rfl, rfl, ?_⟩
      have eN : 2 * spR p.c (p.T.take t).reverse (p.row.take t).reverse + (tg p.c ((p.row.take t).reverse.headD p.c.start) p.row[t] + 2 * gI (gR p.T t) p.row[t]) = 2 * spR p.c (p.T.take (t + 1)).reverse (p.row.take (t + 1)).reverse := by
        rw [takeRevJ eT, takeRevJ eR]
        show _ = 2 * (spR p.c (p.T.take t).reverse (p.row.take t).reverse + goF p.c ((p.row.take t).reverse.headD p.c.start) p.row[t] + gI (gR p.T t) p.row[t])
        have := go2 g hp hq
        unfold tg
        omega
      have eH : (p.row.take (t + 1)).reverse.headD p.c.start = p.row[t] := by rw [takeRevJ eR]; rfl
      refine ⟨_, _, rfl, rfl, ?_⟩
      refine ⟨_, rfl, some (.ref bT), some (.int (p.row[t] : Nat)), ?_, s3⟩
      rw [eH, ← eN]
      rfl
    · rintro σ H2 ⟨v6, v7, rfl, s2⟩
      rw [List.take_length, List.take_of_length_le (by rw [f.rl]; exact Nat.le_refl _)]
      exact ⟨_, rfl, q _ s2⟩
theorem ok_plan {f : Addr} {fd : FuncData} (F : Fun K "plan_holds" "plan_holds" splan_holds f fd) (T0 : Bl mg) (Dtwice_spent : Kn P w K mg base 2 "twice_spent" ["paper"] (spTSpent K)) :
    FnOk P w K mg base CX0 3 f fd ["paper"] (spPlan K) := by
  refine F.ok scplan_holds (fun vs H Q E h => ?_) (fun cdv A outer s H vs Q E hr h => ?_)
  · obtain ⟨a, p, rfl, _⟩ := h
    rfl
  · obtain ⟨a, p, rfl, D, f, g, q⟩ := h
    obtain ⟨vS, vW, vT, vK, vR, et, ⟨aS, rfl, hS⟩, _, _, ⟨aK, ks, rfl, hK, lK, gK⟩, _⟩ := D.ex
    have n16 := f.n16
    refine ⟨_, (pss_cons (ps_asg (pv 0) (pg_tup rfl (pgs_cons (pg_name (i := 1) scplan_holds.nd rfl (.inl rfl)) (pgs_cons (pg_name (i := 2) scplan_holds.nd rfl (.inl rfl)) (pgs_cons (pg_name (i := 3) scplan_holds.nd rfl (.inl rfl)) (pgs_cons (pg_name (i := 3) scplan_holds.nd rfl (.inl rfl)) (pgs_cons (pg_name (i := 4) scplan_holds.nd rfl (.inl rfl)) (pgs_cons (pg_name (i := 3) scplan_holds.nd rfl (.inl rfl)) (pgs_cons (pg_name (i := 5) scplan_holds.nd rfl (.inl rfl)) pgs_nil)))))))))
      (pss_cons (ps_if (pt_cmpR op_ne (pe_kn Dtwice_spent hr (pa_cons (pv 0) pa_nil)) (pe_op op_mul pe_int (pv 5)) (nomark _)) (pss_one (ps_ret pe_bl)) pss_nil)
      (pss_cons (ps_setLc (i := 6) (own := [("number", 7), ("standing", 8)]) (g := gTup K 2 (gCons (gName 7) (gCons (gName 8) gNil))) (tt := tYes) rfl scplan_holds.nd rfl rfl (sw_true rfl rfl rfl (by decide +kernel)) (Zg.pi_zipG (K := K) rfl (by rfl) T0.zip (pa_cons (pe_ix ix_tup (pv 4) (pe_un un_neg pe_int) (fun _ _ => rfl)) (pa_cons (pv 2) pa_nil))) (blkOk_by (own := [("number", 7), ("standing", 8)]) (N := Nplan_holds) (sc := defScope splan_holds) (by decide +kernel)) (fun _ _ _ _ _ => pg_tup rfl (pgs_cons (pg_name (i := 7) scplan_holds.nd rfl (Or.inl rfl)) (pgs_cons (pg_name (i := 8) scplan_holds.nd rfl (Or.inl rfl)) pgs_nil))) (fun _ _ _ _ _ => pts_nil) (fun _ _ _ _ _ => (pe_op op_add (pv 7) (pv 8))))
      (pss_one (ps_ret (pe_cmpR op_le (pe_op op_add (pe_op op_mul pe_int (pv 5)) (pe_ix ix_tup (pv 2) (pv 1) (fun _ _ => rfl))) (pe_callB (call_min_K rfl rfl) (by rfl) T0.min (by decide +kernel) (pa_cons (pv 6) pa_nil)) (nomark _))))))), ?_⟩
    refine ⟨_, rfl, a, _, rfl, et, rfl, _, _, rfl, _, _, rfl, _, _, rfl, _, _, rfl, _, _, rfl, _, _, rfl, _, _, rfl, rfl, ?_⟩
    refine ⟨_, rfl, a, p, rfl, D, f, g, fun H1 s1 => ?_⟩
    refine ⟨_, rfl, _, _, rfl, rfl, .inl ⟨by decide, by decide⟩, rfl, _, rfl, ?_⟩
    rw [neV]
    refine ite2 (fun e => ?_) (fun e => ?_)
    · refine q _ _ s1 ⟨(fun z => by cases z), fun z => ?_⟩
      exact absurd (congrArg (2 * ·) z.1) (of_decide_eq_true e)
    have e0 : spR p.c p.T.reverse p.row.reverse = p.spent := by
      by_cases z : 2 * spR p.c p.T.reverse p.row.reverse = 2 * p.spent
      · omega
      · exact absurd (decide_eq_true z) e
    obtain ⟨eKt, lKt⟩ := tab_at f.k (show p.T.length < p.T.length + 1 by omega)
    obtain ⟨bK, ebK, hbK⟩ := TT.get (a := aK) lK gK eKt
    have hKl : ks.length = p.T.length + 1 := by rw [lK, f.k.l]
    have hn : p.c.n = min ((gR p.Kw p.T.length).map V.int).length (p.c.S.map V.int).length := by rw [List.length_map, List.length_map, lKt, f.sl, Nat.min_self]
    refine ⟨_, rfl, _, rfl, aK, _, _, _, rfl, rfl, sqt_same s1 hK, atI_last hKl ebK, _, rfl, true, true, bK, aS, _, _, rfl, sqt_same s1 hbK, sqt_same s1 hS, fun D1 nD => ?_⟩
    refine lc_mk (Zg.walkG (K := K) hn) (fun i => V.int (gI (gR p.Kw p.T.length) i + gI p.c.S i)) (small n16 (by decide)) nD (fun H s => ⟨sqt_same s (sqt_same s1 hbK), sqt_same s (sqt_same s1 hS)⟩) (fun i x H2 H2' N hi s2 yy fin => ?_) fun H2 s2 eD => ?_
    · obtain ⟨T, x1, y1, rfl, nt, rfl, h1, h2⟩ := yy
      dsimp only at h1 h2
      rw [li_at (by rw [lKt]; exact hi)] at h1
      rw [li_at (by rw [f.sl]; exact hi)] at h2
      cases h1
      cases h2
      refine ⟨_, _, rfl, SqT.of upd_same, rfl, _, _, rfl, _, _, rfl, rfl, ?_⟩
      exact ⟨rfl, _, rfl, _, rfl, _, _, rfl, rfl, fin _ (Same.new nt)⟩
    · have eE : LI H2 D1 (mk p.c.n fun i => gI (gR p.Kw p.T.length) i + gI p.c.S i) := by
        show H2 D1 = _
        rw [eD]
        unfold mk
        rw [List.map_map]
        rfl
      have s12 := s1.trans s2
      refine ⟨_, rfl, _, _, rfl, rfl, .inl ⟨by decide, by decide⟩, _, rfl, _, rfl, aS, _, _, _, rfl, rfl, sqt_same s12 hS, atI_nat (li_at (by rw [f.sl]; exact f.st)), _, _, rfl, rfl, ?_⟩
      refine ⟨_, rfl, D1, _, rfl, eE.seq, by rw [mk_len]; exact f.n1, fun m hm hle => ?_⟩
      refine ⟨_, _, rfl, rfl, q _ _ s12 ?_⟩
      rw [decide_eq_true_iff]
      constructor
      · intro h
        refine ⟨e0, fun y hy => ?_⟩
        have := hle _ (mem_mk.mpr ⟨y, hy, rfl⟩)
        omega
      · intro h
        obtain ⟨y, hy, e⟩ := mem_mk.mp hm
        have := h.2 y hy
        omega
def judgeF (d : PyData) (v : V) : Prop := (∃ p, d = papD p ∧ FormP p ∧ WaysP p.c ∧ WorkP p ∧ PlanP p ∧ v = .int p.spent) ∨ ((¬ ∃ p, d = papD p ∧ FormP p ∧ WaysP p.c ∧ WorkP p ∧ PlanP p) ∧ v = .non)
def spJudge (K : PySem.W.Frag) : Sp := fun vs H Q _ => ∃ (v : V) (d : PyData), vs = [v] ∧ Dp K H v d ∧ (∀ xs, d = .tuple xs → ∀ r ∈ xs, Shr r) ∧ ∀ H' r, Same H H' → judgeF d r → Q r H'
theorem iD_inj {xs ys : List Int} (h : iD xs = iD ys) : xs = ys := by
  have h : xs.map PyData.int = ys.map PyData.int := by
    unfold iD at h
    injection h
  have : ∀ {xs ys : List Int}, xs.map PyData.int = ys.map PyData.int → xs = ys := by
    intro xs
    induction xs with
    | nil => intro ys h; cases ys; rfl; cases h
    | cons x xs ih =>
      intro ys h
      cases ys with
      | nil => cases h
      | cons y ys =>
        rw [List.map_cons, List.map_cons] at h
        injection h with h1 h2
        injection h1 with h1
        rw [h1, ih h2]
  exact this h
theorem tD_inj {xs ys : List (List Int)} (h : tD xs = tD ys) : xs = ys := by
  have h : xs.map iD = ys.map iD := by
    unfold tD at h
    injection h
  have : ∀ {xs ys : List (List Int)}, xs.map iD = ys.map iD → xs = ys := by
    intro xs
    induction xs with
    | nil => intro ys h; cases ys; rfl; cases h
    | cons x xs ih =>
      intro ys h
      cases ys with
      | nil => cases h
      | cons y ys =>
        rw [List.map_cons, List.map_cons] at h
        injection h with h1 h2
        rw [iD_inj h1, ih h2]
  exact this h
theorem toI_inj {ps qs : List Nat} (h : toI ps = toI qs) : ps = qs := by
  unfold toI at h
  revert qs
  induction ps with
  | nil => intro qs h; cases qs; rfl; cases h
  | cons x xs ih =>
    intro ys h
    cases ys with
    | nil => cases h
    | cons y ys =>
      rw [List.map_cons, List.map_cons] at h
      injection h with h1 h2
      rw [Int.ofNat_inj.mp h1, ih h2]
theorem papD_inj {p q : Pap} (h : papD p = papD q) (f : FormP p) (f' : FormP q) : p = q := by
  obtain ⟨⟨n, S, W, st⟩, T, Kw, row, sp⟩ := p
  obtain ⟨⟨n', S', W', st'⟩, T', Kw', row', sp'⟩ := q
  have fs : S.length = n := f.sl
  have fs' : S'.length = n' := f'.sl
  unfold papD at h
  injection h with h
  injection h with h1 h
  injection h with h2 h
  injection h with h3 h
  injection h with h4 h
  injection h with h5 h
  injection h with h6 h
  injection h with h7 h
  injection h1 with h1
  injection h7 with h7
  have k1 : st = st' := Int.ofNat_inj.mp h1
  have k2 : S = S' := iD_inj h2
  have k3 : W = W' := tD_inj h3
  have k4 : T = T' := tD_inj h4
  have k5 : Kw = Kw' := tD_inj h5
  have k6 : row = row' := toI_inj (iD_inj h6)
  have k7 : sp = sp' := h7
  have k8 : n = n' := by rw [← fs, ← fs', k2]
  rw [k1, k2, k3, k4, k5, k6, k7, k8]
theorem ok_judge {f : Addr} {fd : FuncData} (F : Fun K "judge" "judge" sjudge f fd) (Dhas_form : Kn P w K mg base 4 "has_form" ["paper"] (spHasForm K)) (Dways_hold : Kn P w K mg base 2 "ways_hold" ["paper"] (spWays K))
    (Dwork_holds : Kn P w K mg base 2 "work_holds" ["paper"] (spWork K)) (Dplan_holds : Kn P w K mg base 3 "plan_holds" ["paper"] (spPlan K)) :
    FnOk P w K mg base CX0 5 f fd ["paper"] (spJudge K) := by
  refine F.ok scjudge (fun vs H Q E h => ?_) (fun cdv A outer s H vs Q E hr h => ?_)
  · obtain ⟨v, d, rfl, _⟩ := h
    rfl
  · obtain ⟨v, d, rfl, hd, sh, q⟩ := h
    refine ⟨_, (pss_cons (ps_if (pt_not (pt_val (pe_kn Dhas_form hr (pa_cons (pv 0) pa_nil)))) (pss_one (ps_ret pe_non)) pss_nil)
      (pss_cons (ps_if (PW.pt (pw_and (pt_val (pe_kn Dways_hold hr (pa_cons (pv 0) pa_nil))) (pw_and (pt_val (pe_kn Dwork_holds hr (pa_cons (pv 0) pa_nil))) (pw_and1 (pt_val (pe_kn Dplan_holds hr (pa_cons (pv 0) pa_nil))))))) (pss_one (ps_ret (pe_ix ix_tup (pv 0) (pe_un un_neg pe_int) (fun _ _ => rfl)))) pss_nil)
      (pss_one (ps_ret pe_non)))), ?_⟩
    refine ⟨_, rfl, v, d, rfl, hd, sh, fun H1 s1 => ?_⟩
    refine ⟨_, rfl, ?_⟩
    cases z : formD d with
    | false =>
      refine iteT ?_
      refine q _ _ s1 (.inr ⟨fun ⟨p, e, f, _⟩ => ?_, rfl⟩)
      rw [e, form_of f] at z
      cases z
    | true =>
      refine iteF ?_
      obtain ⟨p, rfl, fp⟩ := form_pap z
      obtain ⟨a, rfl, D⟩ := dp_pap hd
      have no : ∀ {H'}, Same H H' → ¬ (WaysP p.c ∧ WorkP p ∧ PlanP p) → Q .non H' := fun s h => q _ _ s (.inr ⟨fun ⟨p', e, f', h'⟩ => h (by rw [papD_inj e fp f']; exact h'), rfl⟩)
      refine ⟨_, rfl, a, p, rfl, D.same s1, fp, fun H2 b2 s2 i2 => ?_⟩
      have s12 := s1.trans s2
      refine ⟨_, rfl, ?_⟩
      refine ite2 (fun e2 => ?_) (fun e2 => ?_)
      · have hw := i2.mp e2
        refine ⟨_, rfl, a, p, rfl, D.same s12, fp, fun H3 b3 s3 i3 => ?_⟩
        have s13 := s12.trans s3
        refine ⟨_, rfl, ?_⟩
        refine ite2 (fun e3 => ?_) (fun e3 => ?_)
        · have hk := i3.mp e3
          refine ⟨_, rfl, a, p, rfl, D.same s13, fp, form_good fp hw, fun H4 b4 s4 i4 => ?_⟩
          have s14 := s13.trans s4
          refine ⟨_, rfl, ?_⟩
          obtain ⟨vS, vW, vT, vK, vR, et, _⟩ := D.ex
          refine ite2 (fun e4 => ?_) (fun e4 => ?_)
          · refine ⟨_, rfl, _, rfl, a, _, _, .int p.spent, rfl, rfl, sqt_same s14 et, rfl, ?_⟩
            exact q _ _ s14 (.inl ⟨p, rfl, fp, hw, hk, i4.mp e4, rfl⟩)
          · exact no s14 fun h => e4 (i4.mpr h.2.2)
        · exact iteF (no s13 fun h => e3 (i3.mpr h.2.1))
      · exact iteF (no s12 fun h => e2 (i2.mpr h.1))
end
end K1
namespace K1
open Po
theorem sum_le {c : Pr} {w w' e : List Int} (h : ∀ y, y < c.n → gI w y ≤ gI w' y) {y : Nat} (g : 0 < c.n) (hy : y < c.n) {v : List Int} (hv : ∀ x, x < c.n → ∀ y, y < c.n → gI v y ≤ gI w x + 2 * gI e x + gI (gR c.W x) y) : gI v y ≤ gI (stepW c w' e) y := by
  obtain ⟨x, hx, q⟩ := minmk_ex (f := sumF c w' e y) g
  unfold stepW sums
  rw [gI_mk hy, q]
  have := h x hx
  have := hv x hx y hy
  unfold sumF
  omega
theorem take_gR {T : List (List Int)} {t : Nat} (h : t < T.length) : T.take (t + 1) = T.take t ++ [gR T t] := by
  rw [List.take_add_one, at_gR h]
  rfl
/-- works that hold are at most the true ones -/
theorem work_le {p : Pap} (f : FormP p) (k : WorkP p) : ∀ t, t ≤ p.T.length → ∀ y, y < p.c.n → gI (gR p.Kw t) y ≤ gI (wk p.c (p.T.take t)) y
  | 0, _, y, hy => k.1 y hy
  | t + 1, h, y, hy => by
    have ih := work_le f k t (by omega)
    rw [take_gR (show t < p.T.length by omega), wk_snoc]
    exact sum_le ih f.n1 hy (k.2 t (by omega))
theorem plan_low {c : Pr} (g : Good c) (T : List (List Int)) (ps : List Nat) (l : ps.length = T.length) (h : ∀ q ∈ ps, q < c.n) : least c T ≤ spR c T.reverse ps.reverse := by
  obtain ⟨v, ev, lv⟩ := low g T.reverse ps.reverse (by rw [List.length_reverse, List.length_reverse, l]) fun q m => h q (List.mem_reverse.mp m)
  rw [List.reverse_reverse] at ev
  have hq : ps.reverse.headD c.start < c.n := by
    cases z : ps.reverse with
    | nil => exact g.st
    | cons q r => exact h q (List.mem_reverse.mp (by rw [z]; exact List.mem_cons_self))
  exact Int.le_trans (minL_le ((mem_ids (fw_len T)).mpr ⟨_, hq, ev⟩)) lv
/-- a judged paper tells the least -/
theorem judge_right {p : Pap} (f : FormP p) (hw : WaysP p.c) (k : WorkP p) (hp : PlanP p) : p.spent = least p.c p.T ∧ spR p.c p.T.reverse p.row.reverse = p.spent := by
  have g := form_good f hw
  refine ⟨?_, hp.1⟩
  have lo := plan_low g p.T p.row f.rl f.rn
  have e := ends_least g p.T
  obtain ⟨y, hy, q⟩ := minmk_ex (f := fun s => gI (wk p.c p.T) s + gI p.c.S s) g.pos
  have a := work_le f k p.T.length (Nat.le_refl _) y hy
  rw [List.take_length] at a
  have b := hp.2 y hy
  have e' : minL (ends p.c (wk p.c p.T)) = gI (wk p.c p.T) y + gI p.c.S y := q
  have := hp.1
  omega
/-- the paper of a policy -/
def papP (c : Pr) (T : List (List Int)) : Pap := ⟨c, T, worksL c T, plan c T, amt c T⟩
theorem amt_least {c : Pr} (g : Good c) (T : List (List Int)) : amt c T = least c T := by
  unfold amt
  have := ends_least g T
  omega
theorem plan_sp {c : Pr} (g : Good c) (T : List (List Int)) : spR c T.reverse (plan c T).reverse = least c T := by
  unfold plan
  rw [List.reverse_reverse]
  have := plan_least g T.reverse
  rw [List.reverse_reverse] at this
  exact this
theorem good_ways {c : Pr} (g : Good c) : WaysP c := ⟨g.self, g.go⟩
theorem worksL_gR (c : Pr) {T : List (List Int)} {i : Nat} (h : i ≤ T.length) : gR (worksL c T) i = wk c (T.take i) := gR_at (worksL_at c h)
theorem papP_work {c : Pr} (g : Good c) (T : List (List Int)) : WorkP (papP c T) := by
  refine ⟨fun y hy => ?_, fun t ht x hx y hy => ?_⟩
  · show gI (gR (worksL c T) 0) y ≤ _
    rw [worksL_gR c (Nat.zero_le _)]
    exact Int.le_refl _
  · show gI (gR (worksL c T) (t + 1)) y ≤ gI (gR (worksL c T) t) x + 2 * gI (gR T t) x + gI (gR c.W x) y
    have ht : t < T.length := ht
    have hx : x < c.n := hx
    have hy : y < c.n := hy
    rw [worksL_gR c (show t + 1 ≤ T.length by omega), worksL_gR c (show t ≤ T.length by omega), take_gR ht, wk_snoc]
    unfold stepW
    rw [gI_mk hy]
    exact minmk_le (f := sumF c (wk c (T.take t)) (gR T t) y) hx
theorem papP_plan {c : Pr} (g : Good c) (T : List (List Int)) : PlanP (papP c T) := by
  refine ⟨?_, fun y hy => ?_⟩
  · show spR c T.reverse (plan c T).reverse = amt c T
    rw [plan_sp g, amt_least g]
  · show 2 * amt c T + gI c.S c.start ≤ gI (gR (worksL c T) T.length) y + gI c.S y
    have hy : y < c.n := hy
    rw [worksL_gR c (Nat.le_refl _), List.take_length, amt_least g]
    have e1 := ends_least g T
    have e2 : minL (ends c (wk c T)) ≤ gI (wk c T) y + gI c.S y := minmk_le (f := fun s => gI (wk c T) s + gI c.S s) hy
    omega
/-- bounds: prices to bW, excesses to bE -/
structure Bnd (c : Pr) (T : List (List Int)) (b e : Int) : Prop where
  s : ∀ x ∈ c.S, 0 ≤ x ∧ x ≤ b
  w : ∀ x y, x < c.n → y < c.n → 0 ≤ gI (gR c.W x) y ∧ gI (gR c.W x) y ≤ b
  t : ∀ r ∈ T, r.length = c.n ∧ ∀ x ∈ r, 0 ≤ x ∧ x ≤ e
theorem bnd_take {c : Pr} {T : List (List Int)} {b e : Int} (h : Bnd c T b e) (i : Nat) : Bnd c (T.take i) b e := ⟨h.s, h.w, fun r m => h.t r (List.mem_of_mem_take m)⟩
theorem gI_mem {xs : List Int} {i : Nat} (h : i < xs.length) : gI xs i ∈ xs := List.mem_of_getElem? (at_gI h)
theorem wk_bnd {c : Pr} (g : Good c) {b e : Int} (he : 0 ≤ e) : ∀ (T : List (List Int)), Bnd c T b e → ∀ y, y < c.n → 0 ≤ gI (wk c T) y ∧ gI (wk c T) y ≤ b + 2 * e * T.length := by
  intro T
  have h : ∀ n, ∀ T : List (List Int), T.length = n → Bnd c T b e → ∀ y, y < c.n → 0 ≤ gI (wk c T) y ∧ gI (wk c T) y ≤ b + 2 * e * T.length := by
    intro n
    induction n with
    | zero =>
      intro T l h y hy
      have : T = [] := List.length_eq_zero_iff.mp l
      subst this
      have := h.w c.start y g.st hy
      show 0 ≤ gI (gR c.W c.start) y ∧ gI (gR c.W c.start) y ≤ b + 2 * e * ((0 : Nat) : Int)
      simp
      exact this
    | succ n ih =>
      intro T l h y hy
      have hn : n < T.length := by omega
      have eT : T = T.take n ++ [gR T n] := by rw [← take_gR hn, List.take_of_length_le (by omega)]
      have mT := h.t _ (List.mem_of_getElem? (at_gR hn))
      have i1 := ih (T.take n) (by rw [List.length_take]; omega) (bnd_take h n)
      have lT : (T.take n).length = n := by rw [List.length_take]; omega
      rw [lT] at i1
      rw [l, eT, wk_snoc]
      unfold stepW
      rw [gI_mk hy]
      constructor
      · obtain ⟨x, hx, q⟩ := minmk_ex (f := sumF c (wk c (T.take n)) (gR T n) y) g.pos
        unfold sums
        rw [q]
        unfold sumF
        have := (i1 x hx).1
        have := (mT.2 _ (gI_mem (show x < (gR T n).length by rw [mT.1]; exact hx))).1
        have := (h.w x y hx hy).1
        omega
      · have a := minmk_le (f := sumF c (wk c (T.take n)) (gR T n) y) hy
        unfold sums
        refine Int.le_trans a ?_
        unfold sumF
        rw [g.self y hy]
        have := (i1 y hy).2
        have := (mT.2 _ (gI_mem (show y < (gR T n).length by rw [mT.1]; exact hy))).2
        have e1 : 2 * e * ((n + 1 : Nat) : Int) = 2 * e * (n : Int) + 2 * e := by
          rw [show ((n + 1 : Nat) : Int) = (n : Int) + 1 by omega, Int.mul_add]
          omega
        rw [e1]
        omega
  exact h T.length T rfl
theorem spR_nn {c : Pr} (g : Good c) : ∀ (T : List (List Int)) (ps : List Nat), (∀ r ∈ T, r.length = c.n ∧ ∀ x ∈ r, 0 ≤ x) → (∀ q ∈ ps, q < c.n) → 0 ≤ spR c T ps
  | [], _, _, _ => by simp [spR]
  | _ :: _, [], _, _ => by simp [spR]
  | e :: T, p :: ps, h, hp => by
    have ih := spR_nn g T ps (fun r m => h r (List.mem_cons_of_mem _ m)) fun q m => hp q (List.mem_cons_of_mem _ m)
    have hpn := hp p List.mem_cons_self
    have hq : ps.headD c.start < c.n := by
      cases ps with
      | nil => exact g.st
      | cons q r => exact hp q (List.mem_cons_of_mem _ List.mem_cons_self)
    have go := (g.go _ p hq hpn).1
    have e0 := h e List.mem_cons_self
    have e1 := e0.2 _ (gI_mem (show p < e.length by rw [e0.1]; exact hpn))
    show 0 ≤ spR c T ps + goF c (ps.headD c.start) p + gI e p
    unfold goF
    omega
theorem plan_len (c : Pr) (T : List (List Int)) : (plan c T).length = T.length := by
  unfold plan
  rw [List.length_reverse, back_len, List.length_reverse]
theorem plan_lt {c : Pr} (g : Good c) (T : List (List Int)) : ∀ q ∈ plan c T, q < c.n := fun q m => back_lt g _ _ q (List.mem_reverse.mp m)
theorem amt_bnd {c : Pr} (g : Good c) {b e : Int} (he : 0 ≤ e) {T : List (List Int)} (h : Bnd c T b e) : 0 ≤ amt c T ∧ 2 * amt c T ≤ 2 * b + 2 * e * T.length := by
  have e1 := amt_least g T
  constructor
  · rw [e1, ← plan_sp g T]
    exact spR_nn g _ _ (fun r m => ⟨(h.t r (List.mem_reverse.mp m)).1, fun x mx => ((h.t r (List.mem_reverse.mp m)).2 x mx).1⟩) fun q m => plan_lt g T q (List.mem_reverse.mp m)
  · have := ends_least g T
    have a := minmk_le (f := fun s => gI (wk c T) s + gI c.S s) g.st
    have e' : ends c (wk c T) = mk c.n fun s => gI (wk c T) s + gI c.S s := rfl
    rw [e'] at this
    have w1 := (wk_bnd g he T h c.start g.st).2
    have s1 := h.s _ (gI_mem (show c.start < c.S.length by rw [g.s]; exact g.st))
    omega
theorem papP_form {c : Pr} (g : Good c) {b e : Int} (hn : c.n ≤ 16) {T : List (List Int)} (h : Bnd c T b e) (ht : T.length ≤ 1000) (he : 0 ≤ e) (hb : b ≤ 100000000) (he2 : e ≤ 100000000) : FormP (papP c T) := by
  have m : ∀ i, 0 ≤ 2 * e * ((i : Nat) : Int) := fun i => Int.mul_nonneg (by omega) (by omega)
  have top : ∀ i : Nat, i ≤ 1000 → 2 * e * (i : Int) ≤ 200000000000 := fun i hi => by
    have : 2 * e * (i : Int) ≤ (2 * e) * 1000 := Int.mul_le_mul_of_nonneg_left (by omega) (by omega)
    omega
  have num : ∀ i : Nat, i ≤ T.length → ∀ x ∈ wk c (T.take i), Num x := fun i hi x mx => by
    obtain ⟨y, ey⟩ := List.mem_iff_getElem?.mp mx
    have hy := (List.getElem?_eq_some_iff.mp ey).1
    rw [wk_len g] at hy
    have w1 := wk_bnd g he _ (bnd_take h i) y hy
    rw [gI_at ey] at w1
    have l1 : (T.take i).length ≤ 1000 := by rw [List.length_take]; omega
    have := top _ l1
    exact ⟨w1.1, by omega⟩
  have am := amt_bnd g he h
  have tp := top _ ht
  refine ⟨g.pos, hn, ht, g.st, ⟨am.1, by show amt c T ≤ _; omega⟩, g.s, fun x mx => ⟨(h.s x mx).1, by have := (h.s x mx).2; omega⟩, ⟨g.w, fun r mr => ?_⟩, ⟨rfl, fun r mr => ⟨(h.t r mr).1, fun x mx => ⟨((h.t r mr).2 x mx).1, by have := ((h.t r mr).2 x mx).2; omega⟩⟩⟩, ⟨worksL_len c T, fun r mr => ?_⟩, plan_len c T, plan_lt g T⟩
  · obtain ⟨i, ei⟩ := List.mem_iff_getElem?.mp mr
    have hi := (List.getElem?_eq_some_iff.mp ei).1
    rw [show (papP c T).c.W = c.W from rfl, g.w] at hi
    have er : gR c.W i = r := gR_at ei
    have lr : r.length = c.n := by rw [← er]; exact g.r i hi
    refine ⟨lr, fun x mx => ?_⟩
    obtain ⟨y, ey⟩ := List.mem_iff_getElem?.mp mx
    have hy := (List.getElem?_eq_some_iff.mp ey).1
    rw [lr] at hy
    have := h.w i y hi hy
    rw [er, gI_at ey] at this
    exact ⟨this.1, by omega⟩
  · obtain ⟨i, ei⟩ := List.mem_iff_getElem?.mp mr
    have hi := (List.getElem?_eq_some_iff.mp ei).1
    rw [show (papP c T).Kw = worksL c T from rfl, worksL_len] at hi
    rw [show (papP c T).Kw = worksL c T from rfl, worksL_at c (show i ≤ T.length by omega)] at ei
    cases ei
    exact ⟨wk_len g _, num i (by omega)⟩
end K1
namespace Ow
open PySem PySem.Spec PyProof.Rows L2
/-- every turn gives a new tuple, of the row i -/
theorem lc_newT {J : L2.It} {n : Nat} {G : Hp → Prop} {Y : Nat → Hp → V → Hp → Prop} (w : Walk J n G Y) (row : Nat → List V) (hn : n < sizeLine) {g : TG} {te : TE} {vs : List Nat} {σ : L2.St} {H1 : Hp} {D : Addr} {Qd : Hp → Prop} (hD : H1 D = none)
    (hG : ∀ H, Same H1 H → G H)
    (hs : ∀ i x H H' (N : VK), i < n → Same H1 H → Y i H x H' → (∀ H4 q, Same H H4 → H4 q = some (.tup (row i)) → N (.ref q) H4) → g x (wipe σ vs) H' fun σ2 H2 => wipe σ2 vs = wipe σ vs ∧ te σ2 H2 N)
    (hd : ∀ (H : Hp) (ts : List Addr), Same H1 H → H D = some (.lst (ts.map V.ref)) → ts.length = n → (∀ i t, ts[i]? = some t → H t = some (.tup (row i))) → Qd H) :
    ∃ W : Nat → Nat → Hp → Prop, (∃ m, W 0 m (upd H1 D (.lst []))) ∧ ∀ i m H, W i m H →
      (J.stop i H ∧ Qd H) ∨ (J.go i H ∧ ∃ Nx : Hp → Prop, (∀ H', Nx H' → ∃ m', m' < m ∧ W (i + 1) m' H') ∧ ∀ x H', J.yld i H x H' → g x (wipe σ vs) H' fun σ2 H2 => wipe σ2 vs = wipe σ vs ∧ tYes σ2 H2 fun b H3 =>
        if b = true then te σ2 H3 fun y H4 => ∃ acc, H4 D = some (.lst acc) ∧ acc.length < sizeLine ∧ Nx (upd H4 D (.lst (acc ++ [y]))) else Nx H3) := by
  refine lc_it w (fun i H => Same H1 H ∧ ∃ ts : List Addr, H D = some (.lst (ts.map V.ref)) ∧ ts.length = i ∧ ∀ j t, ts[j]? = some t → H t = some (.tup (row j))) ⟨Same.new hD, [], upd_same, rfl, fun j t e => by simp at e⟩ (fun i H _ h => hG H h.1) (fun i x H H' hi h y => ?_) fun H h => ?_
  · obtain ⟨s, ts, eD, el, et⟩ := h
    refine hs i x H H' _ hi s y fun H4 q s4 eq => ?_
    have tD : ∀ {t : Addr} {r : List V}, H4 t = some (.tup r) → t ≠ D := fun e z => by rw [z, s4 _ _ eD] at e; cases e
    refine ⟨_, s4 _ _ eD, by rw [List.length_map, el]; exact Nat.lt_trans hi hn, Same.over (s.trans s4) hD, ts ++ [q], ?_, by rw [List.length_append, el]; rfl, fun j t ej => ?_⟩
    · rw [upd_same, List.map_append]
      rfl
    · rcases Nat.lt_trichotomy j ts.length with h1 | h1 | h1
      · rw [List.getElem?_append_left h1] at ej
        have f3 := s4 _ _ (et j t ej)
        rw [upd_ne (tD f3)]
        exact f3
      · subst h1
        have e2 : q = t := by simpa using ej
        subst e2
        rw [upd_ne (tD eq), el]
        exact eq
      · rw [List.getElem?_eq_none (by rw [List.length_append, List.length_singleton]; omega)] at ej
        cases ej
  · obtain ⟨s, ts, eD, el, et⟩ := h
    exact hd H ts s eD el et
end Ow
namespace K1
open PySem PySem.Spec PyProof.Rows L2 Ow Po Z3
abbrev sPaper : Stmt := inClass sPol 5
abbrev NPaper : List Str := ["self", "amount", "plan", "ways", "tasks", "works", "row", "task", "work"]
theorem scPaper : FnScope NPaper ["self"] (defScope sPaper) := ⟨rfl, rfl, rfl, by decide +kernel, rfl, by decide +kernel, by decide +kernel⟩
def spPaper (K : PySem.W.Frag) (C : Addr) : Sp := fun vs H Q _ => ∃ (Z : Addr → Prop) (p sA wA tA kA : Addr) (c : Pr) (now : Nat) (spent : Int) (T : List (List Int)), vs = [.ref p] ∧ PolAt C Z H p sA wA tA kA c now spent T (worksL c T) ∧ Good c ∧ c.n ≤ 1000 ∧ T.length ≤ 1000 ∧ (∀ e ∈ T, e.length = c.n) ∧
  ∀ H' t, Same H H' → PapAt K H' t (papP c T) → Q (.ref t) H'
theorem tt_mk {K : PySem.W.Frag} {H : Hp} {t : Addr} {ts : List Addr} {xss : List (List Int)} (e : SqT K H t (ts.map V.ref)) (l : ts.length = xss.length) (g : ∀ i u, ts[i]? = some u → H u = some (.tup ((gR xss i).map V.int))) : TT K H (.ref t) xss := by
  refine ⟨t, _, rfl, e, by rw [List.length_map, l], fun i u xs e1 e2 => ?_⟩
  rw [List.getElem?_map] at e1
  cases z : ts[i]? with
  | none => rw [z] at e1; cases e1
  | some b =>
    rw [z] at e1
    cases e1
    have := g i b z
    rw [gR_at e2] at this
    exact ⟨b, rfl, SqT.of this⟩
/-- a list of lists, read -/
theorem ll_get {av : Addr → Prop} {H : Hp} {a : Addr} {xss : List (List Int)} (h : LL av H a xss) : ∃ ts : List Addr, H a = some (.lst (ts.map V.ref)) ∧ (ts.map V.ref).length = xss.length ∧ ∀ (i : Nat) (x : V), (ts.map V.ref)[i]? = some x → ∃ t, x = .ref t ∧ LI H t (gR xss i) := by
  obtain ⟨ts, e, l, g, _⟩ := h.ex
  refine ⟨ts, e, by rw [List.length_map, l], fun i x ex => ?_⟩
  have hi : i < ts.length := by
    have := (List.getElem?_eq_some_iff.mp ex).1
    rwa [List.length_map] at this
  rw [List.getElem?_map, List.getElem?_eq_getElem hi] at ex
  cases ex
  exact ⟨ts[i], rfl, g i _ _ (List.getElem?_eq_getElem hi) (at_gR (by rw [← l]; exact hi))⟩
section
variable {P : Program} {w : World} {K : PySem.W.Frag} {mg : Str → Option Value} {base : Heap}
theorem ok_paper {f C : Addr} {fd : FuncData} (F : Fun K "paper" "Policy.paper" sPaper f fd) (T0 : Bl mg) (X : Txt K mg C) (DH : Kmt P w K mg base C 2 "hindsight" ["self"] (spHind C)) :
    FnOk P w K mg base CX0 3 f fd ["self"] (spPaper K C) := by
  refine F.ok scPaper (fun vs H Q E h => ?_) (fun cdv A outer s H vs Q E hr h => ?_)
  · obtain ⟨Z, p, sA, wA, tA, kA, c, now, spent, T, rfl, _⟩ := h
    rfl
  · obtain ⟨Z, p, sA, wA, tA, kA, c, now, spent, T, rfl, D, g, hn, hT, le, q⟩ := h
    obtain ⟨dx, ob⟩ := D.ob
    refine ⟨_, pss_cons (ps_asg (pe_mt0 DH hr (pv 0)) (pg_tup rfl (pgs_cons (pg_name (i := 1) scPaper.nd rfl (.inl rfl)) (pgs_cons (pg_name (i := 2) scPaper.nd rfl (.inl rfl)) pgs_nil))))
      (pss_cons (ps_set (i := 3) scPaper.nd rfl (.inl rfl) (pe_callTy call_tuple_of (by rfl) T0.tuple (by decide +kernel) (pa_cons (pe_lc (own := [("row", 6)]) (g := gName 6) (tt := tYes) rfl scPaper.nd (pi_list (pe_fld (pv 0) rfl)) (blkOk_by (own := [("row", 6)]) (N := NPaper) (sc := defScope sPaper) (by decide +kernel)) (fun _ _ _ _ _ => pg_name (i := 6) scPaper.nd rfl (Or.inl rfl)) (fun _ _ _ _ _ => pts_nil) (fun _ _ _ _ _ => pe_callTy (call_tuple_K (K := K) rfl) (by rfl) T0.tuple (by decide +kernel) (pa_cons (pv 6) pa_nil))) pa_nil)))
      (pss_cons (ps_set (i := 4) scPaper.nd rfl (.inl rfl) (pe_callTy call_tuple_of (by rfl) T0.tuple (by decide +kernel) (pa_cons (pe_lc (own := [("task", 7)]) (g := gName 7) (tt := tYes) rfl scPaper.nd (pi_list (pe_fld (pv 0) rfl)) (blkOk_by (own := [("task", 7)]) (N := NPaper) (sc := defScope sPaper) (by decide +kernel)) (fun _ _ _ _ _ => pg_name (i := 7) scPaper.nd rfl (Or.inl rfl)) (fun _ _ _ _ _ => pts_nil) (fun _ _ _ _ _ => pe_callTy (call_tuple_K (K := K) rfl) (by rfl) T0.tuple (by decide +kernel) (pa_cons (pv 7) pa_nil))) pa_nil)))
      (pss_cons (ps_set (i := 5) scPaper.nd rfl (.inl rfl) (pe_callTy call_tuple_of (by rfl) T0.tuple (by decide +kernel) (pa_cons (pe_lc (own := [("work", 8)]) (g := gName 8) (tt := tYes) rfl scPaper.nd (pi_list (pe_fld (pv 0) rfl)) (blkOk_by (own := [("work", 8)]) (N := NPaper) (sc := defScope sPaper) (by decide +kernel)) (fun _ _ _ _ _ => pg_name (i := 8) scPaper.nd rfl (Or.inl rfl)) (fun _ _ _ _ _ => pts_nil) (fun _ _ _ _ _ => pe_callTy (call_tuple_K (K := K) rfl) (by rfl) T0.tuple (by decide +kernel) (pa_cons (pv 8) pa_nil))) pa_nil)))
      (pss_one (ps_ret (pe_tup (pa_cons (pe_fld (pv 0) rfl) (pa_cons (pe_callTy call_tuple_of (by rfl) T0.tuple (by decide +kernel) (pa_cons (pe_fld (pv 0) rfl) pa_nil)) (pa_cons (pv 3) (pa_cons (pv 4) (pa_cons (pv 5) (pa_cons (pe_callTy call_tuple_of (by rfl) T0.tuple (by decide +kernel) (pa_cons (pv 2) pa_nil)) (pa_cons (pv 1) pa_nil))))))))))))), ?_⟩
    refine ⟨_, rfl, p, dx, _, rfl, ob, polF_no_hindsight _ _ _ _ _ _ _, Z, p, sA, wA, tA, kA, c, now, spent, T, rfl, D, g, hn, hT, le, fun H1 t1 l1 s1 nt1 nl1 et1 el1 => ?_⟩
    refine ⟨_, _, rfl, SqT.of et1, rfl, _, _, rfl, _, _, rfl, rfl, ?_⟩
    have D1 := D.same s1
    clear nt1 nl1 et1
    -- ways
    obtain ⟨ws, ew, lw, gw⟩ := ll_get D1.w
    obtain ⟨dx1, ob1⟩ := D1.ob
    have hW : c.W.length ≤ 1000 := by rw [g.w]; exact hn
    refine ⟨_, rfl, p, C, dx1, _, _, rfl, ob1, X.cl, X.ways, polF_ways _ _ _ _ _ _ _, wA, rfl, ⟨_, SqL.of ew⟩, fun Da nDa => ?_⟩
    refine lc_newT (walk_list (K := K) (a := wA) (xs := ws.map V.ref)) (fun i => (gR c.W i).map V.int) (by rw [lw]; exact small hW (by decide)) nDa (fun H s => SqL.of (s _ _ ew)) (fun i x H2 H2' N hi s2 yy fin => ?_) fun H2 us s2 eDa lu gu => ?_
    · obtain ⟨rfl, ex⟩ := yy
      obtain ⟨t, rfl, et⟩ := gw i _ ex
      exact ⟨rfl, _, rfl, t, _, rfl, .inl ⟨SqL.of (s2 _ _ et), fun l nl => fin _ l (Same.new nl) upd_same⟩⟩
    refine ⟨Da, _, rfl, .inl ⟨SqL.of eDa, fun tW ntW => ?_⟩⟩
    rw [lw] at lu
    have s12 := s2.trans (Same.new (o := .tup (us.map V.ref)) ntW)
    have tW1 : TT K (upd H2 tW (.tup (us.map V.ref))) (.ref tW) c.W := tt_mk (SqT.of upd_same) lu fun i u e => Same.new ntW _ _ (gu i u e)
    clear eDa gu
    generalize (upd H2 tW (.tup (us.map V.ref))) = H3 at s12 tW1 ⊢
    -- tasks
    have D3 := D1.same s12
    obtain ⟨ws, ew, lw, gw⟩ := ll_get D3.t
    obtain ⟨dx3, ob3⟩ := D3.ob
    refine ⟨_, rfl, p, C, dx3, _, _, rfl, ob3, X.cl, X.tasks, polF_tasks _ _ _ _ _ _ _, tA, rfl, ⟨_, SqL.of ew⟩, fun Db nDb => ?_⟩
    refine lc_newT (walk_list (K := K) (a := tA) (xs := ws.map V.ref)) (fun i => (gR T i).map V.int) (by rw [lw]; exact small hT (by decide)) nDb (fun H s => SqL.of (s _ _ ew)) (fun i x H2 H2' N hi s2 yy fin => ?_) fun H4 us s4 eDa lu gu => ?_
    · obtain ⟨rfl, ex⟩ := yy
      obtain ⟨t, rfl, et⟩ := gw i _ ex
      exact ⟨rfl, _, rfl, t, _, rfl, .inl ⟨SqL.of (s2 _ _ et), fun l nl => fin _ l (Same.new nl) upd_same⟩⟩
    refine ⟨Db, _, rfl, .inl ⟨SqL.of eDa, fun tT ntT => ?_⟩⟩
    rw [lw] at lu
    have s34 := s4.trans (Same.new (o := .tup (us.map V.ref)) ntT)
    have tT1 : TT K (upd H4 tT (.tup (us.map V.ref))) (.ref tT) T := tt_mk (SqT.of upd_same) lu fun i u e => Same.new ntT _ _ (gu i u e)
    clear eDa gu
    generalize (upd H4 tT (.tup (us.map V.ref))) = H5 at s34 tT1 ⊢
    -- works
    have D5 := D3.same s34
    obtain ⟨ws, ew, lw, gw⟩ := ll_get D5.k
    obtain ⟨dx5, ob5⟩ := D5.ob
    refine ⟨_, rfl, p, C, dx5, _, _, rfl, ob5, X.cl, X.works, polF_works _ _ _ _ _ _ _, kA, rfl, ⟨_, SqL.of ew⟩, fun Dc nDc => ?_⟩
    refine lc_newT (walk_list (K := K) (a := kA) (xs := ws.map V.ref)) (fun i => (gR (worksL c T) i).map V.int) (by rw [lw, worksL_len]; exact small (show T.length + 1 ≤ 2000 by omega) (by decide)) nDc (fun H s => SqL.of (s _ _ ew)) (fun i x H2 H2' N hi s2 yy fin => ?_) fun H6 us s6 eDa lu gu => ?_
    · obtain ⟨rfl, ex⟩ := yy
      obtain ⟨t, rfl, et⟩ := gw i _ ex
      exact ⟨rfl, _, rfl, t, _, rfl, .inl ⟨SqL.of (s2 _ _ et), fun l nl => fin _ l (Same.new nl) upd_same⟩⟩
    refine ⟨Dc, _, rfl, .inl ⟨SqL.of eDa, fun tK ntK => ?_⟩⟩
    rw [lw] at lu
    have s56 := s6.trans (Same.new (o := .tup (us.map V.ref)) ntK)
    have tK1 : TT K (upd H6 tK (.tup (us.map V.ref))) (.ref tK) (worksL c T) := tt_mk (SqT.of upd_same) lu fun i u e => Same.new ntK _ _ (gu i u e)
    clear eDa gu
    generalize (upd H6 tK (.tup (us.map V.ref))) = H7 at s56 tK1 ⊢
    -- the paper
    have D7 := D5.same s56
    obtain ⟨dx7, ob7⟩ := D7.ob
    have s17 := (s12.trans s34).trans s56
    refine ⟨_, rfl, p, C, dx7, _, _, rfl, ob7, X.cl, X.start, polF_start _ _ _ _ _ _ _, _, rfl, p, C, dx7, _, _, rfl, ob7, X.cl, X.stands, polF_stands _ _ _ _ _ _ _, sA, _, rfl, .inl ⟨D7.s.seq, fun tS ntS => ?_⟩⟩
    have s78 := Same.new (o := .tup (c.S.map V.int)) ntS
    refine ⟨_, rfl, _, rfl, _, rfl, _, rfl, l1, _, rfl, .inl ⟨(el1.same (s17.trans s78)).seq, fun tR ntR => ?_⟩⟩
    have s89 := Same.new (o := .tup ((toI (plan c T)).map V.int)) ntR
    have tS1 : TI K (upd H7 tS (.tup (c.S.map V.int))) (.ref tS) c.S := ⟨tS, rfl, SqT.of upd_same⟩
    have tR1 : TI K (upd (upd H7 tS (.tup (c.S.map V.int))) tR (.tup ((toI (plan c T)).map V.int))) (.ref tR) (toI (plan c T)) := ⟨tR, rfl, SqT.of upd_same⟩
    generalize (upd H7 tS (.tup (c.S.map V.int))) = H8 at s78 tS1 s89 tR1 ⊢
    generalize (upd H8 tR (.tup ((toI (plan c T)).map V.int))) = H9 at s89 tR1 ⊢
    refine ⟨_, rfl, by show 7 ≤ sizeLine; decide, fun t nt => ?_⟩
    have sa := Same.new (o := .tup [.int (c.start : Nat), .ref tS, .ref tW, .ref tT, .ref tK, .ref tR, .int (amt c T)]) nt
    have sU := (s78.trans s89).trans sa
    refine q _ t ((s1.trans s17).trans sU) ⟨.ref tS, .ref tW, .ref tT, .ref tK, .ref tR, SqT.of upd_same, tS1.same (s89.trans sa), tW1.same (((s34.trans s56).trans sU)), tT1.same (s56.trans sU), tK1.same sU, tR1.same sa⟩
end
end K1
namespace K1
open PySem PySem.Spec PyProof.Rows L2 Ow Po Z3
abbrev s_law_draw : Stmt := topS 21
abbrev N_law_draw : List Str := ["script", "k", "cell", "turn", "step"]
theorem sc_law_draw : FnScope N_law_draw ["script", "k"] (defScope s_law_draw) := ⟨rfl, rfl, rfl, by decide +kernel, rfl, by decide +kernel, by decide +kernel⟩
def spDraw (K : PySem.W.Frag) : Sp := fun vs H Q _ => ∃ (a : Addr) (ns : List Int) (k : Nat), vs = [.ref a, .int (k : Nat)] ∧ SqL K H a (ns.map V.int) ∧ ns.length ≤ 63 ∧ k ≤ 100000 ∧ Q (.int (drawF ns k)) H
theorem min60 (t : Nat) : (if (60 : Int) < ((t : Nat) : Int) then (60 : Int) else ((t : Nat) : Int)).toNat = min t 60 := by rw [Nat.min_def]; split <;> split <;> omega
theorem min60b {t : Nat} (h : t ≤ 100000) : -(2 ^ 62) ≤ (if (60 : Int) < ((t : Nat) : Int) then (60 : Int) else ((t : Nat) : Int)) ∧ (if (60 : Int) < ((t : Nat) : Int) then (60 : Int) else ((t : Nat) : Int)) < 2 ^ 62 := by
  split <;> constructor <;> omega
section
variable {P : Program} {w : World} {K : PySem.W.Frag} {mg : Str → Option Value} {base : Heap}
theorem ok_draw {f : Addr} {fd : FuncData} (F : Fun K "_law_draw" "_law_draw" s_law_draw f fd) (T0 : Bl mg) :
    FnOk P w K mg base CX0 1 f fd ["script", "k"] (spDraw K) := by
  refine F.ok sc_law_draw (fun vs H Q E h => ?_) (fun cdv A outer s H vs Q E hr h => ?_)
  · obtain ⟨a, ns, k, rfl, _⟩ := h
    rfl
  · obtain ⟨a, ns, k, rfl, hs, hl, hk, q⟩ := h
    refine ⟨_, (pss_cons (ps_if (pt_not (pt_truth (pv 0) (fun _ => rfl))) (pss_one (ps_ret (pe_op op_mod (pe_op op_mul (pv 1) pe_int) pe_int))) pss_nil)
      (pss_cons (ps_set (i := 2) sc_law_draw.nd rfl (.inl rfl) (pe_callTy call_int1 (by rfl) T0.int (by decide +kernel) (pa_cons (pe_ix ix_list (pv 0) (pe_op op_mod (pv 1) (pe_callB call_len_seq (by rfl) T0.len PySem.boot_len (pa_cons (pv 0) pa_nil))) (fun _ _ => rfl)) pa_nil)))
      (pss_cons (ps_set (i := 3) sc_law_draw.nd rfl (.inl rfl) (pe_op op_fdiv (pv 1) (pe_callB call_len_seq (by rfl) T0.len PySem.boot_len (pa_cons (pv 0) pa_nil))))
      (pss_cons (ps_if (pt_cmpR op_ge (pv 2) pe_int (nomark _)) (pss_cons (ps_for PassesOwn.never rfl (pi_range1 (by rfl) T0.range (pa_cons (pe_callB (call_min2 rfl) (by rfl) T0.min (by decide +kernel) (pa_cons (pv 3) (pa_cons pe_int pa_nil))) pa_nil)) (pg_name (i := 4) sc_law_draw.nd rfl (.inl rfl)) (pss_one (ps_set (i := 2) sc_law_draw.nd rfl (.inl rfl) (pe_op op_fdiv (pv 2) pe_int))))
      (pss_one (ps_ret (pe_op op_mod (pv 2) pe_int)))) pss_nil)
      (pss_one (ps_ret (pe_op op_mod (pe_op op_mul (pe_op op_mod (pe_op op_add (pe_op op_add (pe_op op_mul (pv 2) pe_int) (pe_op op_mul (pv 1) pe_int)) pe_int) pe_int) pe_int) pe_int))))))), ?_⟩
    refine ⟨_, rfl, _, .inl ⟨_, hs, rfl⟩, ?_⟩
    by_cases hz : ns.length = 0
    · have e0 : ns = [] := List.length_eq_zero_iff.mp hz
      subst e0
      refine iteT ?_
      refine ⟨_, rfl, _, 5, rfl, rfl, .inr ⟨by decide, by decide⟩, _, _, rfl, rfl, (by show (0 : Int) < 7; decide), ?_⟩
      unfold drawF at q
      rw [if_pos hz] at q
      exact q
    · have e0 : (ns.map V.int).isEmpty = false := by
        cases ns with
        | nil => exact absurd rfl hz
        | cons a r => rfl
      rw [e0]
      refine iteF ?_
      have pos : 0 < ns.length := Nat.pos_of_ne_zero hz
      have hm : k % ns.length < ns.length := Nat.mod_lt _ pos
      have cl : ((ns.map V.int).length : Int) = (ns.length : Int) := by rw [List.length_map]
      -- cell, turn
      refine ⟨_, rfl, _, rfl, _, rfl, a, _, rfl, .inl hs, _, _, rfl, rfl, (by show (0 : Int) < ((ns.map V.int).length : Int); rw [cl]; omega), a, _, _, V.int (gI ns (k % ns.length)), rfl, rfl, hs, ?_, .inl ⟨_, rfl, ?_⟩⟩
      · have := atI_nat (li_at hm)
        rw [show ((k : Int) % ((ns.map V.int).length : Int)) = ((k % ns.length : Nat) : Int) by rw [cl]; rfl]
        exact this
      refine ⟨_, rfl, _, rfl, a, _, rfl, .inl hs, _, _, rfl, rfl, ⟨by show (0 : Int) < ((ns.map V.int).length : Int); rw [cl]; omega, by show ((ns.map V.int).length : Int) < _; rw [cl]; omega⟩, ?_⟩
      have et : ((k : Int) / ((ns.map V.int).length : Int)) = ((k / ns.length : Nat) : Int) := by rw [cl]; rfl
      show gName 3 (V.int ((k : Int) / ((ns.map V.int).length : Int))) _ _ _
      rw [et]
      refine ⟨_, rfl, _, _, rfl, rfl, _, rfl, ?_⟩
      unfold drawF at q
      rw [if_neg hz] at q
      refine ite2 (fun hb => ?_) (fun hb => ?_)
      · have hb' := of_decide_eq_true hb
        rw [if_pos hb'] at q
        have ub : k / ns.length ≤ k := Nat.div_le_self _ _
        have ej := min60 (k / ns.length)
        have jb := min60b (show k / ns.length ≤ 100000 by omega)
        refine ⟨_, rfl, _, _, rfl, _, rfl, jb.1, jb.2, ?_⟩
        rw [ej]
        refine for_range (lo := 0) (fun i σ H' => ∃ v4, σ = [some (.ref a), some (.int (k : Nat)), some (.int (itD i (gI ns (k % ns.length)))), some (.int ((k / ns.length : Nat) : Int)), v4] ∧ H' = H) ⟨none, rfl, rfl⟩ ?_ ?_
        · rintro i σ H' hi ⟨v4, rfl, rfl⟩
          refine ⟨_, rfl, _, _, rfl, rfl, ⟨by decide, by decide⟩, some (.int (0 + (i : Int))), ?_, rfl⟩
          rw [itD_succ]
          rfl
        · rintro σ H' ⟨v4, rfl, rfl⟩
          exact ⟨_, rfl, _, _, rfl, rfl, (by show (0 : Int) < 100003; decide), q⟩
      · have hb' : ¬ _ := fun z => hb (decide_eq_true z)
        rw [if_neg hb'] at q
        refine ⟨_, rfl, _, 48271, rfl, rfl, .inr ⟨by decide, by decide⟩, _, rfl, _, 69621, rfl, rfl, .inr ⟨by decide, by decide⟩, _, _, rfl, rfl, _, _, rfl, rfl, _, _, rfl, rfl, (by show (0 : Int) < 2147483647; decide), _, _, rfl, rfl, .inr ⟨by decide, by decide⟩, _, _, rfl, rfl, (by show (0 : Int) < 2147483629; decide), q⟩
end
end K1
namespace K1
open PySem PySem.Spec PyProof.Rows L2 Ow Po Z3
/-- what a paper has, whatever its numbers -/
structure WfP (p : Pap) : Prop where
  n1 : 1 ≤ p.c.n
  n16 : p.c.n ≤ 16
  tl : p.T.length ≤ 1000
  st : p.c.start < p.c.n
  sl : p.c.S.length = p.c.n
  wl : p.c.W.length = p.c.n
  wr : ∀ r ∈ p.c.W, r.length = p.c.n
  tr : ∀ r ∈ p.T, r.length = p.c.n
  kl : p.Kw.length = p.T.length + 1
  kr : ∀ r ∈ p.Kw, r.length = p.c.n
  rl : p.row.length = p.T.length
  rn : ∀ q ∈ p.row, q < p.c.n
theorem form_wf {p : Pap} (f : FormP p) : WfP p := ⟨f.n1, f.n16, f.tl, f.st, f.sl, f.w.l, fun r m => (f.w.r r m).1, fun r m => (f.t.r r m).1, f.k.l, fun r m => (f.k.r r m).1, f.rl, f.rn⟩
/-! data -/
theorem intsD {K : PySem.W.Frag} {H : Hp} : ∀ s : List Int, DpAll K H (s.map V.int) (s.map PyData.int)
  | [] => .nil
  | x :: s => .cons (.int x) (intsD s)
theorem ti_dp {K : PySem.W.Frag} {H : Hp} {v : V} {xs : List Int} (h : TI K H v xs) : Dp K H v (iD xs) := by
  obtain ⟨a, rfl, e⟩ := h
  exact .tup e (intsD xs)
theorem dpAll_of {K : PySem.W.Frag} {H : Hp} : ∀ {vs : List V} {ds : List PyData}, vs.length = ds.length → (∀ (i : Nat) (v : V) (d : PyData), vs[i]? = some v → ds[i]? = some d → Dp K H v d) → DpAll K H vs ds
  | [], [], _, _ => .nil
  | [], _ :: _, l, _ => by cases l
  | _ :: _, [], l, _ => by cases l
  | v :: vs, d :: ds, l, h => .cons (h 0 v d rfl rfl) (dpAll_of (Nat.succ.inj l) fun i u e a b => h (i + 1) u e a b)
theorem tt_dp {K : PySem.W.Frag} {H : Hp} {v : V} {xss : List (List Int)} (h : TT K H v xss) : Dp K H v (tD xss) := by
  obtain ⟨a, vs, rfl, e, l, g⟩ := h
  refine .tup e (dpAll_of (by rw [List.length_map, l]) fun i u d e1 e2 => ?_)
  rw [List.getElem?_map] at e2
  cases z : xss[i]? with
  | none => rw [z] at e2; cases e2
  | some xs => rw [z] at e2; cases e2; exact ti_dp (g i u xs e1 z)
theorem pap_dp {K : PySem.W.Frag} {H : Hp} {a : Addr} {p : Pap} (h : PapAt K H a p) : Dp K H (.ref a) (papD p) := by
  obtain ⟨vS, vW, vT, vK, vR, e, h1, h2, h3, h4, h5⟩ := h.ex
  exact .tup e (.cons (.int _) (.cons (ti_dp h1) (.cons (tt_dp h2) (.cons (tt_dp h3) (.cons (tt_dp h4) (.cons (ti_dp h5) (.cons (.int _) .nil)))))))
theorem wf_shr {p : Pap} (f : WfP p) : ∀ xs, papD p = .tuple xs → ∀ r ∈ xs, Shr r := by
  intro xs e r m
  unfold papD at e
  injection e with e
  subst e
  have n16 := f.n16
  have tl := f.tl
  have row : ∀ {ys : List Int}, ys.length ≤ 1001 → Shr (iD ys) := fun {ys} h => by
    refine ⟨by show (ys.map PyData.int).length ≤ 10000; rw [List.length_map]; omega, fun zs ez r mr => ?_⟩
    unfold iD at ez
    injection ez with ez
    subst ez
    obtain ⟨i, _, rfl⟩ := List.mem_map.mp mr
    exact Nat.zero_le _
  have tab : ∀ {yss : List (List Int)}, yss.length ≤ 1001 → (∀ r ∈ yss, r.length ≤ 1001) → Shr (tD yss) := fun {yss} h h2 => by
    refine ⟨by show (yss.map iD).length ≤ 10000; rw [List.length_map]; omega, fun zs ez r mr => ?_⟩
    unfold tD at ez
    injection ez with ez
    subst ez
    obtain ⟨ys, my, rfl⟩ := List.mem_map.mp mr
    have := h2 ys my
    show (ys.map PyData.int).length ≤ 10000
    rw [List.length_map]
    omega
  have int : ∀ i : Int, Shr (.int i) := fun i => ⟨Nat.zero_le _, fun xs e => by cases e⟩
  simp only [List.mem_cons, List.not_mem_nil, or_false] at m
  rcases m with z | z | z | z | z | z | z <;> rw [z]
  · exact int _
  · exact row (by rw [f.sl]; omega)
  · exact tab (by rw [f.wl]; omega) fun r m => by rw [f.wr r m]; omega
  · exact tab (by omega) fun r m => by rw [f.tr r m]; omega
  · exact tab (by rw [f.kl]; omega) fun r m => by rw [f.kr r m]; omega
  · exact row (by unfold toI; rw [List.length_map, f.rl]; omega)
  · exact int _
end K1
namespace K1
open PySem PySem.Spec PyProof.Rows L2 Ow Po Z3
def papL (p : Pap) : List PyData := [.int (p.c.start : Nat), iD p.c.S, tD p.c.W, tD p.T, tD p.Kw, iD (toI p.row), .int p.spent]
/-- data that the judge takes for no paper -/
def BadD (d : PyData) : Prop := (∀ xs, d = .tuple xs → ∀ r ∈ xs, Shr r) ∧ ∀ p, d = papD p → FormP p → WaysP p.c → WorkP p → PlanP p → False
theorem bad_judge {d : PyData} {r : V} (h : BadD d) (j : judgeF d r) : r = .non := by
  rcases j with ⟨p, e, f, a, b, c, _⟩ | ⟨_, e⟩
  · exact absurd (h.2 p e f a b c) id
  · exact e
theorem bad_no {d : PyData} (h : ∀ xs, d ≠ .tuple xs) : BadD d := ⟨fun xs e => absurd e (h xs), fun p e => absurd e (h _)⟩
theorem bad_len {xs : List PyData} (h : xs.length ≠ 7) (s : ∀ r ∈ xs, Shr r) : BadD (.tuple xs) := by
  refine ⟨fun ys e => by injection e with e; rw [← e]; exact s, fun p e => ?_⟩
  unfold papD at e
  injection e with e
  rw [e] at h
  exact absurd rfl h
theorem papL_shr {p : Pap} (f : WfP p) : ∀ r ∈ papL p, Shr r := wf_shr f (papL p) rfl
theorem bad_set {P0 : Pap} {i : Nat} {d : PyData} (hi : i < 7) (sh : Shr d) (wf : WfP P0) (h : ∀ p, FormP p → WaysP p.c → WorkP p → PlanP p → (papL p)[i]? = some d → (∀ j, j ≠ i → (papL p)[j]? = (papL P0)[j]?) → False) : BadD (.tuple ((papL P0).set i d)) := by
  refine ⟨fun xs e r m => ?_, fun p e f a b c => ?_⟩
  · injection e with e
    rw [← e] at m
    rcases List.mem_or_eq_of_mem_set m with z | z
    · exact papL_shr wf r z
    · rw [z]; exact sh
  · have e : (papL P0).set i d = papL p := by
      have : papD p = .tuple (papL p) := rfl
      rw [this] at e
      injection e
    refine h p f a b c ?_ fun j nj => ?_
    · rw [← e, List.getElem?_set_self (by exact hi)]
    · rw [← e, List.getElem?_set_ne (fun z => nj z.symm)]
theorem e_st {p q : Pap} (h : (papL p)[0]? = (papL q)[0]?) : p.c.start = q.c.start := by
  have h := Option.some.inj h
  injection h with h
  exact Int.ofNat_inj.mp h
theorem e_S {p q : Pap} (h : (papL p)[1]? = (papL q)[1]?) : p.c.S = q.c.S := iD_inj (Option.some.inj h)
theorem e_W {p q : Pap} (h : (papL p)[2]? = (papL q)[2]?) : p.c.W = q.c.W := tD_inj (Option.some.inj h)
theorem e_T {p q : Pap} (h : (papL p)[3]? = (papL q)[3]?) : p.T = q.T := tD_inj (Option.some.inj h)
theorem kinds {p : Pap} {i : Nat} {d : PyData} (h : (papL p)[i]? = some d) : (∃ k, d = .int k) ∨ ∃ xs, d = .tuple xs := by
  match i, h with
  | 0, h => cases h; exact .inl ⟨_, rfl⟩
  | 1, h => cases h; exact .inr ⟨_, rfl⟩
  | 2, h => cases h; exact .inr ⟨_, rfl⟩
  | 3, h => cases h; exact .inr ⟨_, rfl⟩
  | 4, h => cases h; exact .inr ⟨_, rfl⟩
  | 5, h => cases h; exact .inr ⟨_, rfl⟩
  | 6, h => cases h; exact .inl ⟨_, rfl⟩
  | i + 7, h => simp [papL] at h
/-- the number is in no place of a paper -/
theorem no_int {p : Pap} (f : FormP p) {i : Nat} {k : Int} (h : (papL p)[i]? = some (.int k)) : 0 ≤ k ∧ k ≤ 1000000000000 := by
  have n16 := f.n16
  have st := f.st
  match i, h with
  | 0, h =>
    injection h with h
    injection h with h
    omega
  | 1, h => cases h
  | 2, h => cases h
  | 3, h => cases h
  | 4, h => cases h
  | 5, h => cases h
  | 6, h =>
    injection h with h
    injection h with h
    rw [← h]
    exact f.sp
  | i + 7, h => simp [papL] at h
theorem shr_int (i : Int) : Shr (.int i) := ⟨Nat.zero_le _, fun xs e => by cases e⟩
theorem shr_iD {xs : List Int} (h : xs.length ≤ 10000) : Shr (iD xs) := by
  refine ⟨by show (xs.map PyData.int).length ≤ _; rw [List.length_map]; exact h, fun ys e r m => ?_⟩
  unfold iD at e
  injection e with e
  rw [← e] at m
  obtain ⟨i, _, rfl⟩ := List.mem_map.mp m
  exact Nat.zero_le _
/-- the paper that is spoilt -/
structure Pf (m : Int) (P0 : Pap) : Prop where
  n : P0.c.n = 2
  S : P0.c.S = [0, m]
  W : P0.c.W = [[0, m], [m, 0]]
  m0 : 6 ≤ m ∧ m ≤ 100
  t1 : 1 ≤ P0.T.length
  t4 : P0.T.length ≤ 4
  wf : WfP P0
section
variable {m : Int} {P0 : Pap} (f0 : Pf m P0)
include f0
/-- of no kind that a paper has -/
theorem b_kind {i : Nat} {d : PyData} (hi : i < 7) (sh : Shr d) (h1 : ∀ k, d ≠ .int k) (h2 : ∀ xs, d ≠ .tuple xs) : BadD (.tuple ((papL P0).set i d)) :=
  bad_set hi sh f0.wf fun p f _ _ _ e _ => by
    rcases kinds e with ⟨k, z⟩ | ⟨xs, z⟩
    · exact h1 k z
    · exact h2 xs z
theorem b_num {i : Nat} {k : Int} (hi : i < 7) (h : k < 0 ∨ 1000000000000 < k) : BadD (.tuple ((papL P0).set i (.int k))) :=
  bad_set hi (shr_int k) f0.wf fun p f _ _ _ e _ => by
    have := no_int f e
    omega
theorem b_start {k : Nat} (h : 2 ≤ k) : BadD (.tuple ((papL P0).set 0 (.int (k : Nat)))) :=
  bad_set (by decide) (shr_int _) f0.wf fun p f _ _ _ e o => by
    have eS := e_S (o 1 (by decide))
    injection e with e
    injection e with e
    have n := f.sl
    rw [eS, f0.S] at n
    have st := f.st
    have n : 2 = p.c.n := n
    omega
theorem mem_shr {xs : List PyData} (h : xs.length ≤ 10000) (g : ∀ d ∈ xs, lenD d ≤ 10000) : Shr (.tuple xs) := ⟨h, fun ys e r mr => by injection e with e; rw [← e] at mr; exact g r mr⟩
omit f0
theorem iD_len {xs : List Int} {n : Nat} (h : xs.length ≤ n) : lenD (iD xs) ≤ n := by
  show (xs.map PyData.int).length ≤ n
  rw [List.length_map]
  exact h
include f0
/-- a tuple with a 0 behind -/
theorem b_behind {i : Nat} {ds : List PyData} (hi : i < 7) (e0 : (papL P0)[i]? = some (.tuple ds)) : BadD (.tuple ((papL P0).set i (.tuple (ds ++ [.int 0])))) := by
  have wf := f0.wf
  have shd : Shr (.tuple (ds ++ [.int 0])) := by
    have m0 := papL_shr wf _ (List.mem_of_getElem? e0)
    have l0 : ds.length ≤ 1001 := by
      have t4 := f0.t4
      have n2 := f0.n
      match i, hi, e0 with
      | 0, _, e0 => cases e0
      | 1, _, e0 => cases e0; rw [List.length_map, wf.sl]; omega
      | 2, _, e0 => cases e0; rw [List.length_map, wf.wl]; omega
      | 3, _, e0 => cases e0; rw [List.length_map]; omega
      | 4, _, e0 => cases e0; rw [List.length_map, wf.kl]; omega
      | 5, _, e0 => cases e0; unfold toI; rw [List.length_map, List.length_map, wf.rl]; omega
      | 6, _, e0 => cases e0
    refine mem_shr f0 (by rw [List.length_append]; show ds.length + 1 ≤ _; omega) fun d md => ?_
    rcases List.mem_append.mp md with z | z
    · exact m0.2 ds rfl d z
    · rw [List.mem_singleton.mp z]; exact Nat.zero_le _
  refine bad_set hi shd wf fun p f _ _ _ e o => ?_
  have last : ∀ {xss : List (List Int)}, xss.map iD = ds ++ [PyData.int 0] → False := fun {xss} h => by
    have : PyData.int 0 ∈ xss.map iD := by rw [h]; exact List.mem_append_right _ List.mem_cons_self
    obtain ⟨r, _, er⟩ := List.mem_map.mp this
    cases er
  match i, hi, e0, e, o with
  | 0, _, e0, _, _ => cases e0
  | 1, _, e0, e, o =>
    cases e0
    have eW := e_W (o 2 (by decide))
    have e := Option.some.inj e
    unfold iD at e
    injection e with e
    have l := congrArg List.length e
    rw [List.length_map, List.length_append, List.length_map, f0.S, f.sl] at l
    have lw := f.w.l
    rw [eW, f0.W] at lw
    have lw : 2 = p.c.n := lw
    have l : p.c.n = 3 := l
    omega
  | 2, _, _, e, _ =>
    have e := Option.some.inj e
    unfold tD at e
    injection e with e
    exact last e
  | 3, _, _, e, _ =>
    have e := Option.some.inj e
    unfold tD at e
    injection e with e
    exact last e
  | 4, _, _, e, _ =>
    have e := Option.some.inj e
    unfold tD at e
    injection e with e
    exact last e
  | 5, _, e0, e, o =>
    cases e0
    have eT := e_T (o 3 (by decide))
    have e := Option.some.inj e
    unfold iD at e
    injection e with e
    have l := congrArg List.length e
    unfold toI at l
    rw [List.length_map, List.length_map, List.length_append, List.length_map, List.length_map, f.rl, eT, wf.rl] at l
    have l : P0.T.length = P0.T.length + 1 := l
    omega
  | 6, _, e0, _, _ => cases e0
theorem b_row {d : PyData} {ds : List PyData} (l : ds.length ≤ 5000) (s : ∀ r ∈ ds, lenD r ≤ 10000) (h : d = .int 2 ∨ d = .bool true) : BadD (.tuple ((papL P0).set 5 (.tuple (d :: ds)))) := by
  refine bad_set (by decide) (mem_shr f0 (by rw [List.length_cons]; omega) fun r mr => ?_) f0.wf fun p f _ _ _ e o => ?_
  · rcases List.mem_cons.mp mr with z | z
    · rcases h with h | h <;> rw [z, h] <;> exact Nat.zero_le _
    · exact s r z
  · have eS := e_S (o 1 (by decide))
    have n := f.sl
    rw [eS, f0.S] at n
    have n : 2 = p.c.n := n
    have e := Option.some.inj e
    unfold iD at e
    injection e with e
    have md : d ∈ (toI p.row).map PyData.int := by rw [e]; exact List.mem_cons_self
    obtain ⟨k, mk, ek⟩ := List.mem_map.mp md
    obtain ⟨q, mq, eq⟩ := List.mem_map.mp mk
    have := f.rn q mq
    rcases h with h | h
    · rw [h] at ek
      injection ek with ek
      omega
    · rw [h] at ek
      cases ek
theorem b_ways {W' : List (List Int)} (l : W'.length ≤ 100) (ls : ∀ r ∈ W', r.length ≤ 100) (h : ∀ c : Pr, c.n = 2 → c.S = [0, m] → c.W = W' → WaysP c → False) : BadD (.tuple ((papL P0).set 2 (tD W'))) := by
  refine bad_set (by decide) (mem_shr f0 (by rw [List.length_map]; omega) fun r mr => ?_) f0.wf fun p f w _ _ e o => ?_
  · obtain ⟨xs, mx, rfl⟩ := List.mem_map.mp mr
    exact Nat.le_trans (iD_len (ls xs mx)) (by decide)
  · have eS := e_S (o 1 (by decide))
    have n := f.sl
    rw [eS, f0.S] at n
    have n : 2 = p.c.n := n
    exact h p.c n.symm (by rw [eS, f0.S]) (tD_inj (Option.some.inj e)) w
theorem b_stands {S' : List Int} (l : S'.length = 2) (h : ∀ c : Pr, c.n = 2 → c.S = S' → c.W = [[0, m], [m, 0]] → WaysP c → False) : BadD (.tuple ((papL P0).set 1 (iD S'))) := by
  refine bad_set (by decide) (shr_iD (by omega)) f0.wf fun p f w _ _ e o => ?_
  have eW := e_W (o 2 (by decide))
  have eS : p.c.S = S' := iD_inj (Option.some.inj e)
  have n := f.sl
  rw [eS, l] at n
  exact h p.c n.symm eS (by rw [eW, f0.W]) w
theorem b_tasks {d : PyData} {ds : List PyData} (l : ds.length ≤ 5000) (sd : lenD d ≤ 10000) (s : ∀ r ∈ ds, lenD r ≤ 10000) (h : ∀ xs : List Int, d = iD xs → (∀ x ∈ xs, Num x) → False) : BadD (.tuple ((papL P0).set 3 (.tuple (d :: ds)))) := by
  refine bad_set (by decide) (mem_shr f0 (by rw [List.length_cons]; omega) fun r mr => ?_) f0.wf fun p f _ _ _ e o => ?_
  · rcases List.mem_cons.mp mr with z | z
    · rw [z]; exact sd
    · exact s r z
  · have e := Option.some.inj e
    unfold tD at e
    injection e with e
    have md : d ∈ p.T.map iD := by rw [e]; exact List.mem_cons_self
    obtain ⟨xs, mx, ex⟩ := List.mem_map.mp md
    exact h xs ex.symm (f.t.r xs mx).2
theorem b_work_short : BadD (.tuple ((papL P0).set 4 (.tuple ((P0.Kw.map iD).drop 1)))) := by
  have wf := f0.wf
  have t4 := f0.t4
  refine bad_set (by decide) (mem_shr f0 (by rw [List.length_drop, List.length_map, wf.kl]; omega) fun r mr => ?_) wf fun p f _ _ _ e o => ?_
  · obtain ⟨xs, mx, rfl⟩ := List.mem_map.mp (List.mem_of_mem_drop mr)
    exact iD_len (by rw [wf.kr xs mx, f0.n]; decide)
  · have eT := e_T (o 3 (by decide))
    have e := Option.some.inj e
    unfold tD at e
    injection e with e
    have l := congrArg List.length e
    rw [List.length_map, List.length_drop, List.length_map, f.k.l, wf.kl, eT] at l
    omega
theorem b_work_high {ds : List PyData} {k : Int} (hk : m < k) (l : ds.length ≤ 5000) (s : ∀ r ∈ ds, lenD r ≤ 10000) : BadD (.tuple ((papL P0).set 4 (.tuple (iD [0, k] :: ds)))) := by
  refine bad_set (by decide) (mem_shr f0 (by rw [List.length_cons]; omega) fun r mr => ?_) f0.wf fun p f _ w _ e o => ?_
  · rcases List.mem_cons.mp mr with z | z
    · rw [z]; exact iD_len (show ([0, k] : List Int).length ≤ 10000 by show 2 ≤ 10000; decide)
    · exact s r z
  · have eS := e_S (o 1 (by decide))
    have eW := e_W (o 2 (by decide))
    have n := f.sl
    rw [eS, f0.S] at n
    have n : 2 = p.c.n := n
    have e := Option.some.inj e
    unfold tD at e
    injection e with e
    cases z : p.Kw with
    | nil => rw [z] at e; cases e
    | cons r rs =>
      rw [z, List.map_cons] at e
      injection e with e _
      have er := iD_inj e
      have := w.1 1 (by omega)
      rw [z, er, eW, f0.W] at this
      have this : k ≤ gI (gR [[0, m], [m, 0]] p.c.start) 1 := this
      have st := f.st
      have m0 := f0.m0
      have : p.c.start = 0 ∨ p.c.start = 1 := by omega
      rcases this with z | z <;> rw [z] at this
      · have this : k ≤ m := this
        omega
      · have this : k ≤ 0 := this
        omega
end
end K1
namespace K1
open PySem PySem.Spec PyProof.Rows L2 Ow Po Z3
abbrev s_law_paper : Stmt := topS 22
abbrev N_law_paper : List Str := ["number", "policy", "k"]
theorem sc_law_paper : FnScope N_law_paper ["number"] (defScope s_law_paper) := ⟨rfl, rfl, rfl, by decide +kernel, rfl, by decide +kernel, by decide +kernel⟩
abbrev s_law_with : Stmt := topS 23
abbrev N_law_with : List Str := ["paper", "index", "value"]
theorem sc_law_with : FnScope N_law_with ["paper", "index", "value"] (defScope s_law_with) := ⟨rfl, rfl, rfl, by decide +kernel, rfl, by decide +kernel, by decide +kernel⟩
abbrev s_law_values : Stmt := topS 24
abbrev N_law_values : List Str := ["paper", "number", "start", "stands", "ways", "tasks", "work", "row", "spent", "bad", "index"]
theorem sc_law_values : FnScope N_law_values ["paper", "number"] (defScope s_law_values) := ⟨rfl, rfl, rfl, by decide +kernel, rfl, by decide +kernel, by decide +kernel⟩
/-- the heap without a -/
def rem (a : Addr) (H : Hp) : Hp := fun b => if b = a then none else H b
theorem rem_le {a : Addr} {H : Hp} : Same (rem a H) H := fun b o e => by
  unfold rem at e
  split at e
  · cases e
  · exact e
theorem rem_ne {a b : Addr} {H : Hp} (n : b ≠ a) : rem a H b = H b := if_neg n
theorem rem_mono {a : Addr} {H H' : Hp} (s : Same H H') : Same (rem a H) (rem a H') := fun b o e => by
  unfold rem at e ⊢
  split at e
  · cases e
  · rename_i n
    rw [if_neg n]
    exact s b o e
theorem rem_upd {a : Addr} {H : Hp} {o : HO} : rem a (upd H a o) = rem a H := by
  funext b
  unfold rem
  by_cases z : b = a
  · rw [if_pos z, if_pos z]
  · rw [if_neg z, if_neg z, upd_ne z]
theorem rem_of {a : Addr} {H H' : Hp} (s : Same H H') (n : H a = none) : Same H (rem a H') := fun b o e => by
  rw [rem_ne (fun z => by rw [z, n] at e; cases e)]
  exact s b o e
theorem sqt_rem {K : PySem.W.Frag} {H : Hp} {a p : Addr} {l xs : List V} (e : H a = some (.lst l)) (h : SqT K H p xs) : SqT K (rem a H) p xs := by
  rcases h with (h | ⟨o, h⟩) | h
  · exact .inl (.inl (by rw [rem_ne (fun z => by rw [z, e] at h; cases h)]; exact h))
  · exact .inl (.inr ⟨o, by rw [rem_ne (fun z => by rw [z, e] at h; cases h)]; exact h⟩)
  · exact .inr h
/-- a list of data that are no papers -/
def Bads (K : PySem.W.Frag) (H : Hp) (a : Addr) (n : Nat) : Prop := ∃ vs, H a = some (.lst vs) ∧ vs.length ≤ n ∧ ∀ v ∈ vs, ∃ d, Dp K (rem a H) v d ∧ BadD d
theorem Bads.app {K : PySem.W.Frag} {H H' : Hp} {a : Addr} {n : Nat} {v : V} {d : PyData} (B : Bads K H a n) (s : Same H H') (hv : Dp K (rem a H') v d) (bd : BadD d) : ∃ vs, H' a = some (.lst vs) ∧ vs.length ≤ n ∧ Bads K (upd H' a (.lst (vs ++ [v]))) a (n + 1) := by
  obtain ⟨vs, e, l, g⟩ := B
  refine ⟨vs, s _ _ e, l, _, upd_same, by rw [List.length_append]; exact Nat.succ_le_succ l, fun u m => ?_⟩
  rw [rem_upd]
  rcases List.mem_append.mp m with z | z
  · obtain ⟨d', hd, b⟩ := g u z
    exact ⟨d', dp_same (rem_mono s) hd, b⟩
  · rw [List.mem_singleton.mp z]
    exact ⟨d, hv, bd⟩
theorem Bads.cat {K : PySem.W.Frag} {H H' : Hp} {a p : Addr} {n m : Nat} {vs zs : List V} (B : Bads K H a n) (e : H a = some (.lst vs)) (s : Same H H') (np : H' p = none) (hz : ∀ v ∈ zs, ∃ d, Dp K H' v d ∧ BadD d) (lz : zs.length ≤ m) : Bads K (upd H' p (.lst (vs ++ zs))) p (n + m) := by
  obtain ⟨vs', e', l, g⟩ := B
  rw [e] at e'
  cases e'
  have sn : Same H' (rem p (upd H' p (.lst (vs ++ zs)))) := rem_of (Same.new np) np
  refine ⟨_, upd_same, by rw [List.length_append]; omega, fun u mu => ?_⟩
  rcases List.mem_append.mp mu with z | z
  · obtain ⟨d', hd, b⟩ := g u z
    exact ⟨d', dp_same sn (dp_same s (dp_same rem_le hd)), b⟩
  · obtain ⟨d', hd, b⟩ := hz u z
    exact ⟨d', dp_same sn hd, b⟩
theorem dpAll_set {K : PySem.W.Frag} {H : Hp} {v : V} {d : PyData} (h : Dp K H v d) : ∀ {vs : List V} {ds : List PyData} {i : Nat}, DpAll K H vs ds → DpAll K H (vs.set i v) (ds.set i d)
  | _, _, _, .nil => .nil
  | _, _, 0, .cons _ t => .cons h t
  | _, _, i + 1, .cons a t => .cons a (dpAll_set h t)
theorem with_dp {K : PySem.W.Frag} {H : Hp} {p : Addr} {vs : List V} {ds : List PyData} {i : Nat} {v : V} {d : PyData} (e : SqT K H p (vs.set i v)) (ha : DpAll K H vs ds) (h : Dp K H v d) : Dp K H (.ref p) (.tuple (ds.set i d)) := .tup e (dpAll_set h ha)
theorem takeSet {α : Type} {xs : List α} {i : Nat} {v : α} (h : i < xs.length) : xs.take i ++ [v] ++ xs.drop (i + 1) = xs.set i v := by
  rw [List.set_eq_take_append_cons_drop, if_pos h, List.append_assoc]
  rfl
def mF (n : Int) : Int := 6 + 2 * (n % 40)
def c2 (n : Int) : Pr := ⟨2, [0, mF n], [[0, mF n], [mF n, 0]], (n % 2).toNat⟩
def t2 (n : Int) (k : Nat) : List (List Int) := (List.range k).map fun (i : Nat) => [2 + (i : Int), n / 4 % 3]
def k2 (n : Int) : Nat := (1 + n % 4).toNat
theorem mF_b (n : Int) : 6 ≤ mF n ∧ mF n ≤ 84 := by
  unfold mF
  omega
theorem c2_good (n : Int) : Good (c2 n) := by
  have b := mF_b n
  have go : ∀ x y : Nat, x < 2 → y < 2 → 0 ≤ gI (gR [[0, mF n], [mF n, 0]] x) y + gI [0, mF n] y - gI [0, mF n] x ∧ (gI (gR [[0, mF n], [mF n, 0]] x) y + gI [0, mF n] y - gI [0, mF n] x) % 2 = 0 := fun x y hx hy => by
    have : x = 0 ∨ x = 1 := by omega
    have : y = 0 ∨ y = 1 := by omega
    rcases ‹x = 0 ∨ x = 1› with rfl | rfl <;> rcases ‹y = 0 ∨ y = 1› with rfl | rfl <;> simp [gI, gR] <;> omega
  refine ⟨by show 0 < 2; decide, rfl, rfl, fun i (hi : i < 2) => ?_, ?_, fun i (hi : i < 2) => ?_, go⟩
  · have : i = 0 ∨ i = 1 := by omega
    rcases this with rfl | rfl <;> rfl
  · show (n % 2).toNat < 2
    omega
  · have : i = 0 ∨ i = 1 := by omega
    rcases this with rfl | rfl <;> rfl
theorem t2_len (n : Int) (k : Nat) : (t2 n k).length = k := by unfold t2; rw [List.length_map, List.length_range]
theorem t2_succ (n : Int) (k : Nat) : t2 n (k + 1) = t2 n k ++ [[2 + (k : Int), n / 4 % 3]] := by
  unfold t2
  rw [List.range_succ, List.map_append]
  rfl
theorem k2_b (n : Int) : 1 ≤ k2 n ∧ k2 n ≤ 4 ∧ ((k2 n : Nat) : Int) = 1 + n % 4 := by
  unfold k2
  omega
theorem t2_bnd (n : Int) : Bnd (c2 n) (t2 n (k2 n)) 100 10 := by
  have b := mF_b n
  have kb := k2_b n
  refine ⟨fun x m => ?_, fun x y (hx : x < 2) (hy : y < 2) => ?_, fun r m => ?_⟩
  · have m : x ∈ [0, mF n] := m
    simp only [List.mem_cons, List.not_mem_nil, or_false] at m
    rcases m with z | z <;> omega
  · show 0 ≤ gI (gR [[0, mF n], [mF n, 0]] x) y ∧ gI (gR [[0, mF n], [mF n, 0]] x) y ≤ 100
    have : x = 0 ∨ x = 1 := by omega
    have : y = 0 ∨ y = 1 := by omega
    rcases ‹x = 0 ∨ x = 1› with rfl | rfl <;> rcases ‹y = 0 ∨ y = 1› with rfl | rfl <;> simp [gI, gR] <;> omega
  · obtain ⟨i, hi, rfl⟩ := List.mem_map.mp m
    have hi := List.mem_range.mp hi
    refine ⟨rfl, fun x mx => ?_⟩
    simp only [List.mem_cons, List.not_mem_nil, or_false] at mx
    rcases mx with z | z <;> omega
def pF (n : Int) : Pap := papP (c2 n) (t2 n (k2 n))
theorem pF_form (n : Int) : FormP (pF n) := papP_form (c2_good n) (by show 2 ≤ 16; decide) (t2_bnd n) (by rw [t2_len]; have := k2_b n; omega) (by decide) (by decide) (by decide)
theorem pF_pf (n : Int) : Pf (mF n) (pF n) := by
  have := k2_b n
  have := mF_b n
  exact ⟨rfl, rfl, rfl, by omega, by show 1 ≤ (t2 n (k2 n)).length; rw [t2_len]; omega, by show (t2 n (k2 n)).length ≤ 4; rw [t2_len]; omega, form_wf (pF_form n)⟩
def spLPaper (K : PySem.W.Frag) : Sp := fun vs H Q _ => ∃ (n : Int), vs = [.int n] ∧ 0 ≤ n ∧ n < 1000 ∧ ∀ H' t, Same H H' → PapAt K H' t (pF n) → Q (.ref t) H'
def spWith (K : PySem.W.Frag) : Sp := fun vs H Q _ => ∃ (a : Addr) (i : Nat) (v : V) (us : List V), vs = [.ref a, .int (i : Nat), v] ∧ SqT K H a us ∧ i < us.length ∧ us.length ≤ 100 ∧ ∀ H' p, Same H H' → SqT K H' p (us.set i v) → Q (.ref p) H'
def spValues (K : PySem.W.Frag) : Sp := fun vs H Q _ => ∃ (a : Addr) (n : Int), vs = [.ref a, .int n] ∧ 0 ≤ n ∧ n < 1000 ∧ PapAt K H a (pF n) ∧ ∀ H' l, Same H H' → Bads K H' l 200 → Q (.ref l) H'
section
variable {P : Program} {w : World} {K : PySem.W.Frag} {mg : Str → Option Value} {base : Heap}
theorem ok_lpaper {f C : Addr} {fd : FuncData} (F : Fun K "_law_paper" "_law_paper" s_law_paper f fd) (T0 : Bl mg) (X : Txt K mg C) (DP : Kmk P w K mg base C 1 ["self", "start", "stands", "ways"] (spInit K C))
    (DV : Kmt P w K mg base C 2 "serve" ["self", "task"] (spServe K C)) (DA : Kmt P w K mg base C 3 "paper" ["self"] (spPaper K C)) :
    FnOk P w K mg base CX0 4 f fd ["number"] (spLPaper K) := by
  refine F.ok sc_law_paper (fun vs H Q E h => ?_) (fun cdv A outer s H vs Q E hr h => ?_)
  · obtain ⟨n, rfl, _⟩ := h
    rfl
  · obtain ⟨n, rfl, h0, h1, q⟩ := h
    have g := c2_good n
    have kb := k2_b n
    have mb := mF_b n
    refine ⟨_, (pss_mid (ps_set (i := 1) sc_law_paper.nd rfl (.inl rfl) (pe_mk DP X.mgC hr (pa_cons (pe_op op_mod (pv 0) pe_int) (pa_cons (pe_lst (pa_cons pe_int (pa_cons (pe_op op_add pe_int (pe_op op_mul pe_int (pe_op op_mod (pv 0) pe_int))) pa_nil))) (pa_cons (pe_lst (pa_cons (pe_lst (pa_cons pe_int (pa_cons (pe_op op_add pe_int (pe_op op_mul pe_int (pe_op op_mod (pv 0) pe_int))) pa_nil))) (pa_cons (pe_lst (pa_cons (pe_op op_add pe_int (pe_op op_mul pe_int (pe_op op_mod (pv 0) pe_int))) (pa_cons pe_int pa_nil))) pa_nil))) pa_nil)))))
      (pss_cons (ps_for PassesOwn.never rfl (pi_range1 (by rfl) T0.range (pa_cons (pe_op op_add pe_int (pe_op op_mod (pv 0) pe_int)) pa_nil)) (pg_name (i := 2) sc_law_paper.nd rfl (.inl rfl)) (pss_one (ps_expr (pe_mt DV hr (pv 1) (pa_cons (pe_lst (pa_cons (pe_op op_add pe_int (pv 2)) (pa_cons (pe_op op_mod (pe_op op_fdiv (pv 0) pe_int) pe_int) pa_nil))) pa_nil)))))
      (pss_one (ps_ret (pe_mt0 DA hr (pv 1)))))), ?_⟩
    refine ⟨fun σ' H' => ∃ (x sA wA tA kA : Addr) (Z : Addr → Prop), σ' = [some (.int n), some (.ref x), none] ∧ PolAt C Z H' x sA wA tA kA (c2 n) (c2 n).start 0 (t2 n 0) (worksL (c2 n) (t2 n 0)) ∧ Same H H' ∧ H x = none ∧ H tA = none ∧ H kA = none, ?_, ?_⟩
    · refine ⟨_, rfl, _, _, rfl, rfl, (by show (0 : Int) < 2; decide), _, rfl, _, _, rfl, rfl, (by show (0 : Int) < 40; decide), _, _, rfl, rfl, .inl ⟨by decide, by decide⟩, _, _, rfl, rfl, by show 2 ≤ sizeLine; decide, fun la nla => ?_⟩
      dsimp only
      rw [show (6 : Int) + 2 * (n % 40) = mF n from rfl]
      have s1 := Same.new (o := .lst [.int 0, .int (mF n)]) nla
      have ea : LI (upd H la (.lst [.int 0, .int (mF n)])) la [0, mF n] := upd_same
      generalize (upd H la (.lst [.int 0, .int (mF n)])) = H1 at s1 ea ⊢
      refine ⟨_, rfl, _, _, rfl, rfl, (by show (0 : Int) < 40; decide), _, _, rfl, rfl, .inl ⟨by decide, by decide⟩, _, _, rfl, rfl, by show 2 ≤ sizeLine; decide, fun lb nlb => ?_⟩
      dsimp only
      rw [show (6 : Int) + 2 * (n % 40) = mF n from rfl]
      have s2 := Same.new (o := .lst [.int 0, .int (mF n)]) nlb
      have eb : LI (upd H1 lb (.lst [.int 0, .int (mF n)])) lb [0, mF n] := upd_same
      generalize (upd H1 lb (.lst [.int 0, .int (mF n)])) = H2 at s2 eb ⊢
      refine ⟨_, rfl, _, _, rfl, rfl, (by show (0 : Int) < 40; decide), _, _, rfl, rfl, .inl ⟨by decide, by decide⟩, _, _, rfl, rfl, by show 2 ≤ sizeLine; decide, fun lc nlc => ?_⟩
      dsimp only
      rw [show (6 : Int) + 2 * (n % 40) = mF n from rfl]
      have s3 := Same.new (o := .lst [.int (mF n), .int 0]) nlc
      have ec : LI (upd H2 lc (.lst [.int (mF n), .int 0])) lc [mF n, 0] := upd_same
      generalize (upd H2 lc (.lst [.int (mF n), .int 0])) = H3 at s3 ec ⊢
      refine ⟨by show 2 ≤ sizeLine; decide, fun ld nld => ?_⟩
      have s4 := Same.new (o := .lst [.ref lb, .ref lc]) nld
      have ed : (upd H3 ld (.lst [.ref lb, .ref lc])) ld = some (.lst ([lb, lc].map V.ref)) := upd_same
      generalize (upd H3 ld (.lst [.ref lb, .ref lc])) = H4 at s4 ed ⊢
      have s04 := ((s1.trans s2).trans s3).trans s4
      have ea4 := ea.same ((s2.trans s3).trans s4)
      have eb4 := eb.same (s3.trans s4)
      have ec4 := ec.same s4
      have ed4 : LL (fun _ => False) H4 ld (c2 n).W := ⟨[lb, lc], ed, rfl, fun i t xs e1 e2 => by
        match i, e1, e2 with
        | 0, e1, e2 => cases e1; cases e2; exact eb4
        | 1, e1, e2 => cases e1; cases e2; exact ec4
        | i + 2, e1, e2 => simp at e1, fun _ _ z => z⟩
      clear s1 s2 s3 s4 ea eb ec ed eb4 ec4
      -- policy
      intro x dx nx ndx nex
      have sB : Same H4 (upd (upd H4 dx (.own x)) x (.ins C dx [])) := Same.over (Same.new ndx) nx
      refine ⟨x, dx, la, ld, c2 n, _, congrArg (fun z : Int => [V.ref x, V.int z, V.ref la, V.ref ld]) (show n % 2 = ((n % 2).toNat : Int) by omega), upd_same, ea4.same sB, ed4.same sB, g, by show 2 ≤ 1000; decide, fun H5 sA wA tA kA D5 keep fr => ⟨rfl, ?_⟩⟩
      have s5 : Same H4 H5 := fun b o e => keep b o (sB b o e) (ne_of_none e nx)
      have ntA : H4 tA = none := Same.free sB fr.2.2.1
      have nkA : H4 kA = none := Same.free sB fr.2.2.2
      exact ⟨x, sA, wA, tA, kA, _, rfl, D5, s04.trans s5, s04.free nx, s04.free ntA, s04.free nkA⟩
    rintro σ H5 ⟨x, sA, wA, tA, kA, Z, rfl, D5, s5, nx, ntA, nkA⟩
    refine ⟨_, rfl, _, _, rfl, rfl, (by show (0 : Int) < 4; decide), _, _, rfl, rfl, _, rfl, by omega, by omega, ?_⟩
    refine for_range (lo := 0) (n := (1 + n % 4).toNat) (fun k σ H' => ∃ (now : Nat) (spent : Int) (v2 : Option V), σ = [some (.int n), some (.ref x), v2] ∧ now < (c2 n).n ∧ PolAt C Z H' x sA wA tA kA (c2 n) now spent (t2 n k) (worksL (c2 n) (t2 n k)) ∧ Same H H')
      ⟨(c2 n).start, 0, none, rfl, g.st, D5, s5⟩ ?_ ?_
    · rintro k σ H7 hk ⟨now, spent, v2, rfl, hnow, D7, s7⟩
      have hk : k < k2 n := hk
      obtain ⟨dx7, ob7⟩ := D7.ob
      refine ⟨_, rfl, x, dx7, _, rfl, ob7, polF_no_serve _ _ _ _ _ _ _, _, rfl, _, _, rfl, rfl, _, rfl, _, _, rfl, rfl, ⟨by decide, by decide⟩, _, _, rfl, rfl, (by show (0 : Int) < 3; decide), by show 2 ≤ sizeLine; decide, fun l nl => ?_⟩
      dsimp only
      rw [Int.zero_add]
      have s8 := Same.new (o := .lst [.int (2 + (k : Int)), .int (n / 4 % 3)]) nl
      have el : LI (upd H7 l (.lst [.int (2 + (k : Int)), .int (n / 4 % 3)])) l [2 + (k : Int), n / 4 % 3] := upd_same
      generalize (upd H7 l (.lst [.int (2 + (k : Int)), .int (n / 4 % 3)])) = H8 at s8 el ⊢
      have D8 := D7.same s8
      obtain ⟨_, etA, _⟩ := D7.t.ex
      obtain ⟨_, ekA, _⟩ := D7.k.ex
      have lw : (wk (c2 n) (t2 n k)).length = (c2 n).n := wk_len g _
      refine ⟨Z, x, l, sA, wA, tA, kA, c2 n, now, spent, t2 n k, worksL (c2 n) (t2 n k), wk (c2 n) (t2 n k), [2 + (k : Int), n / 4 % 3], rfl, D8, g, by show 2 ≤ 1000; decide, el, rfl, (ne_of_none etA nl).symm, (ne_of_none ekA nl).symm, worksL_len _ _, ?_, lw, hnow, by rw [t2_len]; omega, fun H11 D11 B11 => ?_⟩
      · rw [worksL_at _ (Nat.le_refl _), List.take_length]
      rw [← worksL_snoc, ← t2_succ] at D11
      exact ⟨_, _, _, rfl, chF_lt g hnow, D11, fun b o q => B11 b o (fun z => by
        rcases z with z | z | z
        · rw [z, nx] at q; cases q
        · rw [z, ntA] at q; cases q
        · rw [z, nkA] at q; cases q) (s8 _ _ (s7 b o q))⟩
    rintro σ H7 ⟨now, spent, v2, rfl, hnow, D7, s7⟩
    have D7 : PolAt C Z H7 x sA wA tA kA (c2 n) now spent (t2 n (k2 n)) (worksL (c2 n) (t2 n (k2 n))) := D7
    obtain ⟨dx7, ob7⟩ := D7.ob
    have B := t2_bnd n
    refine ⟨_, rfl, x, dx7, _, rfl, ob7, polF_no_paper _ _ _ _ _ _ _, Z, x, sA, wA, tA, kA, c2 n, now, spent, t2 n (k2 n), rfl, D7, g, by show 2 ≤ 1000; decide, by rw [t2_len]; omega, fun e m => (B.t e m).1, fun H8 t s8 Pa => ?_⟩
    exact q _ t (s7.trans s8) Pa
theorem ok_with {f : Addr} {fd : FuncData} (F : Fun K "_law_with" "_law_with" s_law_with f fd) :
    FnOk P w K mg base CX0 1 f fd ["paper", "index", "value"] (spWith K) := by
  refine F.ok sc_law_with (fun vs H Q E h => ?_) (fun cdv A outer s H vs Q E hr h => ?_)
  · obtain ⟨a, i, v, us, rfl, _⟩ := h
    rfl
  · obtain ⟨a, i, v, us, rfl, hs, hi, hl, q⟩ := h
    refine ⟨_, (pss_one (ps_ret (pe_op op_catA (pe_op op_catA (pe_slice sl_tupA (pv 0) po_none (po_some (pv 1))) (pe_tup (pa_cons (pv 2) pa_nil))) (pe_slice sl_tupA (pv 0) (po_some (pe_op op_add (pv 1) pe_int)) po_none)))), ?_⟩
    refine ⟨_, rfl, _, rfl, _, rfl, cutA hs fun p1 H1 s1 e1 => ?_⟩
    rw [cut_to] at e1
    refine ⟨_, rfl, by show 1 ≤ sizeLine; decide, fun t nt => ?_⟩
    have s2 := Same.new (o := .tup [v]) nt
    refine catA (sqt_same s2 e1) (SqT.of upd_same) (by rw [List.length_take]; exact Nat.le_of_lt (small (show min i us.length + 1 ≤ 2000 by omega) (by decide))) fun p2 H4 s4 e4 => ?_
    have s34 := (s1.trans s2).trans s4
    refine ⟨_, rfl, _, rfl, _, _, rfl, rfl, _, rfl, ?_⟩
    dsimp only [tNoPart]
    refine cutA (sqt_same s34 hs) fun p3 H5 s5 e5 => ?_
    rw [show (i : Int) + 1 = ((i + 1 : Nat) : Int) by omega, cut_from] at e5
    refine catA (sqt_same s5 e4) e5 (by rw [List.length_append, List.length_take, List.length_drop]; exact Nat.le_of_lt (small (show min i us.length + 1 + (us.length - (i + 1)) ≤ 3000 by omega) (by decide))) fun p4 H6 s6 e6 => ?_
    rw [takeSet hi] at e6
    exact q _ p4 ((s34.trans s5).trans s6) e6
end
end K1
namespace K1
open PySem PySem.Spec PyProof.Rows L2 Ow Po Z3
theorem bad_list {ds : List PyData} : BadD (.list ds) := bad_no fun xs e => by cases e
theorem pap_all {K : PySem.W.Frag} {H : Hp} {a : Addr} {p : Pap} (h : PapAt K H a p) : ∃ vS vW vT vK vR, SqT K H a [.int (p.c.start : Nat), vS, vW, vT, vK, vR, .int p.spent] ∧ DpAll K H [.int (p.c.start : Nat), vS, vW, vT, vK, vR, .int p.spent] (papL p) ∧ TI K H vS p.c.S ∧ TT K H vW p.c.W ∧ TT K H vT p.T ∧ TT K H vK p.Kw ∧ TI K H vR (toI p.row) := by
  obtain ⟨vS, vW, vT, vK, vR, e, h1, h2, h3, h4, h5⟩ := h.ex
  exact ⟨vS, vW, vT, vK, vR, e, .cons (.int _) (.cons (ti_dp h1) (.cons (tt_dp h2) (.cons (tt_dp h3) (.cons (tt_dp h4) (.cons (ti_dp h5) (.cons (.int _) .nil)))))), h1, h2, h3, h4, h5⟩
theorem dpAll_drop {K : PySem.W.Frag} {H : Hp} : ∀ {vs : List V} {ds : List PyData} {i : Nat}, DpAll K H vs ds → DpAll K H (vs.drop i) (ds.drop i)
  | _, _, 0, h => h
  | _, _, i + 1, .nil => .nil
  | _, _, i + 1, .cons _ t => dpAll_drop (i := i) t
theorem dpAll_take {K : PySem.W.Frag} {H : Hp} : ∀ {vs : List V} {ds : List PyData} {i : Nat}, DpAll K H vs ds → DpAll K H (vs.take i) (ds.take i)
  | _, _, 0, _ => .nil
  | _, _, i + 1, .nil => .nil
  | _, _, i + 1, .cons h t => .cons h (dpAll_take (i := i) t)
theorem dpAll_cat {K : PySem.W.Frag} {H : Hp} : ∀ {vs us : List V} {ds es : List PyData}, DpAll K H vs ds → DpAll K H us es → DpAll K H (vs ++ us) (ds ++ es)
  | _, _, _, _, .nil, h => h
  | _, _, _, _, .cons h t, g => .cons h (dpAll_cat t g)
theorem shr_papL {p : Pap} (f : WfP p) {i : Nat} {d : PyData} (h : (papL p)[i]? = some d) : Shr d := papL_shr f d (List.mem_of_getElem? h)
theorem TI.rem {K : PySem.W.Frag} {H : Hp} {a : Addr} {l : List V} {v : V} {xs : List Int} (e : H a = some (.lst l)) (h : TI K H v xs) : TI K (rem a H) v xs := by
  obtain ⟨b, eb, hb⟩ := h
  exact ⟨b, eb, sqt_rem e hb⟩
theorem TT.rem {K : PySem.W.Frag} {H : Hp} {a : Addr} {l : List V} {v : V} {xss : List (List Int)} (e : H a = some (.lst l)) (h : TT K H v xss) : TT K (rem a H) v xss := by
  obtain ⟨b, vs, eb, hb, ln, g⟩ := h
  exact ⟨b, vs, eb, sqt_rem e hb, ln, fun i u xs e1 e2 => (g i u xs e1 e2).rem e⟩
theorem tt2 {K : PySem.W.Frag} {H : Hp} {t : Addr} {u v : V} {xs ys : List Int} (e : SqT K H t [u, v]) (h1 : TI K H u xs) (h2 : TI K H v ys) : TT K H (.ref t) [xs, ys] := by
  refine ⟨t, _, rfl, e, rfl, fun i w zs e1 e2 => ?_⟩
  match i, e1, e2 with
  | 0, e1, e2 => cases e1; cases e2; exact h1
  | 1, e1, e2 => cases e1; cases e2; exact h2
  | i + 2, e1, e2 => simp at e1
theorem rows2 {xs ys : List Int} (h1 : xs.length = 2) (h2 : ys.length = 2) : ∀ r ∈ [xs, ys], r.length ≤ 100 := fun r m => by
  simp only [List.mem_cons, List.not_mem_nil, or_false] at m
  rcases m with z | z <;> rw [z] <;> omega
theorem rowsS {xss : List (List Int)} {n k : Nat} (h : ∀ r ∈ xss, r.length = n) (hn : n ≤ 10000 := by first | (rw [f0.n]; decide) | omega) : ∀ r ∈ (xss.map iD).drop k, lenD r ≤ 10000 := fun r mr => by
  obtain ⟨xs, mx, rfl⟩ := List.mem_map.mp (List.mem_of_mem_drop mr)
  exact iD_len (by rw [h xs mx]; exact hn)
theorem ttAll {K : PySem.W.Frag} {H : Hp} {vs : List V} {xss : List (List Int)} (l : vs.length = xss.length) (g : ∀ (i : Nat) (u : V) (xs : List Int), vs[i]? = some u → xss[i]? = some xs → TI K H u xs) : DpAll K H vs (xss.map iD) := by
  refine dpAll_of (by rw [List.length_map, l]) fun i u d e1 e2 => ?_
  rw [List.getElem?_map] at e2
  cases z : xss[i]? with
  | none => rw [z] at e2; cases e2
  | some xs => rw [z] at e2; cases e2; exact ti_dp (g i u xs e1 z)
theorem bw1 {m : Int} (mb : 6 ≤ m ∧ m ≤ 84) : ∀ c : Pr, c.n = 2 → c.S = [0, m] → c.W = [[0, m + 1], [m, 0]] → WaysP c → False := fun c n s w h => by
  have := (h.2 0 1 (by omega) (by omega)).2
  unfold tg at this
  rw [s, w] at this
  have this : (m + 1 + m - 0) % 2 = 0 := this
  omega
theorem bw2 {m : Int} (mb : 6 ≤ m ∧ m ≤ 84) : ∀ c : Pr, c.n = 2 → c.S = [0, m] → c.W = [[0, m], [m + 1, 0]] → WaysP c → False := fun c n s w h => by
  have := (h.2 1 0 (by omega) (by omega)).2
  unfold tg at this
  rw [s, w] at this
  have this : (m + 1 + 0 - m) % 2 = 0 := this
  omega
theorem bw3 {m : Int} : ∀ c : Pr, c.n = 2 → c.S = [0, m] → c.W = [[2, m], [m, 0]] → WaysP c → False := fun c n s w h => by
  have := h.1 0 (by omega)
  rw [w] at this
  have this : (2 : Int) = 0 := this
  omega
theorem bs1 {m : Int} (mb : 6 ≤ m ∧ m ≤ 84) : ∀ c : Pr, c.n = 2 → c.S = [0, m + 2 * m + 2] → c.W = [[0, m], [m, 0]] → WaysP c → False := fun c n s w h => by
  have := (h.2 1 0 (by omega) (by omega)).1
  unfold tg at this
  rw [s, w] at this
  have this : 0 ≤ m + 0 - (m + 2 * m + 2) := this
  omega
section
variable {P : Program} {w : World} {K : PySem.W.Frag} {mg : Str → Option Value} {base : Heap}
theorem ok_values {f : Addr} {fd : FuncData} (F : Fun K "_law_values" "_law_values" s_law_values f fd) (T0 : Bl mg) (D_law_with : Kn P w K mg base 1 "_law_with" ["paper", "index", "value"] (spWith K)) :
    FnOk P w K mg base CX0 2 f fd ["paper", "number"] (spValues K) := by
  refine F.ok sc_law_values (fun vs H Q E h => ?_) (fun cdv A outer s H vs Q E hr h => ?_)
  · obtain ⟨a, n, rfl, _⟩ := h
    rfl
  · obtain ⟨a, n, rfl, h0, h1, Pa, q⟩ := h
    have f0 := pF_pf n
    have mb := mF_b n
    obtain ⟨vS, vW, vT, vK, vR, et, ha, tS, tW, tT, tK, tR⟩ := pap_all Pa
    generalize pF n = P0 at *
    generalize mF n = m at *
    have wf := f0.wf
    refine ⟨_, (pss_cons (ps_asg (pv 0) (pg_tup rfl (pgs_cons (pg_name (i := 2) sc_law_values.nd rfl (.inl rfl)) (pgs_cons (pg_name (i := 3) sc_law_values.nd rfl (.inl rfl)) (pgs_cons (pg_name (i := 4) sc_law_values.nd rfl (.inl rfl)) (pgs_cons (pg_name (i := 5) sc_law_values.nd rfl (.inl rfl)) (pgs_cons (pg_name (i := 6) sc_law_values.nd rfl (.inl rfl)) (pgs_cons (pg_name (i := 7) sc_law_values.nd rfl (.inl rfl)) (pgs_cons (pg_name (i := 8) sc_law_values.nd rfl (.inl rfl)) pgs_nil)))))))))
      (pss_cons (ps_set (i := 9) sc_law_values.nd rfl (.inl rfl) (pe_lst (pa_cons pe_non (pa_cons pe_bl (pa_cons (pv 1) (pa_cons pe_str (pa_cons (pe_tup pa_nil) (pa_cons (pe_lst pa_nil) (pa_cons (pe_callTy call_list_of (by rfl) T0.list (by decide +kernel) (pa_cons (pv 0) pa_nil)) (pa_cons (pe_slice sl_tupA (pv 0) po_none (po_some pe_int)) (pa_cons (pe_op op_catA (pv 0) (pe_tup (pa_cons pe_int pa_nil))) pa_nil)))))))))))
      (pss_cons (ps_for PassesOwn.never rfl (pi_range1 (by rfl) T0.range (pa_cons pe_int pa_nil)) (pg_name (i := 10) sc_law_values.nd rfl (.inl rfl)) (pss_cons (ps_set (i := 9) sc_law_values.nd rfl (.inl rfl) (pe_op op_cat (pv 9) (pe_lst (pa_cons (pe_kn D_law_with hr (pa_cons (pv 0) (pa_cons (pv 10) (pa_cons pe_non pa_nil)))) (pa_cons (pe_kn D_law_with hr (pa_cons (pv 0) (pa_cons (pv 10) (pa_cons pe_str pa_nil)))) (pa_cons (pe_kn D_law_with hr (pa_cons (pv 0) (pa_cons (pv 10) (pa_cons (pe_un un_neg pe_int) pa_nil)))) pa_nil))))))
      (pss_one (ps_if (pt_val (pe_callB call_isi (by rfl) T0.isinstance (by decide +kernel) (pa_cons (pe_ix ix_tup (pv 0) (pv 10) (fun _ _ => rfl)) (pa_cons (pe_ty "tuple" (by rfl) T0.tuple (by decide +kernel)) pa_nil)))) (pss_one (ps_set (i := 9) sc_law_values.nd rfl (.inl rfl) (pe_op op_cat (pv 9) (pe_lst (pa_cons (pe_kn D_law_with hr (pa_cons (pv 0) (pa_cons (pv 10) (pa_cons (pe_callTy call_list_of (by rfl) T0.list (by decide +kernel) (pa_cons (pe_ix ix_tup (pv 0) (pv 10) (fun _ _ => rfl)) pa_nil)) pa_nil)))) (pa_cons (pe_kn D_law_with hr (pa_cons (pv 0) (pa_cons (pv 10) (pa_cons (pe_op op_catA (pe_ix ix_tup (pv 0) (pv 10) (fun _ _ => rfl)) (pe_tup (pa_cons pe_int pa_nil))) pa_nil)))) pa_nil)))))) (pss_one (ps_set (i := 9) sc_law_values.nd rfl (.inl rfl) (pe_op op_cat (pv 9) (pe_lst (pa_cons (pe_kn D_law_with hr (pa_cons (pv 0) (pa_cons (pv 10) (pa_cons pe_bl pa_nil)))) (pa_cons (pe_kn D_law_with hr (pa_cons (pv 0) (pa_cons (pv 10) (pa_cons (pe_op op_add (pe_op op_add (pe_op op_pow pe_int pe_int) pe_int) (pv 1)) pa_nil)))) pa_nil))))))))))
      (pss_cons (ps_set (i := 9) sc_law_values.nd rfl (.inl rfl) (pe_op op_cat (pv 9) (pe_lst (pa_cons (pe_kn D_law_with hr (pa_cons (pv 0) (pa_cons pe_int (pa_cons pe_int pa_nil)))) (pa_cons (pe_kn D_law_with hr (pa_cons (pv 0) (pa_cons pe_int (pa_cons (pe_op op_catA (pe_tup (pa_cons pe_int pa_nil)) (pe_slice sl_tupA (pv 7) (po_some pe_int) po_none)) pa_nil)))) (pa_cons (pe_kn D_law_with hr (pa_cons (pv 0) (pa_cons pe_int (pa_cons (pe_op op_catA (pe_tup (pa_cons pe_bl pa_nil)) (pe_slice sl_tupA (pv 7) (po_some pe_int) po_none)) pa_nil)))) pa_nil))))))
      (pss_cons (ps_expr (pe_bm PySem.F.plainAttrs_list PySem.F.slot_list_append PySem.F.type_list_append mt_append (pv 9) (pa_cons (pe_kn D_law_with hr (pa_cons (pv 0) (pa_cons pe_int (pa_cons (pe_tup (pa_cons (pe_tup (pa_cons pe_int (pa_cons (pe_op op_add (pe_ix ix_tup (pe_ix ix_tup (pv 4) pe_int (fun _ _ => rfl)) pe_int (fun _ _ => rfl)) pe_int) pa_nil))) (pa_cons (pe_ix ix_tup (pv 4) pe_int (fun _ _ => rfl)) pa_nil))) pa_nil)))) pa_nil)))
      (pss_cons (ps_expr (pe_bm PySem.F.plainAttrs_list PySem.F.slot_list_append PySem.F.type_list_append mt_append (pv 9) (pa_cons (pe_kn D_law_with hr (pa_cons (pv 0) (pa_cons pe_int (pa_cons (pe_tup (pa_cons (pe_ix ix_tup (pv 4) pe_int (fun _ _ => rfl)) (pa_cons (pe_tup (pa_cons (pe_op op_add (pe_ix ix_tup (pe_ix ix_tup (pv 4) pe_int (fun _ _ => rfl)) pe_int (fun _ _ => rfl)) pe_int) (pa_cons pe_int pa_nil))) pa_nil))) pa_nil)))) pa_nil)))
      (pss_cons (ps_expr (pe_bm PySem.F.plainAttrs_list PySem.F.slot_list_append PySem.F.type_list_append mt_append (pv 9) (pa_cons (pe_kn D_law_with hr (pa_cons (pv 0) (pa_cons pe_int (pa_cons (pe_tup (pa_cons (pe_tup (pa_cons pe_int (pa_cons (pe_ix ix_tup (pe_ix ix_tup (pv 4) pe_int (fun _ _ => rfl)) pe_int (fun _ _ => rfl)) pa_nil))) (pa_cons (pe_ix ix_tup (pv 4) pe_int (fun _ _ => rfl)) pa_nil))) pa_nil)))) pa_nil)))
      (pss_cons (ps_expr (pe_bm PySem.F.plainAttrs_list PySem.F.slot_list_append PySem.F.type_list_append mt_append (pv 9) (pa_cons (pe_kn D_law_with hr (pa_cons (pv 0) (pa_cons pe_int (pa_cons (pe_tup (pa_cons (pe_ix ix_tup (pv 3) pe_int (fun _ _ => rfl)) (pa_cons (pe_op op_add (pe_op op_add (pe_ix ix_tup (pv 3) pe_int (fun _ _ => rfl)) (pe_op op_mul pe_int (pe_ix ix_tup (pe_ix ix_tup (pv 4) pe_int (fun _ _ => rfl)) pe_int (fun _ _ => rfl)))) pe_int) pa_nil))) pa_nil)))) pa_nil)))
      (pss_cons (ps_expr (pe_bm PySem.F.plainAttrs_list PySem.F.slot_list_append PySem.F.type_list_append mt_append (pv 9) (pa_cons (pe_kn D_law_with hr (pa_cons (pv 0) (pa_cons pe_int (pa_cons (pe_op op_catA (pe_tup (pa_cons (pe_callTy call_list_of (by rfl) T0.list (by decide +kernel) (pa_cons (pe_ix ix_tup (pv 5) pe_int (fun _ _ => rfl)) pa_nil)) pa_nil)) (pe_slice sl_tupA (pv 5) (po_some pe_int) po_none)) pa_nil)))) pa_nil)))
      (pss_cons (ps_expr (pe_bm PySem.F.plainAttrs_list PySem.F.slot_list_append PySem.F.type_list_append mt_append (pv 9) (pa_cons (pe_kn D_law_with hr (pa_cons (pv 0) (pa_cons pe_int (pa_cons (pe_op op_catA (pe_tup (pa_cons (pe_tup (pa_cons (pe_ix ix_tup (pe_ix ix_tup (pv 5) pe_int (fun _ _ => rfl)) pe_int (fun _ _ => rfl)) (pa_cons (pe_un un_neg pe_int) pa_nil))) pa_nil)) (pe_slice sl_tupA (pv 5) (po_some pe_int) po_none)) pa_nil)))) pa_nil)))
      (pss_cons (ps_expr (pe_bm PySem.F.plainAttrs_list PySem.F.slot_list_append PySem.F.type_list_append mt_append (pv 9) (pa_cons (pe_kn D_law_with hr (pa_cons (pv 0) (pa_cons pe_int (pa_cons (pe_slice sl_tupA (pv 6) (po_some pe_int) po_none) pa_nil)))) pa_nil)))
      (pss_cons (ps_expr (pe_bm PySem.F.plainAttrs_list PySem.F.slot_list_append PySem.F.type_list_append mt_append (pv 9) (pa_cons (pe_kn D_law_with hr (pa_cons (pv 0) (pa_cons pe_int (pa_cons (pe_op op_catA (pe_tup (pa_cons (pe_tup (pa_cons pe_int (pa_cons (pe_op op_add (pe_ix ix_tup (pe_ix ix_tup (pv 4) pe_int (fun _ _ => rfl)) pe_int (fun _ _ => rfl)) (pe_op op_pow pe_int pe_int)) pa_nil))) pa_nil)) (pe_slice sl_tupA (pv 6) (po_some pe_int) po_none)) pa_nil)))) pa_nil)))
      (pss_one (ps_ret (pv 9))))))))))))))), ?_⟩
    refine ⟨_, rfl, a, _, rfl, et, rfl, _, _, rfl, _, _, rfl, _, _, rfl, _, _, rfl, _, _, rfl, _, _, rfl, _, _, rfl, rfl, ?_⟩
    -- the first nine
    refine ⟨_, rfl, by show 0 ≤ sizeLine; decide, fun t1 nt1 => ⟨by show 0 ≤ sizeLine; decide, fun l1 nl1 => ?_⟩⟩
    have s1 : Same H (upd (upd H t1 (.tup [])) l1 (.lst [])) := (Same.new nt1).trans (Same.new nl1)
    have d1 : Dp K (upd (upd H t1 (.tup [])) l1 (.lst [])) (.ref t1) (.tuple []) := .tup (sqt_same (Same.new nl1) (SqT.of upd_same)) .nil
    have d2 : Dp K (upd (upd H t1 (.tup [])) l1 (.lst [])) (.ref l1) (.list []) := .lst (SqL.of upd_same) .nil
    generalize (upd (upd H t1 (.tup [])) l1 (.lst [])) = H1 at s1 d1 d2 ⊢
    refine ⟨_, rfl, a, _, rfl, .inr (sqt_same s1 et), fun l2 nl2 => ?_⟩
    have s2 := Same.new (o := .lst [.int (P0.c.start : Nat), vS, vW, vT, vK, vR, .int P0.spent]) nl2
    have d3 : Dp K (upd H1 l2 (.lst [.int (P0.c.start : Nat), vS, vW, vT, vK, vR, .int P0.spent])) (.ref l2) (.list (papL P0)) := .lst (SqL.of upd_same) (dpAll_same (s1.trans s2) ha)
    generalize (upd H1 l2 (.lst [.int (P0.c.start : Nat), vS, vW, vT, vK, vR, .int P0.spent])) = H2 at s2 d3 ⊢
    have s02 := s1.trans s2
    refine ⟨_, rfl, _, rfl, cutA (sqt_same s02 et) fun p3 H3 s3 e3 => ?_⟩
    rw [show (6 : Int) = ((6 : Nat) : Int) from rfl, cut_to] at e3
    have s03 := s02.trans s3
    have d4 : Dp K H3 (.ref p3) (.tuple ((papL P0).take 6)) := .tup e3 (dpAll_take (dpAll_same s03 ha))
    refine ⟨_, rfl, by show 1 ≤ sizeLine; decide, fun t4 nt4 => ?_⟩
    have s4 := Same.new (o := .tup [.int 0]) nt4
    have s04 := s03.trans s4
    refine catA (sqt_same s04 et) (SqT.of upd_same) (by show 8 ≤ sizeLine; decide) fun p5 H5 s5 e5 => ?_
    have s05 := s04.trans s5
    have d5 : Dp K H5 (.ref p5) (.tuple (papL P0 ++ [.int 0])) := .tup e5 (dpAll_cat (dpAll_same s05 ha) (.cons (.int 0) .nil))
    refine ⟨by show 9 ≤ sizeLine; decide, fun lb nlb => ?_⟩
    have sh := papL_shr wf
    have B0 : Bads K (upd H5 lb (.lst [.non, .bl true, .int n, .str "paper", .ref t1, .ref l1, .ref l2, .ref p3, .ref p5])) lb 9 := by
      have sn : Same H5 (rem lb (upd H5 lb (.lst [.non, .bl true, .int n, .str "paper", .ref t1, .ref l1, .ref l2, .ref p3, .ref p5]))) := rem_of (Same.new nlb) nlb
      have s35 := s4.trans s5
      refine ⟨_, upd_same, Nat.le_refl _, fun v mv => ?_⟩
      simp only [List.mem_cons, List.not_mem_nil, or_false] at mv
      rcases mv with z | z | z | z | z | z | z | z | z <;> rw [z]
      · exact ⟨_, .non, bad_no fun xs e => by cases e⟩
      · exact ⟨_, .bl true, bad_no fun xs e => by cases e⟩
      · exact ⟨_, .int n, bad_no fun xs e => by cases e⟩
      · exact ⟨_, .str _, bad_no fun xs e => by cases e⟩
      · exact ⟨_, dp_same sn (dp_same ((s2.trans s3).trans s35) d1), bad_len (by decide) fun r m => nomatch m⟩
      · exact ⟨_, dp_same sn (dp_same ((s2.trans s3).trans s35) d2), bad_list⟩
      · exact ⟨_, dp_same sn (dp_same (s3.trans s35) d3), bad_list⟩
      · exact ⟨_, dp_same sn (dp_same s35 d4), bad_len (by show 6 ≠ 7; decide) fun r m => sh r (List.mem_of_mem_take m)⟩
      · refine ⟨_, dp_same sn d5, bad_len (by show 8 ≠ 7; decide) fun r m => ?_⟩
        rcases List.mem_append.mp m with z | z
        · exact sh r z
        · rw [List.mem_singleton.mp z]; exact shr_int 0
    have S0 := s05.trans (Same.new (o := .lst [.non, .bl true, .int n, .str "paper", .ref t1, .ref l1, .ref l2, .ref p3, .ref p5]) nlb)
    generalize (upd H5 lb (.lst [.non, .bl true, .int n, .str "paper", .ref t1, .ref l1, .ref l2, .ref p3, .ref p5])) = H6 at B0 S0 ⊢
    have nlH : H lb = none := s05.free nlb
    clear s1 s2 s3 s4 s5 s02 s03 s04 s05 d1 d2 d3 d4 d5 e3 e5 nt1 nl1 nl2 nt4 nlb sh
    -- the loop
    refine ⟨_, rfl, by decide, by decide, for_range (lo := 0) (n := 7) (fun k σ H' => ∃ lb v10, σ = [some (.ref a), some (.int n), some (.int (P0.c.start : Nat)), some vS, some vW, some vT, some vK, some vR, some (.int P0.spent), some (.ref lb), v10] ∧ Same H H' ∧ H lb = none ∧ Bads K H' lb (9 + 5 * k))
      ⟨lb, none, rfl, S0, nlH, B0⟩ ?_ ?_⟩
    · rintro k σ H7 hk ⟨lb, v10, rfl, s7, nl7, B7⟩
      show gName 10 (V.int (0 + (k : Int))) _ _ _
      rw [Int.zero_add]
      obtain ⟨us, eus, lus, gus⟩ := id B7
      have hk7 : k < ([.int (P0.c.start : Nat), vS, vW, vT, vK, vR, .int P0.spent] : List V).length := hk
      have et7 := sqt_same s7 et
      refine ⟨_, rfl, _, rfl, _, rfl, a, k, _, _, rfl, et7, hk7, by show 7 ≤ 100; decide, fun H8 p1 s8 e8 => ?_⟩
      refine ⟨_, rfl, _, rfl, a, k, _, _, rfl, sqt_same s8 et7, hk7, by show 7 ≤ 100; decide, fun H9 p2 s9 e9 => ?_⟩
      have s89 := s8.trans s9
      refine ⟨_, rfl, _, rfl, _, rfl, a, k, _, _, rfl, sqt_same s89 et7, hk7, by show 7 ≤ 100; decide, fun Ha p3 sa ea => ?_⟩
      have s8a := s89.trans sa
      refine ⟨by show 3 ≤ sizeLine; decide, fun ln nln => ?_⟩
      have s7a := s7.trans s8a
      have haA := dpAll_same s7a ha
      have e8' := sqt_same (s9.trans sa) e8
      have e9' := sqt_same sa e9
      have b1 := b_kind f0 (i := k) (d := .none) hk ⟨Nat.zero_le _, fun xs e => by cases e⟩ (fun _ e => by cases e) (fun _ e => by cases e)
      have b2 := b_kind f0 (i := k) (d := .str "x") hk ⟨Nat.zero_le _, fun xs e => by cases e⟩ (fun _ e => by cases e) (fun _ e => by cases e)
      have b3 := b_num f0 (i := k) (k := -1) hk (.inl (by decide))
      have sn := Same.new (o := .lst [.ref p1, .ref p2, .ref p3]) nln
      have z3 : ∀ v ∈ ([.ref p1, .ref p2, .ref p3] : List V), ∃ d, Dp K (upd Ha ln (.lst [.ref p1, .ref p2, .ref p3])) v d ∧ BadD d := fun v mv => by
        simp only [List.mem_cons, List.not_mem_nil, or_false] at mv
        rcases mv with z | z | z <;> rw [z]
        · exact ⟨_, dp_same sn (with_dp e8' haA .non), b1⟩
        · exact ⟨_, dp_same sn (with_dp e9' haA (.str _)), b2⟩
        · exact ⟨_, dp_same sn (with_dp ea haA (.int _)), b3⟩
      have eln : (upd Ha ln (.lst [.ref p1, .ref p2, .ref p3])) ln = some (.lst [.ref p1, .ref p2, .ref p3]) := upd_same
      have s7b := s8a.trans sn
      generalize (upd Ha ln (.lst [.ref p1, .ref p2, .ref p3])) = Hb at eln z3 s7b sn ⊢
      have eusb := s7b _ _ eus
      refine ⟨lb, ln, _, _, rfl, rfl, eusb, eln, ?_, fun lc nlc => ?_⟩
      · show us.length + 3 ≤ sizeLine
        exact Nat.le_of_lt (small (show us.length + 3 ≤ 100 by omega) (by decide))
      have Bc := Bads.cat B7 eus s7b nlc z3 (Nat.le_refl 3)
      have sHb := s7.trans s7b
      have nlcH := sHb.free nlc
      have sHc : Same H (upd Hb lc (.lst (us ++ [.ref p1, .ref p2, .ref p3]))) := Same.over sHb nlcH
      generalize (upd Hb lc (.lst (us ++ [.ref p1, .ref p2, .ref p3]))) = Hc at Bc sHc ⊢
      clear eusb eln z3 s7b sn s7a s8a s89 sa s9 s8 e8 e9 ea e8' e9' haA B7 eus gus sHb
      have S7c := sHc
      -- tuple or not
      obtain ⟨vk, ek⟩ : ∃ vk, ([.int (P0.c.start : Nat), vS, vW, vT, vK, vR, .int P0.spent] : List V)[k]? = some vk := ⟨_, List.getElem?_eq_getElem hk7⟩
      obtain ⟨dk, edk, hdk⟩ := (dpAll_get ha).2 k vk ek
      have etc := sqt_same S7c et
      obtain ⟨us, eus, lus, gus⟩ := id Bc
      refine ⟨_, rfl, _, rfl, a, _, _, vk, rfl, rfl, etc, atI_nat ek, _, _, .type (tyD dk), .type "tuple", isTup dk, rfl, .ty _, dp_ty (dp_same S7c hdk), ki_tup2 dk, ?_⟩
      refine ⟨_, rfl, ?_⟩
      cases zt : isTup dk with
      | true =>
        refine iteT ?_
        obtain ⟨ds, rfl⟩ := isTup_ex zt
        obtain ⟨ak, vsk, rfl, htk, hak⟩ := dp_tup hdk
        have lk : vsk.length ≤ 1001 := by
          rw [(dpAll_get hak).1]
          have t4 := f0.t4
          have n2 := f0.n
          match k, hk, edk with
          | 0, _, e0 => cases e0
          | 1, _, e0 => cases e0; rw [List.length_map, wf.sl]; omega
          | 2, _, e0 => cases e0; rw [List.length_map, wf.wl]; omega
          | 3, _, e0 => cases e0; rw [List.length_map]; omega
          | 4, _, e0 => cases e0; rw [List.length_map, wf.kl]; omega
          | 5, _, e0 => cases e0; unfold toI; rw [List.length_map, List.length_map, wf.rl]; omega
          | 6, _, e0 => cases e0
        refine ⟨_, rfl, _, rfl, _, rfl, _, rfl, _, rfl, a, _, _, .ref ak, rfl, rfl, etc, atI_nat ek, ak, _, rfl, .inr (sqt_same S7c htk), fun la nla => ?_⟩
        have s1 := Same.new (o := .lst vsk) nla
        have dl : Dp K (upd Hc la (.lst vsk)) (.ref la) (.list ds) := .lst (SqL.of upd_same) (dpAll_same (S7c.trans s1) hak)
        generalize (upd Hc la (.lst vsk)) = Hd at s1 dl ⊢
        refine ⟨a, k, .ref la, _, rfl, sqt_same s1 etc, hk7, by show 7 ≤ 100; decide, fun He p4 s4 e4 => ?_⟩
        have s14 := s1.trans s4
        refine ⟨_, rfl, _, rfl, _, rfl, _, rfl, a, _, _, .ref ak, rfl, rfl, sqt_same s14 etc, atI_nat ek, by show 1 ≤ sizeLine; decide, fun tz ntz => ?_⟩
        have s5 := Same.new (o := .tup [.int 0]) ntz
        have s15 := s14.trans s5
        refine catA (sqt_same s15 (sqt_same S7c htk)) (SqT.of upd_same) (Nat.le_of_lt (small (show vsk.length + 1 ≤ 2000 by omega) (by decide))) fun pz Hg s6 e6 => ?_
        have s16 := s15.trans s6
        have dz : Dp K Hg (.ref pz) (.tuple (ds ++ [.int 0])) := .tup e6 (dpAll_cat (dpAll_same (S7c.trans s16) hak) (.cons (.int 0) .nil))
        refine ⟨a, k, .ref pz, _, rfl, sqt_same s16 etc, hk7, by show 7 ≤ 100; decide, fun Hh p5 s7' e7 => ?_⟩
        have s17 := s16.trans s7'
        refine ⟨by show 2 ≤ sizeLine; decide, fun ln nln => ?_⟩
        have b1 := b_kind f0 (i := k) (d := .list ds) hk ⟨Nat.le_trans (Nat.le_of_eq (show lenD (.list ds) = vsk.length from (dpAll_get hak).1.symm)) (Nat.le_trans lk (by decide)), fun xs e => by cases e⟩ (fun _ e => by cases e) (fun _ e => by cases e)
        have b2 := b_behind f0 (i := k) hk edk
        have sn := Same.new (o := .lst [.ref p4, .ref p5]) nln
        have s4h := (s5.trans s6).trans s7'
        have hah := dpAll_same (S7c.trans s17) ha
        have z2 : ∀ v ∈ ([.ref p4, .ref p5] : List V), ∃ d, Dp K (upd Hh ln (.lst [.ref p4, .ref p5])) v d ∧ BadD d := fun v mv => by
          simp only [List.mem_cons, List.not_mem_nil, or_false] at mv
          rcases mv with z | z <;> rw [z]
          · exact ⟨_, dp_same sn (with_dp (sqt_same s4h e4) hah (dp_same (s4.trans s4h) dl)), b1⟩
          · exact ⟨_, dp_same sn (with_dp e7 hah (dp_same s7' dz)), b2⟩
        have eln : (upd Hh ln (.lst [.ref p4, .ref p5])) ln = some (.lst [.ref p4, .ref p5]) := upd_same
        have sce := s17.trans sn
        generalize (upd Hh ln (.lst [.ref p4, .ref p5])) = Hi at eln z2 sce ⊢
        refine ⟨lc, ln, _, _, rfl, rfl, sce _ _ eus, eln, Nat.le_of_lt (small (show us.length + 2 ≤ 200 by omega) (by decide)), fun lf nlf => ?_⟩
        have Bf := Bads.cat Bc eus sce nlf z2 (Nat.le_refl 2)
        have sHi := S7c.trans sce
        exact ⟨lf, _, rfl, Same.over sHi (sHi.free nlf), sHi.free nlf, by rw [show 9 + 5 * (k + 1) = 9 + 5 * k + 3 + 2 by omega]; exact Bf⟩
      | false =>
        refine iteF ?_
        refine ⟨_, rfl, _, rfl, _, rfl, a, k, .bl true, _, rfl, etc, hk7, by show 7 ≤ 100; decide, fun He p4 s4 e4 => ?_⟩
        refine ⟨_, rfl, _, rfl, _, _, rfl, rfl, ⟨by decide, by decide⟩, _, _, rfl, rfl, _, rfl, _, _, rfl, rfl, a, k, _, _, rfl, sqt_same s4 etc, hk7, by show 7 ≤ 100; decide, fun Hh p5 s7' e7 => ?_⟩
        have s17 := s4.trans s7'
        refine ⟨by show 2 ≤ sizeLine; decide, fun ln nln => ?_⟩
        have b1 := b_kind f0 (i := k) (d := .bool true) hk ⟨Nat.zero_le _, fun xs e => by cases e⟩ (fun _ e => by cases e) (fun _ e => by cases e)
        have b2 := b_num f0 (i := k) (k := 1000000000000 + 1 + n) hk (.inr (by omega))
        have sn := Same.new (o := .lst [.ref p4, .ref p5]) nln
        have hah := dpAll_same (S7c.trans s17) ha
        have z2 : ∀ v ∈ ([.ref p4, .ref p5] : List V), ∃ d, Dp K (upd Hh ln (.lst [.ref p4, .ref p5])) v d ∧ BadD d := fun v mv => by
          simp only [List.mem_cons, List.not_mem_nil, or_false] at mv
          rcases mv with z | z <;> rw [z]
          · exact ⟨_, dp_same sn (with_dp (sqt_same s7' e4) hah (.bl true)), b1⟩
          · exact ⟨_, dp_same sn (with_dp e7 hah (.int _)), b2⟩
        have eln : (upd Hh ln (.lst [.ref p4, .ref p5])) ln = some (.lst [.ref p4, .ref p5]) := upd_same
        have sce := s17.trans sn
        generalize (upd Hh ln (.lst [.ref p4, .ref p5])) = Hi at eln z2 sce ⊢
        refine ⟨lc, ln, _, _, rfl, rfl, sce _ _ eus, eln, Nat.le_of_lt (small (show us.length + 2 ≤ 200 by omega) (by decide)), fun lf nlf => ?_⟩
        have Bf := Bads.cat Bc eus sce nlf z2 (Nat.le_refl 2)
        have sHi := S7c.trans sce
        exact ⟨lf, _, rfl, Same.over sHi (sHi.free nlf), sHi.free nlf, by rw [show 9 + 5 * (k + 1) = 9 + 5 * k + 3 + 2 by omega]; exact Bf⟩
    · rintro σ H7 ⟨lb0, v10, rfl, s7, nl0, B7⟩
      obtain ⟨aS, rfl, hS⟩ := tS
      obtain ⟨aW, ws, rfl, hW, lW, gW⟩ := id tW
      obtain ⟨aT, ts, rfl, hT, lT, gT⟩ := id tT
      obtain ⟨aK, ks, rfl, hK, lK, gK⟩ := id tK
      obtain ⟨aR, rfl, hR⟩ := id tR
      obtain ⟨r0, er0, hr0⟩ := TT.get (a := aW) lW gW (i := 0) (xs := [0, m]) (by rw [f0.W]; rfl)
      obtain ⟨r1, er1, hr1⟩ := TT.get (a := aW) lW gW (i := 1) (xs := [m, 0]) (by rw [f0.W]; rfl)
      have eW0 : atI ws 0 = some (.ref r0) := L2.at_of (j := 0) rfl er0
      have eW1 : atI ws 1 = some (.ref r1) := L2.at_of (j := 1) rfl er1
      rw [f0.S] at hS
      have t1' := f0.t1
      have t4' := f0.t4
      have kl' := wf.kl
      have rl' := wf.rl
      have eT := at_gR (W := P0.T) (i := 0) (by omega)
      obtain ⟨b0, eb0, hb0⟩ := TT.get (a := aT) lT gT eT
      have eT0 : atI ts 0 = some (.ref b0) := L2.at_of (j := 0) rfl eb0
      obtain ⟨x0, x1, ex⟩ : ∃ x0 x1, gR P0.T 0 = [x0, x1] := by
        have l := wf.tr _ (List.mem_of_getElem? eT)
        rw [f0.n] at l
        match h : gR P0.T 0, l with
        | [x0, x1], _ => exact ⟨x0, x1, rfl⟩
      rw [ex] at hb0
      have dT := ttAll (K := K) (H := H) lT gT
      have dK := ttAll (K := K) (H := H) lK gK
      have dR := intsD (K := K) (H := H) (toI P0.row)
      have S := s7
      have B := B7
      clear s7 B7
      -- three
      obtain ⟨us, eus, lus, gus⟩ := id B
      clear gus
      refine ⟨_, rfl, _, rfl, a, 0, .int 2, _, rfl, sqt_same S et, by show 0 < 7; decide, by show 7 ≤ 100; decide, fun H8 p1 s8 e8 => ?_⟩
      refine ⟨_, rfl, by show 1 ≤ sizeLine; decide, fun ta nta => ⟨_, rfl, _, rfl, ?_⟩⟩
      dsimp only [tNoPart]
      have sa := s8.trans (Same.new (o := .tup [.int 2]) nta)
      refine cutA (sqt_same sa (sqt_same S hR)) fun pc H9 sc ec => ?_
      rw [show cutV ((toI P0.row).map V.int) (some 1) none = ((toI P0.row).map V.int).drop 1 from cut_from _ 1] at ec
      have lR : ((toI P0.row).map V.int).length ≤ 4 := by unfold toI; rw [List.length_map, List.length_map]; omega
      refine catA (sqt_same sc (SqT.of upd_same)) ec (by rw [List.length_drop]; exact Nat.le_of_lt (small (show 1 + (((toI P0.row).map V.int).length - 1) ≤ 100 by omega) (by decide))) fun pd Ha sd ed => ?_
      have sA := (sa.trans sc).trans sd
      refine ⟨a, 5, .ref pd, _, rfl, sqt_same sA (sqt_same S et), by show 5 < 7; decide, by show 7 ≤ 100; decide, fun Hb p2 sb e9 => ?_⟩
      have sB := sA.trans sb
      refine ⟨_, rfl, by show 1 ≤ sizeLine; decide, fun tb ntb => ⟨_, rfl, _, rfl, ?_⟩⟩
      dsimp only [tNoPart]
      have sC := sB.trans (Same.new (o := .tup [.bl true]) ntb)
      refine cutA (sqt_same sC (sqt_same S hR)) fun pe Hc se ee => ?_
      rw [show cutV ((toI P0.row).map V.int) (some 1) none = ((toI P0.row).map V.int).drop 1 from cut_from _ 1] at ee
      refine catA (sqt_same se (SqT.of upd_same)) ee (by rw [List.length_drop]; exact Nat.le_of_lt (small (show 1 + (((toI P0.row).map V.int).length - 1) ≤ 100 by omega) (by decide))) fun pf Hd sf ef => ?_
      have sD := (sC.trans se).trans sf
      refine ⟨a, 5, .ref pf, _, rfl, sqt_same sD (sqt_same S et), by show 5 < 7; decide, by show 7 ≤ 100; decide, fun He p3 sg eg => ?_⟩
      have sE := sD.trans sg
      refine ⟨by show 3 ≤ sizeLine; decide, fun ln nln => ?_⟩
      have sn := Same.new (o := .lst [.ref p1, .ref p2, .ref p3]) nln
      have hah := dpAll_same (S.trans sE) ha
      have dRr := fun {G : Hp} (s : Same H G) => dpAll_drop (i := 1) (dpAll_same s dR)
      have sr : ∀ r ∈ ((toI P0.row).map PyData.int).drop 1, lenD r ≤ 10000 := fun r mr => by
        obtain ⟨i, _, rfl⟩ := List.mem_map.mp (List.mem_of_mem_drop mr)
        exact Nat.zero_le _
      have lr : (((toI P0.row).map PyData.int).drop 1).length ≤ 5000 := by unfold toI; rw [List.length_drop, List.length_map, List.length_map]; omega
      have z3 : ∀ v ∈ ([.ref p1, .ref p2, .ref p3] : List V), ∃ d, Dp K (upd He ln (.lst [.ref p1, .ref p2, .ref p3])) v d ∧ BadD d := fun v mv => by
        have s9e := ((((((Same.new (o := .tup [.int 2]) nta).trans sc).trans sd).trans sb).trans (Same.new (o := .tup [.bl true]) ntb)).trans se).trans (sf.trans sg)
        have sbe := ((Same.new (o := .tup [.bl true]) ntb).trans se).trans (sf.trans sg)
        simp only [List.mem_cons, List.not_mem_nil, or_false] at mv
        rcases mv with z | z | z <;> rw [z]
        · exact ⟨_, dp_same sn (with_dp (sqt_same s9e e8) hah (.int 2)), b_start f0 (Nat.le_refl 2)⟩
        · exact ⟨_, dp_same sn (with_dp (sqt_same sbe e9) hah (.tup (sqt_same (sb.trans sbe) ed) (.cons (.int 2) (dRr (S.trans sE))))), b_row f0 lr sr (.inl rfl)⟩
        · exact ⟨_, dp_same sn (with_dp eg hah (.tup (sqt_same sg ef) (.cons (.bl true) (dRr (S.trans sE))))), b_row f0 lr sr (.inr rfl)⟩
      have eln : (upd He ln (.lst [.ref p1, .ref p2, .ref p3])) ln = some (.lst [.ref p1, .ref p2, .ref p3]) := upd_same
      have sce := sE.trans sn
      generalize (upd He ln (.lst [.ref p1, .ref p2, .ref p3])) = Hi at eln z3 sce ⊢
      refine ⟨lb0, ln, _, _, rfl, rfl, sce _ _ eus, eln, Nat.le_of_lt (small (show us.length + 3 ≤ 200 by omega) (by decide)), fun lb nlb => ?_⟩
      have B2 := Bads.cat B eus sce nlb z3 (Nat.le_refl 3)
      have sHi := S.trans sce
      have nl7 := sHi.free nlb
      have S2 : Same H (upd Hi lb (.lst (us ++ [.ref p1, .ref p2, .ref p3]))) := Same.over sHi nl7
      generalize (upd Hi lb (.lst (us ++ [.ref p1, .ref p2, .ref p3]))) = Hs at B2 S2 ⊢
      clear sHi sce eln z3 hah sn sE sD sC sB sA S B eus lus sg sf se sd sc sb sa s8 e8 e9 eg ef ee ed ec nlb nln nta ntb
      have B := B2
      have S := S2
      clear B2 S2
      -- append
      obtain ⟨us, eus, _, _⟩ := id B
      refine ⟨_, rfl, .inl ⟨rfl, _, SqL.of eus⟩, _, rfl, ?_⟩
      refine ⟨_, rfl, aW, _, 0, .ref r0, rfl, rfl, sqt_same S hW, eW0, r0, _, 1, .int m, rfl, rfl, sqt_same S hr0, rfl, _, _, rfl, rfl, by show 2 ≤ sizeLine; decide, fun ta nta => ?_⟩
      have sa := Same.new (o := .tup [.int 0, .int (m + 1)]) nta
      refine ⟨_, rfl, aW, _, 1, .ref r1, rfl, rfl, sqt_same sa (sqt_same S hW), eW1, by show 2 ≤ sizeLine; decide, fun tb ntb => ?_⟩
      have sb := Same.new (o := .tup [.ref ta, .ref r1]) ntb
      have sG := sa.trans sb
      have i0 : TI K _ (.ref ta) [0, m + 1] := TI.same sb ⟨ta, rfl, SqT.of upd_same⟩
      have dG := tt_dp (TT.rem (sG _ _ eus) (tt2 (SqT.of upd_same) i0 ((TI.same S ⟨r1, rfl, hr1⟩).same sG)))
      refine ⟨a, 2, .ref tb, _, rfl, sqt_same sG (sqt_same S et), by show 2 < 7; decide, by show 7 ≤ 100; decide, fun G2 pw sw ew => ?_⟩
      have sGw := sG.trans sw
      have dv : Dp K (rem lb G2) (.ref pw) (.tuple ((papL P0).set 2 (tD [[0, m + 1], [m, 0]]))) := with_dp (sqt_rem (sGw _ _ eus) ew) (dpAll_same (rem_of (S.trans sGw) nl7) ha) (dp_same (rem_mono sw) dG)
      obtain ⟨us2, e2, l2, B2⟩ := Bads.app B sGw dv (b_ways f0 (by show 2 ≤ 100; decide) (rows2 rfl rfl) (bw1 mb))
      refine ⟨lb, us2, .ref pw, rfl, rfl, e2, Nat.lt_of_le_of_lt l2 (by decide), ?_⟩
      have S2 : Same H (upd G2 lb (.lst (us2 ++ [.ref pw]))) := Same.over (S.trans sGw) nl7
      clear dv dG e2 l2 ew sw sGw sG B S eus
      generalize (upd G2 lb (.lst (us2 ++ [.ref pw]))) = Hs at B2 S2 ⊢
      have B := B2
      have S := S2
      clear B2 S2
      -- append
      obtain ⟨us, eus, _, _⟩ := id B
      refine ⟨_, rfl, .inl ⟨rfl, _, SqL.of eus⟩, _, rfl, ?_⟩
      refine ⟨_, rfl, aW, _, 0, .ref r0, rfl, rfl, sqt_same S hW, eW0, _, rfl, aW, _, 1, .ref r1, rfl, rfl, sqt_same S hW, eW1, r1, _, 0, .int m, rfl, rfl, sqt_same S hr1, rfl, _, _, rfl, rfl, by show 2 ≤ sizeLine; decide, fun ta nta => ⟨by show 2 ≤ sizeLine; decide, fun tb ntb => ?_⟩⟩
      have sa := Same.new (o := .tup [.int (m + 1), .int 0]) nta
      have sb := Same.new (o := .tup [.ref r0, .ref ta]) ntb
      have sG := sa.trans sb
      have i0 : TI K _ (.ref ta) [m + 1, 0] := TI.same sb ⟨ta, rfl, SqT.of upd_same⟩
      have dG := tt_dp (TT.rem (sG _ _ eus) (tt2 (SqT.of upd_same) ((TI.same S ⟨r0, rfl, hr0⟩).same sG) i0))
      refine ⟨a, 2, .ref tb, _, rfl, sqt_same sG (sqt_same S et), by show 2 < 7; decide, by show 7 ≤ 100; decide, fun G2 pw sw ew => ?_⟩
      have sGw := sG.trans sw
      have dv : Dp K (rem lb G2) (.ref pw) (.tuple ((papL P0).set 2 (tD [[0, m], [m + 1, 0]]))) := with_dp (sqt_rem (sGw _ _ eus) ew) (dpAll_same (rem_of (S.trans sGw) nl7) ha) (dp_same (rem_mono sw) dG)
      obtain ⟨us2, e2, l2, B2⟩ := Bads.app B sGw dv (b_ways f0 (by show 2 ≤ 100; decide) (rows2 rfl rfl) (bw2 mb))
      refine ⟨lb, us2, .ref pw, rfl, rfl, e2, Nat.lt_of_le_of_lt l2 (by decide), ?_⟩
      have S2 : Same H (upd G2 lb (.lst (us2 ++ [.ref pw]))) := Same.over (S.trans sGw) nl7
      clear dv dG e2 l2 ew sw sGw sG B S eus
      generalize (upd G2 lb (.lst (us2 ++ [.ref pw]))) = Hs at B2 S2 ⊢
      have B := B2
      have S := S2
      clear B2 S2
      -- append
      obtain ⟨us, eus, _, _⟩ := id B
      refine ⟨_, rfl, .inl ⟨rfl, _, SqL.of eus⟩, _, rfl, ?_⟩
      refine ⟨_, rfl, aW, _, 0, .ref r0, rfl, rfl, sqt_same S hW, eW0, r0, _, 1, .int m, rfl, rfl, sqt_same S hr0, rfl, by show 2 ≤ sizeLine; decide, fun ta nta => ?_⟩
      have sa := Same.new (o := .tup [.int 2, .int m]) nta
      refine ⟨_, rfl, aW, _, 1, .ref r1, rfl, rfl, sqt_same sa (sqt_same S hW), eW1, by show 2 ≤ sizeLine; decide, fun tb ntb => ?_⟩
      have sb := Same.new (o := .tup [.ref ta, .ref r1]) ntb
      have sG := sa.trans sb
      have i0 : TI K _ (.ref ta) [2, m] := TI.same sb ⟨ta, rfl, SqT.of upd_same⟩
      have dG := tt_dp (TT.rem (sG _ _ eus) (tt2 (SqT.of upd_same) i0 ((TI.same S ⟨r1, rfl, hr1⟩).same sG)))
      refine ⟨a, 2, .ref tb, _, rfl, sqt_same sG (sqt_same S et), by show 2 < 7; decide, by show 7 ≤ 100; decide, fun G2 pw sw ew => ?_⟩
      have sGw := sG.trans sw
      have dv : Dp K (rem lb G2) (.ref pw) (.tuple ((papL P0).set 2 (tD [[2, m], [m, 0]]))) := with_dp (sqt_rem (sGw _ _ eus) ew) (dpAll_same (rem_of (S.trans sGw) nl7) ha) (dp_same (rem_mono sw) dG)
      obtain ⟨us2, e2, l2, B2⟩ := Bads.app B sGw dv (b_ways f0 (by show 2 ≤ 100; decide) (rows2 rfl rfl) bw3)
      refine ⟨lb, us2, .ref pw, rfl, rfl, e2, Nat.lt_of_le_of_lt l2 (by decide), ?_⟩
      have S2 : Same H (upd G2 lb (.lst (us2 ++ [.ref pw]))) := Same.over (S.trans sGw) nl7
      clear dv dG e2 l2 ew sw sGw sG B S eus
      generalize (upd G2 lb (.lst (us2 ++ [.ref pw]))) = Hs at B2 S2 ⊢
      have B := B2
      have S := S2
      clear B2 S2
      -- append
      obtain ⟨us, eus, _, _⟩ := id B
      refine ⟨_, rfl, .inl ⟨rfl, _, SqL.of eus⟩, _, rfl, ?_⟩
      refine ⟨_, rfl, aS, _, 0, .int 0, rfl, rfl, sqt_same S hS, rfl, _, rfl, aS, _, 1, .int m, rfl, rfl, sqt_same S hS, rfl, _, rfl, aW, _, 0, .ref r0, rfl, rfl, sqt_same S hW, eW0, r0, _, 1, .int m, rfl, rfl, sqt_same S hr0, rfl, _, _, rfl, rfl, .inl ⟨by decide, by decide⟩, _, _, rfl, rfl, _, _, rfl, rfl, by show 2 ≤ sizeLine; decide, fun ta nta => ?_⟩
      have sG := Same.new (o := .tup [.int 0, .int (m + 2 * m + 2)]) nta
      have i0 : TI K (upd Hs ta (.tup [.int 0, .int (m + 2 * m + 2)])) (.ref ta) [0, m + 2 * m + 2] := ⟨ta, rfl, SqT.of upd_same⟩
      have dG := ti_dp (TI.rem (sG _ _ eus) i0)
      refine ⟨a, 1, .ref ta, _, rfl, sqt_same sG (sqt_same S et), by show 1 < 7; decide, by show 7 ≤ 100; decide, fun G2 pw sw ew => ?_⟩
      have sGw := sG.trans sw
      have dv : Dp K (rem lb G2) (.ref pw) (.tuple ((papL P0).set 1 (iD [0, m + 2 * m + 2]))) := with_dp (sqt_rem (sGw _ _ eus) ew) (dpAll_same (rem_of (S.trans sGw) nl7) ha) (dp_same (rem_mono sw) dG)
      obtain ⟨us2, e2, l2, B2⟩ := Bads.app B sGw dv (b_stands f0 rfl (bs1 mb))
      refine ⟨lb, us2, .ref pw, rfl, rfl, e2, Nat.lt_of_le_of_lt l2 (by decide), ?_⟩
      have S2 : Same H (upd G2 lb (.lst (us2 ++ [.ref pw]))) := Same.over (S.trans sGw) nl7
      clear dv dG e2 l2 ew sw sGw sG B S eus
      generalize (upd G2 lb (.lst (us2 ++ [.ref pw]))) = Hs at B2 S2 ⊢
      have B := B2
      have S := S2
      clear B2 S2
      -- append
      obtain ⟨us, eus, _, _⟩ := id B
      refine ⟨_, rfl, .inl ⟨rfl, _, SqL.of eus⟩, _, rfl, ?_⟩
      refine ⟨_, rfl, aT, _, 0, .ref b0, rfl, rfl, sqt_same S hT, eT0, b0, _, rfl, .inr (sqt_same S hb0), fun la nla => ?_⟩
      have sa := Same.new (o := .lst ([x0, x1].map V.int)) nla
      refine ⟨by show 1 ≤ sizeLine; decide, fun ta nta => ?_⟩
      have sb := sa.trans (Same.new (o := .tup [.ref la]) nta)
      have la1 : (upd (upd Hs la (.lst ([x0, x1].map V.int))) ta (.tup [.ref la])) la = some (.lst ([x0, x1].map V.int)) := Same.new nta _ _ upd_same
      refine ⟨_, rfl, _, rfl, ?_⟩
      dsimp only [tNoPart]
      refine cutA (sqt_same sb (sqt_same S hT)) fun pc G1 sc ec => ?_
      rw [show cutV ts (some 1) none = ts.drop 1 from cut_from ts 1] at ec
      have s2 := sb.trans sc
      refine catA (sqt_same sc (SqT.of upd_same)) ec (by rw [List.length_drop]; exact Nat.le_of_lt (small (show 1 + (ts.length - 1) ≤ 100 by omega) (by decide))) fun pd G sd ed => ?_
      have sG := s2.trans sd
      have lal : la ≠ lb := fun z => by rw [z, eus] at nla; cases nla
      have dl : Dp K (rem lb G) (.ref la) (.list ([x0, x1].map PyData.int)) := .lst (SqL.of (by rw [rem_ne lal]; exact sd _ _ (sc _ _ la1))) (intsD [x0, x1])
      have dG : Dp K (rem lb G) (.ref pd) (.tuple (.list ([x0, x1].map PyData.int) :: (P0.T.map iD).drop 1)) := .tup (sqt_rem (sG _ _ eus) ed) (.cons dl (dpAll_drop (dpAll_same (rem_of (S.trans sG) nl7) dT)))
      refine ⟨a, 3, .ref pd, _, rfl, sqt_same sG (sqt_same S et), by show 3 < 7; decide, by show 7 ≤ 100; decide, fun G2 pw sw ew => ?_⟩
      have sGw := sG.trans sw
      have dv : Dp K (rem lb G2) (.ref pw) (.tuple ((papL P0).set 3 (.tuple (.list ([x0, x1].map PyData.int) :: (P0.T.map iD).drop 1)))) := with_dp (sqt_rem (sGw _ _ eus) ew) (dpAll_same (rem_of (S.trans sGw) nl7) ha) (dp_same (rem_mono sw) dG)
      obtain ⟨us2, e2, l2, B2⟩ := Bads.app B sGw dv (b_tasks f0 (by rw [List.length_drop, List.length_map]; omega) (show 2 ≤ 10000 by decide) (rowsS wf.tr) (fun xs e _ => by cases e))
      refine ⟨lb, us2, .ref pw, rfl, rfl, e2, Nat.lt_of_le_of_lt l2 (by decide), ?_⟩
      have S2 : Same H (upd G2 lb (.lst (us2 ++ [.ref pw]))) := Same.over (S.trans sGw) nl7
      clear dv dG e2 l2 ew sw sGw sG B S eus
      generalize (upd G2 lb (.lst (us2 ++ [.ref pw]))) = Hs at B2 S2 ⊢
      have B := B2
      have S := S2
      clear B2 S2
      -- append
      obtain ⟨us, eus, _, _⟩ := id B
      refine ⟨_, rfl, .inl ⟨rfl, _, SqL.of eus⟩, _, rfl, ?_⟩
      refine ⟨_, rfl, aT, _, 0, .ref b0, rfl, rfl, sqt_same S hT, eT0, b0, _, 0, .int x0, rfl, rfl, sqt_same S hb0, rfl, _, rfl, by show 2 ≤ sizeLine; decide, fun la nla => ⟨by show 1 ≤ sizeLine; decide, fun ta nta => ?_⟩⟩
      have sa := Same.new (o := .tup [.int x0, .int (-1)]) nla
      have sb := sa.trans (Same.new (o := .tup [.ref la]) nta)
      have la1 : TI K (upd (upd Hs la (.tup [.int x0, .int (-1)])) ta (.tup [.ref la])) (.ref la) [x0, -1] := TI.same (Same.new nta) ⟨la, rfl, SqT.of upd_same⟩
      refine ⟨_, rfl, _, rfl, ?_⟩
      dsimp only [tNoPart]
      refine cutA (sqt_same sb (sqt_same S hT)) fun pc G1 sc ec => ?_
      rw [show cutV ts (some 1) none = ts.drop 1 from cut_from ts 1] at ec
      have s2 := sb.trans sc
      refine catA (sqt_same sc (SqT.of upd_same)) ec (by rw [List.length_drop]; exact Nat.le_of_lt (small (show 1 + (ts.length - 1) ≤ 100 by omega) (by decide))) fun pd G sd ed => ?_
      have sG := s2.trans sd
      have dG : Dp K (rem lb G) (.ref pd) (.tuple (iD [x0, -1] :: (P0.T.map iD).drop 1)) := .tup (sqt_rem (sG _ _ eus) ed) (.cons (ti_dp (TI.rem (sG _ _ eus) (la1.same (sc.trans sd)))) (dpAll_drop (dpAll_same (rem_of (S.trans sG) nl7) dT)))
      refine ⟨a, 3, .ref pd, _, rfl, sqt_same sG (sqt_same S et), by show 3 < 7; decide, by show 7 ≤ 100; decide, fun G2 pw sw ew => ?_⟩
      have sGw := sG.trans sw
      have dv : Dp K (rem lb G2) (.ref pw) (.tuple ((papL P0).set 3 (.tuple (iD [x0, -1] :: (P0.T.map iD).drop 1)))) := with_dp (sqt_rem (sGw _ _ eus) ew) (dpAll_same (rem_of (S.trans sGw) nl7) ha) (dp_same (rem_mono sw) dG)
      obtain ⟨us2, e2, l2, B2⟩ := Bads.app B sGw dv (b_tasks f0 (by rw [List.length_drop, List.length_map]; omega) (show 2 ≤ 10000 by decide) (rowsS wf.tr) (fun xs e g => by have e := iD_inj e; have := (g (-1) (by rw [← e]; simp)).1; omega))
      refine ⟨lb, us2, .ref pw, rfl, rfl, e2, Nat.lt_of_le_of_lt l2 (by decide), ?_⟩
      have S2 : Same H (upd G2 lb (.lst (us2 ++ [.ref pw]))) := Same.over (S.trans sGw) nl7
      clear dv dG e2 l2 ew sw sGw sG B S eus
      generalize (upd G2 lb (.lst (us2 ++ [.ref pw]))) = Hs at B2 S2 ⊢
      have B := B2
      have S := S2
      clear B2 S2
      -- append
      obtain ⟨us, eus, _, _⟩ := id B
      refine ⟨_, rfl, .inl ⟨rfl, _, SqL.of eus⟩, _, rfl, ?_⟩
      refine ⟨_, rfl, _, rfl, ?_⟩
      dsimp only [tNoPart]
      refine cutA (sqt_same S hK) fun pd G sG ed => ?_
      rw [show cutV ks (some 1) none = ks.drop 1 from cut_from ks 1] at ed
      have dG : Dp K (rem lb G) (.ref pd) (.tuple ((P0.Kw.map iD).drop 1)) := .tup (sqt_rem (sG _ _ eus) ed) (dpAll_drop (dpAll_same (rem_of (S.trans sG) nl7) dK))
      refine ⟨a, 4, .ref pd, _, rfl, sqt_same sG (sqt_same S et), by show 4 < 7; decide, by show 7 ≤ 100; decide, fun G2 pw sw ew => ?_⟩
      have sGw := sG.trans sw
      have dv : Dp K (rem lb G2) (.ref pw) (.tuple ((papL P0).set 4 (.tuple ((P0.Kw.map iD).drop 1)))) := with_dp (sqt_rem (sGw _ _ eus) ew) (dpAll_same (rem_of (S.trans sGw) nl7) ha) (dp_same (rem_mono sw) dG)
      obtain ⟨us2, e2, l2, B2⟩ := Bads.app B sGw dv (b_work_short f0)
      refine ⟨lb, us2, .ref pw, rfl, rfl, e2, Nat.lt_of_le_of_lt l2 (by decide), ?_⟩
      have S2 : Same H (upd G2 lb (.lst (us2 ++ [.ref pw]))) := Same.over (S.trans sGw) nl7
      clear dv dG e2 l2 ew sw sGw sG B S eus
      generalize (upd G2 lb (.lst (us2 ++ [.ref pw]))) = Hs at B2 S2 ⊢
      have B := B2
      have S := S2
      clear B2 S2
      -- append
      obtain ⟨us, eus, _, _⟩ := id B
      refine ⟨_, rfl, .inl ⟨rfl, _, SqL.of eus⟩, _, rfl, ?_⟩
      refine ⟨_, rfl, aW, _, 0, .ref r0, rfl, rfl, sqt_same S hW, eW0, r0, _, 1, .int m, rfl, rfl, sqt_same S hr0, rfl, _, _, rfl, rfl, ⟨by decide, by decide⟩, _, _, rfl, rfl, by show 2 ≤ sizeLine; decide, fun la nla => ⟨by show 1 ≤ sizeLine; decide, fun ta nta => ?_⟩⟩
      have sa := Same.new (o := .tup [.int 0, .int (m + 1000000)]) nla
      have sb := sa.trans (Same.new (o := .tup [.ref la]) nta)
      have la1 : TI K (upd (upd Hs la (.tup [.int 0, .int (m + 1000000)])) ta (.tup [.ref la])) (.ref la) [0, m + 1000000] := TI.same (Same.new nta) ⟨la, rfl, SqT.of upd_same⟩
      refine ⟨_, rfl, _, rfl, ?_⟩
      dsimp only [tNoPart]
      refine cutA (sqt_same sb (sqt_same S hK)) fun pc G1 sc ec => ?_
      rw [show cutV ks (some 1) none = ks.drop 1 from cut_from ks 1] at ec
      have s2 := sb.trans sc
      refine catA (sqt_same sc (SqT.of upd_same)) ec (by rw [List.length_drop]; exact Nat.le_of_lt (small (show 1 + (ks.length - 1) ≤ 100 by omega) (by decide))) fun pd G sd ed => ?_
      have sG := s2.trans sd
      have dG : Dp K (rem lb G) (.ref pd) (.tuple (iD [0, m + 1000000] :: (P0.Kw.map iD).drop 1)) := .tup (sqt_rem (sG _ _ eus) ed) (.cons (ti_dp (TI.rem (sG _ _ eus) (la1.same (sc.trans sd)))) (dpAll_drop (dpAll_same (rem_of (S.trans sG) nl7) dK)))
      refine ⟨a, 4, .ref pd, _, rfl, sqt_same sG (sqt_same S et), by show 4 < 7; decide, by show 7 ≤ 100; decide, fun G2 pw sw ew => ?_⟩
      have sGw := sG.trans sw
      have dv : Dp K (rem lb G2) (.ref pw) (.tuple ((papL P0).set 4 (.tuple (iD [0, m + 1000000] :: (P0.Kw.map iD).drop 1)))) := with_dp (sqt_rem (sGw _ _ eus) ew) (dpAll_same (rem_of (S.trans sGw) nl7) ha) (dp_same (rem_mono sw) dG)
      obtain ⟨us2, e2, l2, B2⟩ := Bads.app B sGw dv (b_work_high f0 (by omega) (by rw [List.length_drop, List.length_map]; omega) (rowsS wf.kr))
      refine ⟨lb, us2, .ref pw, rfl, rfl, e2, Nat.lt_of_le_of_lt l2 (by decide), ?_⟩
      have S2 : Same H (upd G2 lb (.lst (us2 ++ [.ref pw]))) := Same.over (S.trans sGw) nl7
      clear dv dG e2 l2 ew sw sGw sG B S eus
      generalize (upd G2 lb (.lst (us2 ++ [.ref pw]))) = Hs at B2 S2 ⊢
      have B := B2
      have S := S2
      clear B2 S2
      obtain ⟨us, eus, lus, gus⟩ := B
      exact ⟨_, rfl, q _ _ S ⟨us, eus, by omega, gus⟩⟩
end
end K1
namespace Ow
open PySem PySem.Spec PyProof.Rows L2
theorem sqt_put {K : PySem.W.Frag} {H : Hp} {D a : Addr} {l l' : List V} {xs : List V} (e : H D = some (.lst l)) (h : SqT K H a xs) : SqT K (upd H D (.lst l')) a xs := by
  rcases h with (h | ⟨o, h⟩) | h
  · exact .inl (.inl (by rw [upd_ne (fun z => by rw [z, e] at h; cases h)]; exact h))
  · exact .inl (.inr ⟨o, by rw [upd_ne (fun z => by rw [z, e] at h; cases h)]; exact h⟩)
  · exact .inr h
/-- every turn gives a value of which P i holds -/
theorem lc_pr {J : L2.It} {n : Nat} {G : Hp → Prop} {Y : Nat → Hp → V → Hp → Prop} (w : Walk J n G Y) (Pq : Nat → V → Hp → Prop) (hP : ∀ {i v H H'}, Same H H' → Pq i v H → Pq i v H') (hP2 : ∀ {i v H D l l'}, H D = some (.lst l) → Pq i v H → Pq i v (upd H D (.lst l'))) (hn : n < sizeLine) {g : TG} {te : TE} {vs : List Nat} {σ : L2.St} {H1 : Hp} {D : Addr} {Qd : Hp → Prop} (hD : H1 D = none)
    (hG : ∀ H, Same H1 H → G H)
    (hs : ∀ i x H H' (N : VK), i < n → Same H1 H → Y i H x H' → (∀ H4 v, Same H H4 → Pq i v H4 → N v H4) → g x (wipe σ vs) H' fun σ2 H2 => wipe σ2 vs = wipe σ vs ∧ te σ2 H2 N)
    (hd : ∀ (H : Hp) (ys : List V), Same H1 H → H D = some (.lst ys) → ys.length = n → (∀ i v, ys[i]? = some v → Pq i v H) → Qd H) :
    ∃ W : Nat → Nat → Hp → Prop, (∃ m, W 0 m (upd H1 D (.lst []))) ∧ ∀ i m H, W i m H →
      (J.stop i H ∧ Qd H) ∨ (J.go i H ∧ ∃ Nx : Hp → Prop, (∀ H', Nx H' → ∃ m', m' < m ∧ W (i + 1) m' H') ∧ ∀ x H', J.yld i H x H' → g x (wipe σ vs) H' fun σ2 H2 => wipe σ2 vs = wipe σ vs ∧ tYes σ2 H2 fun b H3 =>
        if b = true then te σ2 H3 fun y H4 => ∃ acc, H4 D = some (.lst acc) ∧ acc.length < sizeLine ∧ Nx (upd H4 D (.lst (acc ++ [y]))) else Nx H3) := by
  refine lc_it w (fun i H => Same H1 H ∧ ∃ ys : List V, H D = some (.lst ys) ∧ ys.length = i ∧ ∀ j v, ys[j]? = some v → Pq j v H) ⟨Same.new hD, [], upd_same, rfl, fun j t e => by simp at e⟩ (fun i H _ h => hG H h.1) (fun i x H H' hi h y => ?_) fun H h => ?_
  · obtain ⟨s, ys, eD, el, et⟩ := h
    refine hs i x H H' _ hi s y fun H4 v s4 eq => ?_
    refine ⟨_, s4 _ _ eD, by rw [el]; exact Nat.lt_trans hi hn, Same.over (s.trans s4) hD, ys ++ [v], upd_same, by rw [List.length_append, el]; rfl, fun j u ej => ?_⟩
    rcases Nat.lt_trichotomy j ys.length with h1 | h1 | h1
    · rw [List.getElem?_append_left h1] at ej
      exact hP2 (s4 _ _ eD) (hP s4 (et j u ej))
    · subst h1
      have e2 : v = u := by simpa using ej
      subst e2
      rw [el]
      exact hP2 (s4 _ _ eD) eq
    · rw [List.getElem?_eq_none (by rw [List.length_append, List.length_singleton]; omega)] at ej
      cases ej
  · obtain ⟨s, ys, eD, el, et⟩ := h
    exact hd H ys s eD el et
end Ow
namespace Ow
open PySem PySem.Spec PyProof.Rows L2
theorem sl_tupA_K {X : Cx} {K : PySem.W.Frag} (e : X.K = K) : SlR X (rSlA K) := by
  subst e
  exact sl_tupA
end Ow
namespace K1
open PySem PySem.Spec PyProof.Rows L2 Ow Po Z3
abbrev s_law_great : Stmt := topS 25
abbrev N_law_great : List Str := ["number", "zeros", "ways", "few", "many", "right", "wrong", "half", "whole", "k"]
theorem sc_law_great : FnScope N_law_great ["number"] (defScope s_law_great) := ⟨rfl, rfl, rfl, by decide +kernel, rfl, by decide +kernel, by decide +kernel⟩
def z17 (n : Nat) : List Int := List.replicate n 0
def AllZ (xss : List (List Int)) : Prop := ∀ r ∈ xss, ∀ x ∈ r, x = 0
theorem gI_z {r : List Int} (h : ∀ x ∈ r, x = 0) (j : Nat) : gI r j = 0 := by
  unfold gI
  rw [List.getD_eq_getElem?_getD]
  cases e : r[j]? with
  | none => rfl
  | some x => exact h x (List.mem_of_getElem? e)
theorem gR_z {xss : List (List Int)} (h : AllZ xss) (i j : Nat) : gI (gR xss i) j = 0 := by
  unfold gR
  rw [List.getD_eq_getElem?_getD]
  cases e : xss[i]? with
  | none => rfl
  | some r => exact gI_z (h r (List.mem_of_getElem? e)) j
theorem goF_z {c : Pr} (hW : AllZ c.W) (hS : ∀ x ∈ c.S, x = 0) (x y : Nat) : goF c x y = 0 := by
  unfold goF
  rw [gR_z hW, gI_z hS, gI_z hS]
  rfl
theorem spR_z {c : Pr} (hW : AllZ c.W) (hS : ∀ x ∈ c.S, x = 0) : ∀ (T : List (List Int)) (ps : List Nat), AllZ T → spR c T ps = 0
  | [], _, _ => by simp [spR]
  | _ :: _, [], _ => by simp [spR]
  | e :: T, p :: ps, h => by
    show spR c T ps + goF c (ps.headD c.start) p + gI e p = 0
    rw [spR_z hW hS T ps (fun r m => h r (List.mem_cons_of_mem _ m)), goF_z hW hS, gI_z (h e List.mem_cons_self)]
    rfl
theorem tabRep {m w : Nat} (n : Nat) (h : n = m) : Tab (List.replicate n (List.replicate w 0)) m w := by
  subst h
  refine ⟨List.length_replicate, fun r mr => ?_⟩
  rw [(List.mem_replicate.mp mr).2]
  exact ⟨List.length_replicate, fun x mx => by rw [(List.mem_replicate.mp mx).2]; exact ⟨by decide, by decide⟩⟩
/-- a paper of zeros: n layouts, t tasks, w works, r places -/
def zP (n t w r : Nat) : Pap := ⟨⟨n, List.replicate n 0, List.replicate n (List.replicate n 0), 0⟩, List.replicate t (List.replicate n 0), List.replicate w (List.replicate n 0), List.replicate r 0, 0⟩
theorem repZ {k n : Nat} : AllZ (List.replicate k (List.replicate n 0)) := fun r mr x mx => by
  rw [(List.mem_replicate.mp mr).2] at mx
  exact (List.mem_replicate.mp mx).2
theorem zP_ok {n t : Nat} (h1 : 1 ≤ n) (h2 : n ≤ 16) (h3 : t ≤ 1000) {r : V} (h : judgeF (papD (zP n t (t + 1) t)) r) : r = .int 0 := by
  have f : FormP (zP n t (t + 1) t) := by
    refine ⟨h1, h2, by show (List.replicate t _).length ≤ 1000; rw [List.length_replicate]; exact h3, h1, (⟨Int.le_refl 0, by decide⟩ : Num 0), List.length_replicate, fun x mx => by rw [(List.mem_replicate.mp mx).2]; exact ⟨by decide, by decide⟩, tabRep n rfl, ?_, ?_, ?_, fun q mq => by rw [(List.mem_replicate.mp mq).2]; exact h1⟩
    · show Tab (List.replicate t _) (List.replicate t (List.replicate n (0 : Int))).length n
      exact tabRep t List.length_replicate.symm
    · show Tab (List.replicate (t + 1) _) ((List.replicate t (List.replicate n (0 : Int))).length + 1) n
      exact tabRep (t + 1) (by rw [List.length_replicate])
    · show (List.replicate t 0).length = (List.replicate t (List.replicate n (0 : Int))).length
      rw [List.length_replicate, List.length_replicate]
  have hS : ∀ x ∈ (zP n t (t + 1) t).c.S, x = 0 := fun x mx => (List.mem_replicate.mp mx).2
  have hW : AllZ (zP n t (t + 1) t).c.W := repZ
  have hT : AllZ (zP n t (t + 1) t).T := repZ
  have hK : AllZ (zP n t (t + 1) t).Kw := repZ
  have tz : ∀ x y, tg (zP n t (t + 1) t).c x y = 0 := fun x y => by
    unfold tg
    rw [gR_z hW, gI_z hS, gI_z hS]
    rfl
  have w : WaysP (zP n t (t + 1) t).c := ⟨fun i _ => gR_z hW i i, fun x y _ _ => by rw [tz]; exact ⟨by decide, by decide⟩⟩
  have k : WorkP (zP n t (t + 1) t) := ⟨fun y _ => by rw [gR_z hK, gR_z hW]; exact Int.le_refl _, fun u _ x _ y _ => by rw [gR_z hK, gR_z hK, gR_z hT, gR_z hW]; decide⟩
  have pl : PlanP (zP n t (t + 1) t) := by
    refine ⟨?_, fun y _ => ?_⟩
    · rw [spR_z hW hS _ _ fun r mr => hT r (List.mem_reverse.mp mr)]
      rfl
    · rw [gR_z hK, gI_z hS, gI_z hS]
      exact Int.le_refl 0
  rcases h with ⟨p', e, f', _, _, _, rfl⟩ | ⟨h, _⟩
  · rw [← papD_inj e f f']
    rfl
  · exact absurd ⟨_, rfl, f, w, k, pl⟩ h
/-- the small paper with one task -/
def hP (h : Int) : Pap := ⟨⟨1, [0], [[0]], 0⟩, [[h]], [[0], [2 * h]], [0], h⟩
theorem hP_ok {h : Int} (h0 : 0 ≤ h) (h1 : 2 * h ≤ 1000000000000) {r : V} (j : judgeF (papD (hP h)) r) : r = .int h := by
  have num : ∀ x : Int, 0 ≤ x → x ≤ 1000000000000 → ∀ y ∈ [x], Num y := fun x a b y my => by rw [List.mem_singleton.mp my]; exact ⟨a, b⟩
  have f : FormP (hP h) := by
    refine ⟨Nat.le_refl _, by show 1 ≤ 16; decide, by show 1 ≤ 1000; decide, by show 0 < 1; decide, ⟨h0, by show h ≤ _; omega⟩, rfl, num 0 (by decide) (by decide), ⟨rfl, fun r mr => ?_⟩, ⟨rfl, fun r mr => ?_⟩, ⟨rfl, fun r mr => ?_⟩, rfl, fun q mq => ?_⟩
    · rw [List.mem_singleton.mp mr]; exact ⟨rfl, num 0 (by decide) (by decide)⟩
    · rw [List.mem_singleton.mp mr]; exact ⟨rfl, num h h0 (by omega)⟩
    · have mr : r ∈ [[0], [2 * h]] := mr
      simp only [List.mem_cons, List.not_mem_nil, or_false] at mr
      rcases mr with z | z <;> rw [z]
      · exact ⟨rfl, num 0 (by decide) (by decide)⟩
      · exact ⟨rfl, num _ (by omega) h1⟩
    · have mq : q ∈ [0] := mq
      rw [List.mem_singleton.mp mq]
      show 0 < 1
      decide
  have w : WaysP (hP h).c := ⟨fun i (hi : i < 1) => (show i = 0 by omega) ▸ rfl, fun x y (hx : x < 1) (hy : y < 1) => by
    have : x = 0 := by omega
    subst this
    have : y = 0 := by omega
    subst this
    exact ⟨Int.le_refl 0, rfl⟩⟩
  have k : WorkP (hP h) := by
    refine ⟨fun y (hy : y < 1) => ?_, fun u (hu : u < 1) x (hx : x < 1) y (hy : y < 1) => ?_⟩
    · have : y = 0 := by omega
      subst this
      exact Int.le_refl _
    · have : u = 0 := by omega
      subst this
      have : x = 0 := by omega
      subst this
      have : y = 0 := by omega
      subst this
      show 2 * h ≤ 0 + 2 * h + 0
      omega
  have pl : PlanP (hP h) := by
    refine ⟨?_, fun y (hy : y < 1) => ?_⟩
    · show 0 + (0 + 0 - 0) / 2 + h = h
      omega
    · have : y = 0 := by omega
      subst this
      show 2 * h + 0 ≤ 2 * h + 0
      omega
  rcases j with ⟨p', e, f', _, _, _, rfl⟩ | ⟨j, _⟩
  · rw [← papD_inj e f f']
    rfl
  · exact absurd ⟨_, rfl, f, w, k, pl⟩ j
theorem no_paper {p : Pap} {r : V} (h : ∀ p', FormP p' → papL p' = papL p → False) (j : judgeF (papD p) r) : r = .non := by
  rcases j with ⟨p', e, f', _, _, _, rfl⟩ | ⟨_, rfl⟩
  · have e : PyData.tuple (papL p) = .tuple (papL p') := e
    injection e with e
    exact absurd (h p' f' e.symm) id
  · rfl
theorem zP_17 {r : V} (j : judgeF (papD (zP 17 0 1 0)) r) : r = .non := no_paper (fun p' f e => by
  have eS := e_S (p := p') (q := zP 17 0 1 0) (by rw [e])
  have l := f.sl
  rw [eS] at l
  have l : 17 = p'.c.n := l
  have := f.n16
  omega) j
theorem zP_1001 {r : V} (j : judgeF (papD (zP 1 1001 1002 1001)) r) : r = .non := no_paper (fun p' f e => by
  have eT := e_T (p := p') (q := zP 1 1001 1002 1001) (by rw [e])
  have l := f.tl
  rw [eT] at l
  have l : (List.replicate 1001 (List.replicate 1 (0 : Int))).length ≤ 1000 := l
  rw [List.length_replicate] at l
  omega) j
theorem hP_no {h : Int} (h1 : 1000000000000 < 2 * h) {r : V} (j : judgeF (papD (hP h)) r) : r = .non := no_paper (fun p' f e => by
  have eK : p'.Kw = (hP h).Kw := by
    have : (papL p')[4]? = (papL (hP h))[4]? := by rw [e]
    exact tD_inj (Option.some.inj this)
  have := (f.k.r [2 * h] (by rw [eK]; show [2 * h] ∈ [[0], [2 * h]]; simp)).2 (2 * h) (by simp)
  have := this.2
  omega) j
def nP : Pap := ⟨⟨2, [-4, 0], [[0, 4], [4, 0]], 0⟩, [], [[0, 0]], [], 0⟩
theorem nP_no {r : V} (j : judgeF (papD nP) r) : r = .non := no_paper (fun p' f e => by
  have eS := e_S (p := p') (q := nP) (by rw [e])
  have := (f.sn (-4) (by rw [eS]; show (-4 : Int) ∈ [-4, 0]; simp)).1
  omega) j
theorem shr_tD {xss : List (List Int)} (h : xss.length ≤ 10000) (g : ∀ r ∈ xss, r.length ≤ 10000) : Shr (tD xss) := by
  refine ⟨by show (xss.map iD).length ≤ _; rw [List.length_map]; exact h, fun ys e r m => ?_⟩
  unfold tD at e
  injection e with e
  rw [← e] at m
  obtain ⟨xs, mx, rfl⟩ := List.mem_map.mp m
  exact iD_len (g xs mx)
structure Lens (p : Pap) : Prop where
  s : p.c.S.length ≤ 10000
  w : p.c.W.length ≤ 10000 ∧ ∀ r ∈ p.c.W, r.length ≤ 10000
  t : p.T.length ≤ 10000 ∧ ∀ r ∈ p.T, r.length ≤ 10000
  k : p.Kw.length ≤ 10000 ∧ ∀ r ∈ p.Kw, r.length ≤ 10000
  r : p.row.length ≤ 10000
theorem lens_shr {p : Pap} (h : Lens p) : ∀ xs, papD p = .tuple xs → ∀ r ∈ xs, Shr r := by
  intro xs e r m
  have e : PyData.tuple (papL p) = .tuple xs := e
  injection e with e
  rw [← e] at m
  unfold papL at m
  simp only [List.mem_cons, List.not_mem_nil, or_false] at m
  rcases m with z | z | z | z | z | z | z <;> rw [z]
  · exact shr_int _
  · exact shr_iD h.s
  · exact shr_tD h.w.1 h.w.2
  · exact shr_tD h.t.1 h.t.2
  · exact shr_tD h.k.1 h.k.2
  · exact shr_iD (by unfold toI; rw [List.length_map]; exact h.r)
  · exact shr_int _
theorem zP_lens {n t w r : Nat} (h1 : n ≤ 10000) (h2 : t ≤ 10000) (h3 : w ≤ 10000) (h4 : r ≤ 10000) : Lens (zP n t w r) := by
  have a : ∀ {k : Nat}, ∀ r ∈ List.replicate k (List.replicate n (0 : Int)), r.length ≤ 10000 := fun r mr => by
    rw [(List.mem_replicate.mp mr).2, List.length_replicate]; exact h1
  exact ⟨by show (List.replicate n (0 : Int)).length ≤ _; rw [List.length_replicate]; exact h1, ⟨by show (List.replicate n _).length ≤ _; rw [List.length_replicate]; exact h1, a⟩, ⟨by show (List.replicate t _).length ≤ _; rw [List.length_replicate]; exact h2, a⟩, ⟨by show (List.replicate w _).length ≤ _; rw [List.length_replicate]; exact h3, a⟩, by show (List.replicate r _).length ≤ _; rw [List.length_replicate]; exact h4⟩
theorem hP_lens (h : Int) : Lens (hP h) := by
  have a : ∀ x : Int, ([x] : List Int).length ≤ 10000 := fun x => by show 1 ≤ 10000; decide
  refine ⟨a 0, ⟨by show 1 ≤ 10000; decide, fun r mr => by rw [List.mem_singleton.mp mr]; exact a 0⟩, ⟨by show 1 ≤ 10000; decide, fun r mr => by rw [List.mem_singleton.mp mr]; exact a h⟩, ⟨by show 2 ≤ 10000; decide, fun r mr => ?_⟩, by show 1 ≤ 10000; decide⟩
  have mr : r ∈ [[0], [2 * h]] := mr
  simp only [List.mem_cons, List.not_mem_nil, or_false] at mr
  rcases mr with z | z <;> rw [z]
  · exact a 0
  · exact a _
theorem nP_lens : Lens nP := by
  have a : ∀ x y : Int, ([x, y] : List Int).length ≤ 10000 := fun x y => by show 2 ≤ 10000; decide
  refine ⟨a _ _, ⟨by show 2 ≤ 10000; decide, fun r mr => ?_⟩, ⟨by show 0 ≤ 10000; decide, fun r mr => nomatch mr⟩, ⟨by show 1 ≤ 10000; decide, fun r mr => by rw [List.mem_singleton.mp mr]; exact a _ _⟩, by show 0 ≤ 10000; decide⟩
  have mr : r ∈ [[0, 4], [4, 0]] := mr
  simp only [List.mem_cons, List.not_mem_nil, or_false] at mr
  rcases mr with z | z <;> rw [z]
  · exact a _ _
  · exact a _ _

theorem repMap (n : Nat) (x : Int) : (List.range n).map (fun _ => V.int x) = (List.replicate n x).map V.int := by
  rw [List.map_replicate]
  exact List.map_const' ..|>.trans (by rw [List.length_range])
theorem TI.put {K : PySem.W.Frag} {H : Hp} {D : Addr} {l l' : List V} {v : V} {xs : List Int} (e : H D = some (.lst l)) (h : TI K H v xs) : TI K (upd H D (.lst l')) v xs := by
  obtain ⟨b, eb, hb⟩ := h
  exact ⟨b, eb, sqt_put e hb⟩
theorem ttRep {K : PySem.W.Frag} {H : Hp} {t : Addr} {vs : List V} {n : Nat} {xs : List Int} (e : SqT K H t vs) (l : vs.length = n) (g : ∀ v ∈ vs, TI K H v xs) : TT K H (.ref t) (List.replicate n xs) := by
  refine ⟨t, vs, rfl, e, by rw [l, List.length_replicate], fun i u ys e1 e2 => ?_⟩
  rw [(List.mem_replicate.mp (List.mem_of_getElem? e2)).2]
  exact g u (List.mem_of_getElem? e1)
theorem iteNE {x y : V} {α β : Prop} (h : x = y) (q : β) : if (!decide (x = y)) = true then α else β := by
  rw [if_neg (by rw [decide_eq_true h]; decide)]
  exact q
def spGreat : Sp := fun vs H Q _ => ∃ (n : Int), vs = [.int n] ∧ 0 ≤ n ∧ n < 1000 ∧ ∀ H', Same H H' → Q (.bl true) H'
section
variable {P : Program} {w : World} {K : PySem.W.Frag} {mg : Str → Option Value} {base : Heap}
theorem ok_great {f : Addr} {fd : FuncData} (F : Fun K "_law_great" "_law_great" s_law_great f fd) (T0 : Bl mg) (Djudge : Kn P w K mg base 5 "judge" ["paper"] (spJudge K)) :
    FnOk P w K mg base CX0 6 f fd ["number"] spGreat := by
  refine F.ok sc_law_great (fun vs H Q E h => ?_) (fun cdv A outer s H vs Q E hr h => ?_)
  · obtain ⟨n, rfl, _⟩ := h
    rfl
  · obtain ⟨n, rfl, h0, h1, q⟩ := h
    refine ⟨_, (pss_cons (ps_set (i := 1) sc_law_great.nd rfl (.inr rfl) (pe_callTy call_tuple_of (by rfl) T0.tuple (by decide +kernel) (pa_cons (pe_lc (own := [("k", 9)]) (g := gName 9) (tt := tYes) rfl sc_law_great.nd (pi_range1 (by rfl) T0.range (pa_cons pe_int pa_nil)) (blkOk_by (own := [("k", 9)]) (N := N_law_great) (sc := defScope s_law_great) (by decide +kernel)) (fun _ _ _ _ _ => pg_name (i := 9) sc_law_great.nd rfl (Or.inl rfl)) (fun _ _ _ _ _ => pts_nil) (fun _ _ _ _ _ => pe_int)) pa_nil)))
      (pss_cons (ps_set (i := 2) sc_law_great.nd rfl (.inl rfl) (pe_callTy call_tuple_of (by rfl) T0.tuple (by decide +kernel) (pa_cons (pe_lc (own := [("k", 9)]) (g := gName 9) (tt := tYes) rfl sc_law_great.nd (pi_range1 (by rfl) T0.range (pa_cons pe_int pa_nil)) (blkOk_by (own := [("k", 9)]) (N := N_law_great) (sc := defScope s_law_great) (by decide +kernel)) (fun _ _ _ _ _ => pg_name (i := 9) sc_law_great.nd rfl (Or.inl rfl)) (fun _ _ _ _ _ => pts_nil) (fun _ _ _ _ _ => (pv 1))) pa_nil)))
      (pss_cons (ps_set (i := 3) sc_law_great.nd rfl (.inl rfl) (pe_tup (pa_cons pe_int (pa_cons (pe_slice sl_tupA (pv 1) po_none (po_some pe_int)) (pa_cons (pe_callTy call_tuple_of (by rfl) T0.tuple (by decide +kernel) (pa_cons (pe_lc (own := [("k", 9)]) (g := gName 9) (tt := tYes) rfl sc_law_great.nd (pi_range1 (by rfl) T0.range (pa_cons pe_int pa_nil)) (blkOk_by (own := [("k", 9)]) (N := N_law_great) (sc := defScope s_law_great) (by decide +kernel)) (fun _ _ _ _ _ => pg_name (i := 9) sc_law_great.nd rfl (Or.inl rfl)) (fun _ _ _ _ _ => pts_nil) (fun _ _ _ _ _ => (pe_slice (sl_tupA_K (K := K) rfl) (pv 1) po_none (po_some pe_int)))) pa_nil)) (pa_cons (pe_tup pa_nil) (pa_cons (pe_tup (pa_cons (pe_slice sl_tupA (pv 1) po_none (po_some pe_int)) pa_nil)) (pa_cons (pe_tup pa_nil) (pa_cons pe_int pa_nil)))))))))
      (pss_cons (ps_set (i := 4) sc_law_great.nd rfl (.inl rfl) (pe_callTy call_tuple_of (by rfl) T0.tuple (by decide +kernel) (pa_cons (pe_lc (own := [("k", 9)]) (g := gName 9) (tt := tYes) rfl sc_law_great.nd (pi_range1 (by rfl) T0.range (pa_cons pe_int pa_nil)) (blkOk_by (own := [("k", 9)]) (N := N_law_great) (sc := defScope s_law_great) (by decide +kernel)) (fun _ _ _ _ _ => pg_name (i := 9) sc_law_great.nd rfl (Or.inl rfl)) (fun _ _ _ _ _ => pts_nil) (fun _ _ _ _ _ => (pe_tup (pa_cons pe_int pa_nil)))) pa_nil)))
      (pss_cons (ps_set (i := 5) sc_law_great.nd rfl (.inl rfl) (pe_tup (pa_cons pe_int (pa_cons (pe_tup (pa_cons pe_int pa_nil)) (pa_cons (pe_tup (pa_cons (pe_tup (pa_cons pe_int pa_nil)) pa_nil)) (pa_cons (pv 4) (pa_cons (pe_op op_catA (pv 4) (pe_tup (pa_cons (pe_tup (pa_cons pe_int pa_nil)) pa_nil))) (pa_cons (pe_callTy call_tuple_of (by rfl) T0.tuple (by decide +kernel) (pa_cons (pe_lc (own := [("k", 9)]) (g := gName 9) (tt := tYes) rfl sc_law_great.nd (pi_range1 (by rfl) T0.range (pa_cons pe_int pa_nil)) (blkOk_by (own := [("k", 9)]) (N := N_law_great) (sc := defScope s_law_great) (by decide +kernel)) (fun _ _ _ _ _ => pg_name (i := 9) sc_law_great.nd rfl (Or.inl rfl)) (fun _ _ _ _ _ => pts_nil) (fun _ _ _ _ _ => pe_int)) pa_nil)) (pa_cons pe_int pa_nil)))))))))
      (pss_cons (ps_set (i := 6) sc_law_great.nd rfl (.inl rfl) (pe_tup (pa_cons pe_int (pa_cons (pe_tup (pa_cons pe_int pa_nil)) (pa_cons (pe_tup (pa_cons (pe_tup (pa_cons pe_int pa_nil)) pa_nil)) (pa_cons (pe_op op_catA (pv 4) (pe_tup (pa_cons (pe_tup (pa_cons pe_int pa_nil)) pa_nil))) (pa_cons (pe_op op_catA (pv 4) (pe_tup (pa_cons (pe_tup (pa_cons pe_int pa_nil)) (pa_cons (pe_tup (pa_cons pe_int pa_nil)) pa_nil)))) (pa_cons (pe_callTy call_tuple_of (by rfl) T0.tuple (by decide +kernel) (pa_cons (pe_lc (own := [("k", 9)]) (g := gName 9) (tt := tYes) rfl sc_law_great.nd (pi_range1 (by rfl) T0.range (pa_cons pe_int pa_nil)) (blkOk_by (own := [("k", 9)]) (N := N_law_great) (sc := defScope s_law_great) (by decide +kernel)) (fun _ _ _ _ _ => pg_name (i := 9) sc_law_great.nd rfl (Or.inl rfl)) (fun _ _ _ _ _ => pts_nil) (fun _ _ _ _ _ => pe_int)) pa_nil)) (pa_cons pe_int pa_nil)))))))))
      (pss_cons (ps_if (PW.pt (pw_or (pt_cmpR op_notN (pe_kn Djudge hr (pa_cons (pe_tup (pa_cons pe_int (pa_cons (pv 1) (pa_cons (pv 2) (pa_cons (pe_tup pa_nil) (pa_cons (pe_tup (pa_cons (pv 1) pa_nil)) (pa_cons (pe_tup pa_nil) (pa_cons pe_int pa_nil)))))))) pa_nil)) pe_non (nomark _)) (pw_or1 (pt_cmpR op_ne (pe_kn Djudge hr (pa_cons (pv 3) pa_nil)) pe_int (nomark _))))) (pss_one (ps_ret pe_bl)) pss_nil)
      (pss_cons (ps_set (i := 7) sc_law_great.nd rfl (.inl rfl) (pe_op op_sub (pe_op op_mul pe_int (pe_op op_pow pe_int pe_int)) (pv 0)))
      (pss_cons (ps_if (pt_cmpR op_ne (pe_kn Djudge hr (pa_cons (pe_tup (pa_cons pe_int (pa_cons (pe_tup (pa_cons pe_int pa_nil)) (pa_cons (pe_tup (pa_cons (pe_tup (pa_cons pe_int pa_nil)) pa_nil)) (pa_cons (pe_tup (pa_cons (pe_tup (pa_cons (pv 7) pa_nil)) pa_nil)) (pa_cons (pe_tup (pa_cons (pe_tup (pa_cons pe_int pa_nil)) (pa_cons (pe_tup (pa_cons (pe_op op_mul pe_int (pv 7)) pa_nil)) pa_nil))) (pa_cons (pe_tup (pa_cons pe_int pa_nil)) (pa_cons (pv 7) pa_nil)))))))) pa_nil)) (pv 7) (nomark _)) (pss_one (ps_ret pe_bl)) pss_nil)
      (pss_cons (ps_set (i := 8) sc_law_great.nd rfl (.inl rfl) (pe_op op_sub (pe_op op_pow pe_int pe_int) (pv 0)))
      (pss_cons (ps_if (pt_cmpR op_notN (pe_kn Djudge hr (pa_cons (pe_tup (pa_cons pe_int (pa_cons (pe_tup (pa_cons pe_int pa_nil)) (pa_cons (pe_tup (pa_cons (pe_tup (pa_cons pe_int pa_nil)) pa_nil)) (pa_cons (pe_tup (pa_cons (pe_tup (pa_cons (pv 8) pa_nil)) pa_nil)) (pa_cons (pe_tup (pa_cons (pe_tup (pa_cons pe_int pa_nil)) (pa_cons (pe_tup (pa_cons (pe_op op_mul pe_int (pv 8)) pa_nil)) pa_nil))) (pa_cons (pe_tup (pa_cons pe_int pa_nil)) (pa_cons (pv 8) pa_nil)))))))) pa_nil)) pe_non (nomark _)) (pss_one (ps_ret pe_bl)) pss_nil)
      (pss_cons (ps_if (pt_cmpR op_notN (pe_kn Djudge hr (pa_cons (pe_tup (pa_cons pe_int (pa_cons (pe_tup (pa_cons (pe_un un_neg pe_int) (pa_cons pe_int pa_nil))) (pa_cons (pe_tup (pa_cons (pe_tup (pa_cons pe_int (pa_cons pe_int pa_nil))) (pa_cons (pe_tup (pa_cons pe_int (pa_cons pe_int pa_nil))) pa_nil))) (pa_cons (pe_tup pa_nil) (pa_cons (pe_tup (pa_cons (pe_tup (pa_cons pe_int (pa_cons pe_int pa_nil))) pa_nil)) (pa_cons (pe_tup pa_nil) (pa_cons pe_int pa_nil)))))))) pa_nil)) pe_non (nomark _)) (pss_one (ps_ret pe_bl)) pss_nil)
      (pss_one (ps_ret (pe_and (pe_cmpR op_eq (pe_kn Djudge hr (pa_cons (pv 5) pa_nil)) pe_int (nomark _)) (pe_one (pe_cmpR op_isN (pe_kn Djudge hr (pa_cons (pv 6) pa_nil)) pe_non (nomark _)))))))))))))))))), ?_⟩
    -- zeros
    refine ⟨_, rfl, by decide, by decide, fun D1 nD1 => ?_⟩
    refine lc_mk (walk_range (lo := 0)) (fun _ => V.int 0) (by decide) nD1 (fun _ _ => trivial) (fun i x H2 H2' N hi s2 yy fin => ?_) fun H1 s1 e1 => ?_
    · obtain ⟨rfl, ex⟩ := yy
      exact ⟨rfl, fin _ (Same.refl _)⟩
    refine ⟨D1, _, rfl, .inl ⟨SqL.of e1, fun zA nz => ?_⟩⟩
    have ez : SqT K (upd H1 zA (.tup ((List.range (17 : Int).toNat).map fun _ => V.int 0))) zA ((List.replicate 17 0).map V.int) := by
      have := SqT.of (K := K) (H := upd H1 zA (.tup ((List.range (17 : Int).toNat).map fun _ => V.int 0))) (a := zA) upd_same
      rw [show (17 : Int).toNat = 17 from rfl, repMap] at this
      exact this
    have zA1 : TI K (upd H1 zA (.tup ((List.range (17 : Int).toNat).map fun _ => V.int 0))) (.ref zA) (List.replicate 17 0) := ⟨zA, rfl, ez⟩
    have S1 := s1.trans (Same.new (o := .tup ((List.range (17 : Int).toNat).map fun _ => V.int 0)) nz)
    clear ez e1 s1 nD1
    generalize (upd H1 zA (.tup ((List.range (17 : Int).toNat).map fun _ => V.int 0))) = H2 at zA1 S1 ⊢
    clear nz
    -- ways
    refine ⟨_, rfl, by decide, by decide, fun D1 nD1 => ?_⟩
    refine lc_mk (walk_range (lo := 0)) (fun _ => V.ref zA) (by decide) nD1 (fun _ _ => trivial) (fun i x H3 H3' N hi s3 yy fin => ?_) fun H3 s3 e3 => ?_
    · obtain ⟨rfl, ex⟩ := yy
      exact ⟨rfl, _, rfl, fin _ (Same.refl _)⟩
    refine ⟨D1, _, rfl, .inl ⟨SqL.of e3, fun wA nw => ?_⟩⟩
    have s34 := Same.new (o := .tup ((List.range (17 : Int).toNat).map fun _ => V.ref zA)) nw
    have tW : TT K (upd H3 wA (.tup ((List.range (17 : Int).toNat).map fun _ => V.ref zA))) (.ref wA) (List.replicate 17 (List.replicate 17 0)) := ttRep (SqT.of upd_same) (by rw [List.length_map, List.length_range]; rfl) fun v mv => by
      obtain ⟨i, _, rfl⟩ := List.mem_map.mp mv
      exact zA1.same (s3.trans s34)
    have zA2 := zA1.same (s3.trans s34)
    have S2 := S1.trans (s3.trans s34)
    generalize (upd H3 wA (.tup ((List.range (17 : Int).toNat).map fun _ => V.ref zA))) = H4 at tW zA2 S2 ⊢
    clear e3 s3 s34 nw nD1 zA1 S1
    -- few
    obtain ⟨z', ez', zT⟩ := id zA2
    cases ez'
    refine ⟨_, rfl, _, rfl, cutA zT fun p1 H5 s5 e5 => ?_⟩
    rw [show (16 : Int) = ((16 : Nat) : Int) from rfl, cut_to] at e5
    have f1 : TI K H5 (.ref p1) (List.replicate 16 0) := ⟨p1, rfl, e5⟩
    have zT5 := sqt_same s5 zT
    refine ⟨_, rfl, by decide, by decide, fun D1 nD1 => ?_⟩
    refine lc_pr (walk_range (lo := 0)) (fun _ v H => TI K H v (List.replicate 16 0)) (fun s h => h.same s) (fun e h => h.put e) (by decide) nD1 (fun _ _ => trivial) (fun i x H6 H6' N hi s6 yy fin => ?_) fun H6 ys s6 e6 ly gy => ?_
    · obtain ⟨rfl, ex⟩ := yy
      refine ⟨rfl, _, rfl, _, rfl, cutA (sqt_same s6 zT5) fun p2 H7 s7 e7 => ?_⟩
      rw [show (16 : Int) = ((16 : Nat) : Int) from rfl, cut_to] at e7
      exact fin _ _ s7 ⟨p2, rfl, e7⟩
    refine ⟨D1, _, rfl, .inl ⟨SqL.of e6, fun fA nf => ⟨by show 0 ≤ sizeLine; decide, fun t0 nt0 => ?_⟩⟩⟩
    have sf := Same.new (o := .tup ys) nf
    have f2 : TT K (upd H6 fA (.tup ys)) (.ref fA) (List.replicate 16 (List.replicate 16 0)) := ttRep (SqT.of upd_same) ly fun v mv => by
      obtain ⟨i, ei⟩ := List.mem_iff_getElem?.mp mv
      exact (gy i v ei).same sf
    have st0 := Same.new (o := .tup []) nt0
    have f3 : TT K (upd (upd H6 fA (.tup ys)) t0 (.tup [])) (.ref t0) [] := ⟨t0, [], rfl, SqT.of upd_same, rfl, fun i u xs e => by simp at e⟩
    have s57 := s6.trans (sf.trans st0)
    have f2 := f2.same st0
    have f1 := f1.same s57
    have zT7 := sqt_same s57 zT5
    have S7 := S2.trans (s5.trans s57)
    have tW7 := tW.same (s5.trans s57)
    generalize (upd (upd H6 fA (.tup ys)) t0 (.tup [])) = H7 at f1 f2 f3 zT7 S7 tW7 ⊢
    clear gy ly e6 s6 sf st0 s57 e5 s5 zT5 zT zA2 S2 tW nf nt0 nD1
    refine ⟨_, rfl, _, rfl, cutA zT7 fun p3 H8 s8 e8 => ?_⟩
    rw [show (16 : Int) = ((16 : Nat) : Int) from rfl, cut_to] at e8
    refine ⟨by show 1 ≤ sizeLine; decide, fun t1 nt1 => ⟨by show 0 ≤ sizeLine; decide, fun t2 nt2 => ⟨by show 7 ≤ sizeLine; decide, fun t3 nt3 => ?_⟩⟩⟩
    have u1 := Same.new (o := .tup [.ref p3]) nt1
    have u2 := Same.new (o := .tup []) nt2
    have u3 := Same.new (o := .tup [.int 0, .ref p1, .ref fA, .ref t0, .ref t1, .ref t2, .int 0]) nt3
    have g1 : TT K (upd H8 t1 (.tup [.ref p3])) (.ref t1) [List.replicate 16 0] := ttRep (n := 1) (SqT.of upd_same) rfl fun v mv => by rw [List.mem_singleton.mp mv]; exact ⟨p3, rfl, sqt_same u1 e8⟩
    have g2 : TI K (upd (upd H8 t1 (.tup [.ref p3])) t2 (.tup [])) (.ref t2) (toI []) := ⟨t2, rfl, SqT.of upd_same⟩
    have u23 := u2.trans u3
    have u13 := u1.trans u23
    have few : PapAt K (upd (upd (upd H8 t1 (.tup [.ref p3])) t2 (.tup [])) t3 (.tup [.int 0, .ref p1, .ref fA, .ref t0, .ref t1, .ref t2, .int 0])) t3 (zP 16 0 1 0) := ⟨.ref p1, .ref fA, .ref t0, .ref t1, .ref t2, SqT.of upd_same, (f1.same s8).same u13, (f2.same s8).same u13, (f3.same s8).same u13, g1.same u23, g2.same u3⟩
    have S8 := S7.trans (s8.trans u13)
    have tW8 := tW7.same (s8.trans u13)
    have z8 : TI K (upd (upd (upd H8 t1 (.tup [.ref p3])) t2 (.tup [])) t3 (.tup [.int 0, .ref p1, .ref fA, .ref t0, .ref t1, .ref t2, .int 0])) (.ref zA) (List.replicate 17 0) := ⟨zA, rfl, sqt_same (s8.trans u13) zT7⟩
    generalize (upd (upd (upd H8 t1 (.tup [.ref p3])) t2 (.tup [])) t3 (.tup [.int 0, .ref p1, .ref fA, .ref t0, .ref t1, .ref t2, .int 0])) = H9 at few S8 tW8 z8 ⊢
    clear f1 f2 f3 g1 g2 u1 u2 u3 u13 u23 s8 e8 zT7 S7 tW7 nt1 nt2 nt3
    -- many
    refine ⟨_, rfl, by decide, by decide, fun D1 nD1 => ?_⟩
    refine lc_newT (walk_range (lo := 0)) (fun _ => [V.int 0]) (by decide) nD1 (fun _ _ => trivial) (fun i x H3 H3' N hi s3 yy fin => ?_) fun Ha us sa ea lu gu => ?_
    · obtain ⟨rfl, ex⟩ := yy
      exact ⟨rfl, by show 1 ≤ sizeLine; decide, fun t nt => fin _ t (Same.new nt) upd_same⟩
    refine ⟨D1, _, rfl, .inl ⟨SqL.of ea, fun mA nm => ?_⟩⟩
    have sm := Same.new (o := .tup (us.map V.ref)) nm
    have hm : SqT K (upd Ha mA (.tup (us.map V.ref))) mA (us.map V.ref) := SqT.of upd_same
    have lm : (us.map V.ref).length = 1000 := by rw [List.length_map, lu]; rfl
    have gm : ∀ v ∈ us.map V.ref, TI K (upd Ha mA (.tup (us.map V.ref))) v [0] := fun v mv => by
      obtain ⟨b, mb, rfl⟩ := List.mem_map.mp mv
      obtain ⟨i, ei⟩ := List.mem_iff_getElem?.mp mb
      exact ⟨b, rfl, SqT.of (sm _ _ (gu i b ei))⟩
    have few := few.same (sa.trans sm)
    have S9 := S8.trans (sa.trans sm)
    have tW := tW8.same (sa.trans sm)
    have z := z8.same (sa.trans sm)
    generalize us.map V.ref = vs at hm lm gm few S9 tW z ⊢
    generalize (upd Ha mA (.tup vs)) = Hb at hm gm few S9 tW z ⊢
    clear ea gu lu sa sm nm nD1 S8 tW8 z8
    have hm0 := hm
    have gm0 := gm
    -- right
    refine ⟨by show 1 ≤ sizeLine; decide, fun ta na => ⟨by show 1 ≤ sizeLine; decide, fun tb nb => ⟨by show 1 ≤ sizeLine; decide, fun tc nc => ?_⟩⟩⟩
    have s1 := Same.new (o := .tup [.int 0]) na
    have s2 := Same.new (o := .tup [.int 0]) nb
    have s3 := Same.new (o := .tup [.ref tb]) nc
    have s13 := s1.trans (s2.trans s3)
    have kA : TI K (upd (upd (upd Hb ta (.tup [.int 0])) tb (.tup [.int 0])) tc (.tup [.ref tb])) (.ref ta) [0] := TI.same (s2.trans s3) ⟨ta, rfl, SqT.of upd_same⟩
    have kB : TT K (upd (upd (upd Hb ta (.tup [.int 0])) tb (.tup [.int 0])) tc (.tup [.ref tb])) (.ref tc) [[0]] := ttRep (n := 1) (SqT.of upd_same) rfl fun v mv => by rw [List.mem_singleton.mp mv]; exact TI.same s3 ⟨tb, rfl, SqT.of upd_same⟩
    have hm1 := sqt_same s13 hm
    have gm1 := fun v mv => (gm v mv).same s13
    generalize (upd (upd (upd Hb ta (.tup [.int 0])) tb (.tup [.int 0])) tc (.tup [.ref tb])) = Hc at s13 kA kB hm1 gm1 ⊢
    refine ⟨_, rfl, ?_⟩
    refine ⟨_, rfl, by show 1 ≤ sizeLine; decide, fun td nd => ⟨by show 1 ≤ sizeLine; decide, fun te ne => ?_⟩⟩
    have s4 := Same.new (o := .tup [.int 0]) nd
    have s5 := Same.new (o := .tup [.ref td]) ne
    have s45 := s4.trans s5
    have kD : TI K (upd (upd Hc td (.tup [.int 0])) te (.tup [.ref td])) (.ref td) [0] := TI.same s5 ⟨td, rfl, SqT.of upd_same⟩
    refine catA (sqt_same s45 hm1) (SqT.of upd_same) (by rw [lm]; show 1001 ≤ sizeLine; decide) fun pe Hd s6 e6 => ?_
    have s46 := s45.trans s6
    have kE : TT K Hd (.ref pe) (List.replicate 1001 [0]) := ttRep e6 (by rw [List.length_append, lm]; rfl) fun v mv => by
      rcases List.mem_append.mp mv with zz | zz
      · exact (gm1 v zz).same s46
      · rw [List.mem_singleton.mp zz]; exact kD.same s6
    refine ⟨_, rfl, by decide, by decide, fun D2 nD2 => ?_⟩
    refine lc_mk (walk_range (lo := 0)) (fun _ => V.int 0) (by decide) nD2 (fun _ _ => trivial) (fun i x H3 H3' N hi s3 yy fin => ?_) fun He se ee => ?_
    · obtain ⟨rfl, ex⟩ := yy
      exact ⟨rfl, fin _ (Same.refl _)⟩
    refine ⟨D2, _, rfl, .inl ⟨SqL.of ee, fun rA nr => ?_⟩⟩
    have sr := Same.new (o := .tup ((List.range (1000 : Int).toNat).map fun _ => V.int 0)) nr
    have kR : TI K (upd He rA (.tup ((List.range (1000 : Int).toNat).map fun _ => V.int 0))) (.ref rA) (toI (List.replicate 1000 0)) := by
      refine ⟨rA, rfl, ?_⟩
      have := SqT.of (K := K) (H := upd He rA (.tup ((List.range (1000 : Int).toNat).map fun _ => V.int 0))) (a := rA) upd_same
      rw [show (1000 : Int).toNat = 1000 from rfl, repMap] at this
      unfold toI
      rw [List.map_replicate]
      exact this
    generalize (upd He rA (.tup ((List.range (1000 : Int).toNat).map fun _ => V.int 0))) = Hf at sr kR ⊢
    refine ⟨by show 7 ≤ sizeLine; decide, fun tR nP => ?_⟩
    have sp := Same.new (o := .tup [.int 0, .ref ta, .ref tc, .ref mA, .ref pe, .ref rA, .int 0]) nP
    have sef := se.trans (sr.trans sp)
    have sdf := s46.trans sef
    have mT : TT K Hc (.ref mA) (List.replicate 1000 [0]) := ttRep hm1 lm gm1
    have right : PapAt K (upd Hf tR (.tup [.int 0, .ref ta, .ref tc, .ref mA, .ref pe, .ref rA, .int 0])) tR (zP 1 1000 1001 1000) := ⟨.ref ta, .ref tc, .ref mA, .ref pe, .ref rA, SqT.of upd_same, kA.same sdf, kB.same sdf, mT.same sdf, kE.same sef, kR.same sp⟩
    have sbf := s13.trans sdf
    have few := few.same sbf
    have S9 := S9.trans sbf
    have tW := tW.same sbf
    have z := z.same sbf
    have hm := sqt_same sbf hm
    have gm := fun v mv => (gm v mv).same sbf
    generalize (upd Hf tR (.tup [.int 0, .ref ta, .ref tc, .ref mA, .ref pe, .ref rA, .int 0])) = Hb at right few S9 tW z hm gm ⊢
    clear kA kB kD kE kR mT sef sdf sbf sp sr se ee s46 s45 s4 s5 s6 e6 s13 s1 s2 s3 hm1 gm1 na nb nc nd ne nr nP nD2 hm0 gm0
    -- wrong
    refine ⟨by show 1 ≤ sizeLine; decide, fun ta na => ⟨by show 1 ≤ sizeLine; decide, fun tb nb => ⟨by show 1 ≤ sizeLine; decide, fun tc nc => ?_⟩⟩⟩
    have s1 := Same.new (o := .tup [.int 0]) na
    have s2 := Same.new (o := .tup [.int 0]) nb
    have s3 := Same.new (o := .tup [.ref tb]) nc
    have s13 := s1.trans (s2.trans s3)
    have kA : TI K (upd (upd (upd Hb ta (.tup [.int 0])) tb (.tup [.int 0])) tc (.tup [.ref tb])) (.ref ta) [0] := TI.same (s2.trans s3) ⟨ta, rfl, SqT.of upd_same⟩
    have kB : TT K (upd (upd (upd Hb ta (.tup [.int 0])) tb (.tup [.int 0])) tc (.tup [.ref tb])) (.ref tc) [[0]] := ttRep (n := 1) (SqT.of upd_same) rfl fun v mv => by rw [List.mem_singleton.mp mv]; exact TI.same s3 ⟨tb, rfl, SqT.of upd_same⟩
    have hm1 := sqt_same s13 hm
    have gm1 := fun v mv => (gm v mv).same s13
    generalize (upd (upd (upd Hb ta (.tup [.int 0])) tb (.tup [.int 0])) tc (.tup [.ref tb])) = Hc at s13 kA kB hm1 gm1 ⊢
    refine ⟨_, rfl, by show 1 ≤ sizeLine; decide, fun td nd => ⟨by show 1 ≤ sizeLine; decide, fun te ne => ?_⟩⟩
    have s4 := Same.new (o := .tup [.int 0]) nd
    have s5 := Same.new (o := .tup [.ref td]) ne
    have s45 := s4.trans s5
    have kD : TI K (upd (upd Hc td (.tup [.int 0])) te (.tup [.ref td])) (.ref td) [0] := TI.same s5 ⟨td, rfl, SqT.of upd_same⟩
    refine catA (sqt_same s45 hm1) (SqT.of upd_same) (by rw [lm]; show 1001 ≤ sizeLine; decide) fun pe Hd s6 e6 => ?_
    have s46 := s45.trans s6
    have kE : TT K Hd (.ref pe) (List.replicate 1001 [0]) := ttRep e6 (by rw [List.length_append, lm]; rfl) fun v mv => by
      rcases List.mem_append.mp mv with zz | zz
      · exact (gm1 v zz).same s46
      · rw [List.mem_singleton.mp zz]; exact kD.same s6
    have hm2 := sqt_same s46 hm1
    have gm2 := fun v mv => (gm1 v mv).same s46
    refine ⟨_, rfl, by show 1 ≤ sizeLine; decide, fun tg ng => ⟨by show 1 ≤ sizeLine; decide, fun th nh => ⟨by show 2 ≤ sizeLine; decide, fun tj nj => ?_⟩⟩⟩
    have s7 := Same.new (o := .tup [.int 0]) ng
    have s8 := Same.new (o := .tup [.int 0]) nh
    have s9 := Same.new (o := .tup [.ref tg, .ref th]) nj
    have s79 := s7.trans (s8.trans s9)
    have kG : TI K (upd (upd (upd Hd tg (.tup [.int 0])) th (.tup [.int 0])) tj (.tup [.ref tg, .ref th])) (.ref tg) [0] := TI.same (s8.trans s9) ⟨tg, rfl, SqT.of upd_same⟩
    have kH : TI K (upd (upd (upd Hd tg (.tup [.int 0])) th (.tup [.int 0])) tj (.tup [.ref tg, .ref th])) (.ref th) [0] := TI.same s9 ⟨th, rfl, SqT.of upd_same⟩
    refine catA (sqt_same s79 hm2) (SqT.of upd_same) (by rw [lm]; show 1002 ≤ sizeLine; decide) fun pj Hj sj ej => ?_
    have s7j := s79.trans sj
    have kJ : TT K Hj (.ref pj) (List.replicate 1002 [0]) := ttRep ej (by rw [List.length_append, lm]; rfl) fun v mv => by
      rcases List.mem_append.mp mv with zz | zz
      · exact (gm2 v zz).same s7j
      · simp only [List.mem_cons, List.not_mem_nil, or_false] at zz
        rcases zz with y | y <;> rw [y]
        · exact kG.same sj
        · exact kH.same sj
    refine ⟨_, rfl, by decide, by decide, fun D2 nD2 => ?_⟩
    refine lc_mk (walk_range (lo := 0)) (fun _ => V.int 0) (by decide) nD2 (fun _ _ => trivial) (fun i x H3 H3' N hi s3 yy fin => ?_) fun He se ee => ?_
    · obtain ⟨rfl, ex⟩ := yy
      exact ⟨rfl, fin _ (Same.refl _)⟩
    refine ⟨D2, _, rfl, .inl ⟨SqL.of ee, fun rA nr => ?_⟩⟩
    have sr := Same.new (o := .tup ((List.range (1001 : Int).toNat).map fun _ => V.int 0)) nr
    have kR : TI K (upd He rA (.tup ((List.range (1001 : Int).toNat).map fun _ => V.int 0))) (.ref rA) (toI (List.replicate 1001 0)) := by
      refine ⟨rA, rfl, ?_⟩
      have := SqT.of (K := K) (H := upd He rA (.tup ((List.range (1001 : Int).toNat).map fun _ => V.int 0))) (a := rA) upd_same
      rw [show (1001 : Int).toNat = 1001 from rfl, repMap] at this
      unfold toI
      rw [List.map_replicate]
      exact this
    generalize (upd He rA (.tup ((List.range (1001 : Int).toNat).map fun _ => V.int 0))) = Hf at sr kR ⊢
    refine ⟨by show 7 ≤ sizeLine; decide, fun tX nP => ?_⟩
    have sp := Same.new (o := .tup [.int 0, .ref ta, .ref tc, .ref pe, .ref pj, .ref rA, .int 0]) nP
    have sef := se.trans (sr.trans sp)
    have sdf := s7j.trans sef
    have scf := s46.trans sdf
    have wrong : PapAt K (upd Hf tX (.tup [.int 0, .ref ta, .ref tc, .ref pe, .ref pj, .ref rA, .int 0])) tX (zP 1 1001 1002 1001) := ⟨.ref ta, .ref tc, .ref pe, .ref pj, .ref rA, SqT.of upd_same, kA.same scf, kB.same scf, kE.same sdf, kJ.same sef, kR.same sp⟩
    have sbf := s13.trans scf
    have few := few.same sbf
    have right := right.same sbf
    have S9 := S9.trans sbf
    have tW := tW.same sbf
    have z := z.same sbf
    generalize (upd Hf tX (.tup [.int 0, .ref ta, .ref tc, .ref pe, .ref pj, .ref rA, .int 0])) = Hb at wrong right few S9 tW z ⊢
    clear kA kB kD kE kG kH kJ kR sef sdf scf sbf sp sr se ee s46 s45 s4 s5 s6 e6 s13 s1 s2 s3 hm1 gm1 hm2 gm2 hm gm s7 s8 s9 s79 s7j sj ej na nb nc nd ne ng nh nj nr nP nD2
    -- seventeen
    refine ⟨_, rfl, _, rfl, by show 0 ≤ sizeLine; decide, fun ta na => ⟨_, rfl, by show 1 ≤ sizeLine; decide, fun tb nb => ⟨by show 0 ≤ sizeLine; decide, fun tc nc => ⟨by show 7 ≤ sizeLine; decide, fun tp np => ?_⟩⟩⟩⟩
    have s1 := Same.new (o := .tup []) na
    have s2 := Same.new (o := .tup [.ref zA]) nb
    have s3 := Same.new (o := .tup []) nc
    have s4 := Same.new (o := .tup [.int 0, .ref zA, .ref wA, .ref ta, .ref tb, .ref tc, .int 0]) np
    have kA : TT K (upd Hb ta (.tup [])) (.ref ta) [] := ⟨ta, [], rfl, SqT.of upd_same, rfl, fun i u xs e => by simp at e⟩
    have kB : TT K (upd (upd Hb ta (.tup [])) tb (.tup [.ref zA])) (.ref tb) [List.replicate 17 0] := ttRep (n := 1) (SqT.of upd_same) rfl fun v mv => by rw [List.mem_singleton.mp mv]; exact z.same (s1.trans s2)
    have kC : TI K (upd (upd (upd Hb ta (.tup [])) tb (.tup [.ref zA])) tc (.tup [])) (.ref tc) (toI []) := ⟨tc, rfl, SqT.of upd_same⟩
    have s14 := s1.trans (s2.trans (s3.trans s4))
    have big : PapAt K (upd (upd (upd (upd Hb ta (.tup [])) tb (.tup [.ref zA])) tc (.tup [])) tp (.tup [.int 0, .ref zA, .ref wA, .ref ta, .ref tb, .ref tc, .int 0])) tp (zP 17 0 1 0) := ⟨.ref zA, .ref wA, .ref ta, .ref tb, .ref tc, SqT.of upd_same, z.same s14, tW.same s14, kA.same (s2.trans (s3.trans s4)), kB.same (s3.trans s4), kC.same s4⟩
    generalize (upd (upd (upd (upd Hb ta (.tup [])) tb (.tup [.ref zA])) tc (.tup [])) tp (.tup [.int 0, .ref zA, .ref wA, .ref ta, .ref tb, .ref tc, .int 0])) = Hc at s14 big ⊢
    refine ⟨_, _, rfl, pap_dp big, lens_shr (zP_lens (by decide) (by decide) (by decide) (by decide)), fun Hd r sd j => ?_⟩
    have j := zP_17 j
    subst j
    refine ⟨rfl, _, rfl, ?_⟩
    rw [show (!decide (V.non = V.non)) = false from rfl]
    refine iteF ?_
    have s2d := s14.trans sd
    refine ⟨_, rfl, _, _, rfl, pap_dp (few.same s2d), lens_shr (zP_lens (by decide) (by decide) (by decide) (by decide)), fun He r se j => ?_⟩
    have j := zP_ok (n := 16) (t := 0) (by decide) (by decide) (by decide) j
    subst j
    refine ⟨rfl, _, rfl, ?_⟩
    refine iteNE rfl ?_
    have sbe := s2d.trans se
    have right := right.same sbe
    have wrong := wrong.same sbe
    have S9 := S9.trans sbe
    clear few tW z kA kB kC s1 s2 s3 s4 s14 sd se s2d sbe big na nb nc np
    -- half
    refine ⟨_, _, rfl, rfl, ⟨by decide, by decide, by decide⟩, _, _, rfl, rfl, .inl ⟨by decide, by decide⟩, _, rfl, _, _, rfl, rfl, ?_⟩
    refine ⟨by show 1 ≤ sizeLine; decide, fun ta na => ⟨by show 1 ≤ sizeLine; decide, fun tb nb => ⟨by show 1 ≤ sizeLine; decide, fun tc nc => ⟨_, rfl, by show 1 ≤ sizeLine; decide, fun td nd => ⟨by show 1 ≤ sizeLine; decide, fun te ne => ⟨by show 1 ≤ sizeLine; decide, fun tf nf => ⟨_, rfl, _, _, rfl, rfl, .inl ⟨by decide, by decide⟩, by show 1 ≤ sizeLine; decide, fun tg ng => ⟨by show 2 ≤ sizeLine; decide, fun th nh => ⟨by show 1 ≤ sizeLine; decide, fun ti ni => ⟨_, rfl, by show 7 ≤ sizeLine; decide, fun tp np => ?_⟩⟩⟩⟩⟩⟩⟩⟩⟩⟩
    have s0 : Same He (upd He ta (.tup [.int 0])) := Same.new na
    have s1 : Same (upd He ta (.tup [.int 0])) (upd (upd He ta (.tup [.int 0])) tb (.tup [.int 0])) := Same.new nb
    have s2 : Same (upd (upd He ta (.tup [.int 0])) tb (.tup [.int 0])) (upd (upd (upd He ta (.tup [.int 0])) tb (.tup [.int 0])) tc (.tup [.ref tb])) := Same.new nc
    have s3 : Same (upd (upd (upd He ta (.tup [.int 0])) tb (.tup [.int 0])) tc (.tup [.ref tb])) (upd (upd (upd (upd He ta (.tup [.int 0])) tb (.tup [.int 0])) tc (.tup [.ref tb])) td (.tup [.int (500000000000 - n)])) := Same.new nd
    have s4 : Same (upd (upd (upd (upd He ta (.tup [.int 0])) tb (.tup [.int 0])) tc (.tup [.ref tb])) td (.tup [.int (500000000000 - n)])) (upd (upd (upd (upd (upd He ta (.tup [.int 0])) tb (.tup [.int 0])) tc (.tup [.ref tb])) td (.tup [.int (500000000000 - n)])) te (.tup [.ref td])) := Same.new ne
    have s5 : Same (upd (upd (upd (upd (upd He ta (.tup [.int 0])) tb (.tup [.int 0])) tc (.tup [.ref tb])) td (.tup [.int (500000000000 - n)])) te (.tup [.ref td])) (upd (upd (upd (upd (upd (upd He ta (.tup [.int 0])) tb (.tup [.int 0])) tc (.tup [.ref tb])) td (.tup [.int (500000000000 - n)])) te (.tup [.ref td])) tf (.tup [.int 0])) := Same.new nf
    have s6 : Same (upd (upd (upd (upd (upd (upd He ta (.tup [.int 0])) tb (.tup [.int 0])) tc (.tup [.ref tb])) td (.tup [.int (500000000000 - n)])) te (.tup [.ref td])) tf (.tup [.int 0])) (upd (upd (upd (upd (upd (upd (upd He ta (.tup [.int 0])) tb (.tup [.int 0])) tc (.tup [.ref tb])) td (.tup [.int (500000000000 - n)])) te (.tup [.ref td])) tf (.tup [.int 0])) tg (.tup [.int (2 * (500000000000 - n))])) := Same.new ng
    have s7 : Same (upd (upd (upd (upd (upd (upd (upd He ta (.tup [.int 0])) tb (.tup [.int 0])) tc (.tup [.ref tb])) td (.tup [.int (500000000000 - n)])) te (.tup [.ref td])) tf (.tup [.int 0])) tg (.tup [.int (2 * (500000000000 - n))])) (upd (upd (upd (upd (upd (upd (upd (upd He ta (.tup [.int 0])) tb (.tup [.int 0])) tc (.tup [.ref tb])) td (.tup [.int (500000000000 - n)])) te (.tup [.ref td])) tf (.tup [.int 0])) tg (.tup [.int (2 * (500000000000 - n))])) th (.tup [.ref tf, .ref tg])) := Same.new nh
    have s8 : Same (upd (upd (upd (upd (upd (upd (upd (upd He ta (.tup [.int 0])) tb (.tup [.int 0])) tc (.tup [.ref tb])) td (.tup [.int (500000000000 - n)])) te (.tup [.ref td])) tf (.tup [.int 0])) tg (.tup [.int (2 * (500000000000 - n))])) th (.tup [.ref tf, .ref tg])) (upd (upd (upd (upd (upd (upd (upd (upd (upd He ta (.tup [.int 0])) tb (.tup [.int 0])) tc (.tup [.ref tb])) td (.tup [.int (500000000000 - n)])) te (.tup [.ref td])) tf (.tup [.int 0])) tg (.tup [.int (2 * (500000000000 - n))])) th (.tup [.ref tf, .ref tg])) ti (.tup [.int 0])) := Same.new ni
    have s9 : Same (upd (upd (upd (upd (upd (upd (upd (upd (upd He ta (.tup [.int 0])) tb (.tup [.int 0])) tc (.tup [.ref tb])) td (.tup [.int (500000000000 - n)])) te (.tup [.ref td])) tf (.tup [.int 0])) tg (.tup [.int (2 * (500000000000 - n))])) th (.tup [.ref tf, .ref tg])) ti (.tup [.int 0])) (upd (upd (upd (upd (upd (upd (upd (upd (upd (upd He ta (.tup [.int 0])) tb (.tup [.int 0])) tc (.tup [.ref tb])) td (.tup [.int (500000000000 - n)])) te (.tup [.ref td])) tf (.tup [.int 0])) tg (.tup [.int (2 * (500000000000 - n))])) th (.tup [.ref tf, .ref tg])) ti (.tup [.int 0])) tp (.tup [.int 0, .ref ta, .ref tc, .ref te, .ref th, .ref ti, .int (500000000000 - n)])) := Same.new np
    have kA : TI K (upd (upd (upd (upd (upd (upd (upd (upd (upd (upd He ta (.tup [.int 0])) tb (.tup [.int 0])) tc (.tup [.ref tb])) td (.tup [.int (500000000000 - n)])) te (.tup [.ref td])) tf (.tup [.int 0])) tg (.tup [.int (2 * (500000000000 - n))])) th (.tup [.ref tf, .ref tg])) ti (.tup [.int 0])) tp (.tup [.int 0, .ref ta, .ref tc, .ref te, .ref th, .ref ti, .int (500000000000 - n)])) (.ref ta) [0] := TI.same (s1.trans (s2.trans (s3.trans (s4.trans (s5.trans (s6.trans (s7.trans (s8.trans s9)))))))) ⟨ta, rfl, SqT.of upd_same⟩
    have kB : TI K (upd (upd (upd (upd (upd (upd (upd (upd (upd (upd He ta (.tup [.int 0])) tb (.tup [.int 0])) tc (.tup [.ref tb])) td (.tup [.int (500000000000 - n)])) te (.tup [.ref td])) tf (.tup [.int 0])) tg (.tup [.int (2 * (500000000000 - n))])) th (.tup [.ref tf, .ref tg])) ti (.tup [.int 0])) tp (.tup [.int 0, .ref ta, .ref tc, .ref te, .ref th, .ref ti, .int (500000000000 - n)])) (.ref tb) [0] := TI.same (s2.trans (s3.trans (s4.trans (s5.trans (s6.trans (s7.trans (s8.trans s9))))))) ⟨tb, rfl, SqT.of upd_same⟩
    have kC : TT K (upd (upd (upd (upd (upd (upd (upd (upd (upd (upd He ta (.tup [.int 0])) tb (.tup [.int 0])) tc (.tup [.ref tb])) td (.tup [.int (500000000000 - n)])) te (.tup [.ref td])) tf (.tup [.int 0])) tg (.tup [.int (2 * (500000000000 - n))])) th (.tup [.ref tf, .ref tg])) ti (.tup [.int 0])) tp (.tup [.int 0, .ref ta, .ref tc, .ref te, .ref th, .ref ti, .int (500000000000 - n)])) (.ref tc) [[0]] := ttRep (n := 1) (sqt_same (s3.trans (s4.trans (s5.trans (s6.trans (s7.trans (s8.trans s9)))))) (SqT.of upd_same)) rfl fun v mv => by rw [List.mem_singleton.mp mv]; exact kB
    have kD : TI K (upd (upd (upd (upd (upd (upd (upd (upd (upd (upd He ta (.tup [.int 0])) tb (.tup [.int 0])) tc (.tup [.ref tb])) td (.tup [.int (500000000000 - n)])) te (.tup [.ref td])) tf (.tup [.int 0])) tg (.tup [.int (2 * (500000000000 - n))])) th (.tup [.ref tf, .ref tg])) ti (.tup [.int 0])) tp (.tup [.int 0, .ref ta, .ref tc, .ref te, .ref th, .ref ti, .int (500000000000 - n)])) (.ref td) [500000000000 - n] := TI.same (s4.trans (s5.trans (s6.trans (s7.trans (s8.trans s9))))) ⟨td, rfl, SqT.of upd_same⟩
    have kE : TT K (upd (upd (upd (upd (upd (upd (upd (upd (upd (upd He ta (.tup [.int 0])) tb (.tup [.int 0])) tc (.tup [.ref tb])) td (.tup [.int (500000000000 - n)])) te (.tup [.ref td])) tf (.tup [.int 0])) tg (.tup [.int (2 * (500000000000 - n))])) th (.tup [.ref tf, .ref tg])) ti (.tup [.int 0])) tp (.tup [.int 0, .ref ta, .ref tc, .ref te, .ref th, .ref ti, .int (500000000000 - n)])) (.ref te) [[500000000000 - n]] := ttRep (n := 1) (sqt_same (s5.trans (s6.trans (s7.trans (s8.trans s9)))) (SqT.of upd_same)) rfl fun v mv => by rw [List.mem_singleton.mp mv]; exact kD
    have kF : TI K (upd (upd (upd (upd (upd (upd (upd (upd (upd (upd He ta (.tup [.int 0])) tb (.tup [.int 0])) tc (.tup [.ref tb])) td (.tup [.int (500000000000 - n)])) te (.tup [.ref td])) tf (.tup [.int 0])) tg (.tup [.int (2 * (500000000000 - n))])) th (.tup [.ref tf, .ref tg])) ti (.tup [.int 0])) tp (.tup [.int 0, .ref ta, .ref tc, .ref te, .ref th, .ref ti, .int (500000000000 - n)])) (.ref tf) [0] := TI.same (s6.trans (s7.trans (s8.trans s9))) ⟨tf, rfl, SqT.of upd_same⟩
    have kG : TI K (upd (upd (upd (upd (upd (upd (upd (upd (upd (upd He ta (.tup [.int 0])) tb (.tup [.int 0])) tc (.tup [.ref tb])) td (.tup [.int (500000000000 - n)])) te (.tup [.ref td])) tf (.tup [.int 0])) tg (.tup [.int (2 * (500000000000 - n))])) th (.tup [.ref tf, .ref tg])) ti (.tup [.int 0])) tp (.tup [.int 0, .ref ta, .ref tc, .ref te, .ref th, .ref ti, .int (500000000000 - n)])) (.ref tg) [2 * (500000000000 - n)] := TI.same (s7.trans (s8.trans s9)) ⟨tg, rfl, SqT.of upd_same⟩
    have kH : TT K (upd (upd (upd (upd (upd (upd (upd (upd (upd (upd He ta (.tup [.int 0])) tb (.tup [.int 0])) tc (.tup [.ref tb])) td (.tup [.int (500000000000 - n)])) te (.tup [.ref td])) tf (.tup [.int 0])) tg (.tup [.int (2 * (500000000000 - n))])) th (.tup [.ref tf, .ref tg])) ti (.tup [.int 0])) tp (.tup [.int 0, .ref ta, .ref tc, .ref te, .ref th, .ref ti, .int (500000000000 - n)])) (.ref th) [[0], [2 * (500000000000 - n)]] := tt2 (sqt_same (s8.trans s9) (SqT.of upd_same)) kF kG
    have kI : TI K (upd (upd (upd (upd (upd (upd (upd (upd (upd (upd He ta (.tup [.int 0])) tb (.tup [.int 0])) tc (.tup [.ref tb])) td (.tup [.int (500000000000 - n)])) te (.tup [.ref td])) tf (.tup [.int 0])) tg (.tup [.int (2 * (500000000000 - n))])) th (.tup [.ref tf, .ref tg])) ti (.tup [.int 0])) tp (.tup [.int 0, .ref ta, .ref tc, .ref te, .ref th, .ref ti, .int (500000000000 - n)])) (.ref ti) (toI [0]) := TI.same s9 ⟨ti, rfl, SqT.of upd_same⟩
    have pp : PapAt K (upd (upd (upd (upd (upd (upd (upd (upd (upd (upd He ta (.tup [.int 0])) tb (.tup [.int 0])) tc (.tup [.ref tb])) td (.tup [.int (500000000000 - n)])) te (.tup [.ref td])) tf (.tup [.int 0])) tg (.tup [.int (2 * (500000000000 - n))])) th (.tup [.ref tf, .ref tg])) ti (.tup [.int 0])) tp (.tup [.int 0, .ref ta, .ref tc, .ref te, .ref th, .ref ti, .int (500000000000 - n)])) tp (hP (500000000000 - n)) := ⟨.ref ta, .ref tc, .ref te, .ref th, .ref ti, SqT.of upd_same, kA, kC, kE, kH, kI⟩
    have sl : Same He (upd (upd (upd (upd (upd (upd (upd (upd (upd (upd He ta (.tup [.int 0])) tb (.tup [.int 0])) tc (.tup [.ref tb])) td (.tup [.int (500000000000 - n)])) te (.tup [.ref td])) tf (.tup [.int 0])) tg (.tup [.int (2 * (500000000000 - n))])) th (.tup [.ref tf, .ref tg])) ti (.tup [.int 0])) tp (.tup [.int 0, .ref ta, .ref tc, .ref te, .ref th, .ref ti, .int (500000000000 - n)])) := (s0.trans (s1.trans (s2.trans (s3.trans (s4.trans (s5.trans (s6.trans (s7.trans (s8.trans s9)))))))))
    refine ⟨_, _, rfl, pap_dp pp, lens_shr (hP_lens _), fun Hz r sz j => ?_⟩
    have j := hP_ok (h := 500000000000 - n) (by omega) (by omega) j
    subst j
    refine ⟨_, rfl, rfl, _, rfl, ?_⟩
    refine iteNE rfl ?_
    have slz := sl.trans sz
    have right := right.same slz
    have wrong := wrong.same slz
    have S9 := S9.trans slz
    clear pp kA kB kC kD kE kF kG kH kI sl sz slz s0 s1 s2 s3 s4 s5 s6 s7 s8 s9
    clear na nb nc nd ne nf ng nh ni np
    generalize Hz = He at right wrong S9 ⊢
    -- whole
    refine ⟨_, _, rfl, rfl, ⟨by decide, by decide, by decide⟩, _, rfl, _, _, rfl, rfl, ?_⟩
    refine ⟨by show 1 ≤ sizeLine; decide, fun ta na => ⟨by show 1 ≤ sizeLine; decide, fun tb nb => ⟨by show 1 ≤ sizeLine; decide, fun tc nc => ⟨_, rfl, by show 1 ≤ sizeLine; decide, fun td nd => ⟨by show 1 ≤ sizeLine; decide, fun te ne => ⟨by show 1 ≤ sizeLine; decide, fun tf nf => ⟨_, rfl, _, _, rfl, rfl, .inl ⟨by decide, by decide⟩, by show 1 ≤ sizeLine; decide, fun tg ng => ⟨by show 2 ≤ sizeLine; decide, fun th nh => ⟨by show 1 ≤ sizeLine; decide, fun ti ni => ⟨_, rfl, by show 7 ≤ sizeLine; decide, fun tp np => ?_⟩⟩⟩⟩⟩⟩⟩⟩⟩⟩
    have s0 : Same He (upd He ta (.tup [.int 0])) := Same.new na
    have s1 : Same (upd He ta (.tup [.int 0])) (upd (upd He ta (.tup [.int 0])) tb (.tup [.int 0])) := Same.new nb
    have s2 : Same (upd (upd He ta (.tup [.int 0])) tb (.tup [.int 0])) (upd (upd (upd He ta (.tup [.int 0])) tb (.tup [.int 0])) tc (.tup [.ref tb])) := Same.new nc
    have s3 : Same (upd (upd (upd He ta (.tup [.int 0])) tb (.tup [.int 0])) tc (.tup [.ref tb])) (upd (upd (upd (upd He ta (.tup [.int 0])) tb (.tup [.int 0])) tc (.tup [.ref tb])) td (.tup [.int (1000000000000 - n)])) := Same.new nd
    have s4 : Same (upd (upd (upd (upd He ta (.tup [.int 0])) tb (.tup [.int 0])) tc (.tup [.ref tb])) td (.tup [.int (1000000000000 - n)])) (upd (upd (upd (upd (upd He ta (.tup [.int 0])) tb (.tup [.int 0])) tc (.tup [.ref tb])) td (.tup [.int (1000000000000 - n)])) te (.tup [.ref td])) := Same.new ne
    have s5 : Same (upd (upd (upd (upd (upd He ta (.tup [.int 0])) tb (.tup [.int 0])) tc (.tup [.ref tb])) td (.tup [.int (1000000000000 - n)])) te (.tup [.ref td])) (upd (upd (upd (upd (upd (upd He ta (.tup [.int 0])) tb (.tup [.int 0])) tc (.tup [.ref tb])) td (.tup [.int (1000000000000 - n)])) te (.tup [.ref td])) tf (.tup [.int 0])) := Same.new nf
    have s6 : Same (upd (upd (upd (upd (upd (upd He ta (.tup [.int 0])) tb (.tup [.int 0])) tc (.tup [.ref tb])) td (.tup [.int (1000000000000 - n)])) te (.tup [.ref td])) tf (.tup [.int 0])) (upd (upd (upd (upd (upd (upd (upd He ta (.tup [.int 0])) tb (.tup [.int 0])) tc (.tup [.ref tb])) td (.tup [.int (1000000000000 - n)])) te (.tup [.ref td])) tf (.tup [.int 0])) tg (.tup [.int (2 * (1000000000000 - n))])) := Same.new ng
    have s7 : Same (upd (upd (upd (upd (upd (upd (upd He ta (.tup [.int 0])) tb (.tup [.int 0])) tc (.tup [.ref tb])) td (.tup [.int (1000000000000 - n)])) te (.tup [.ref td])) tf (.tup [.int 0])) tg (.tup [.int (2 * (1000000000000 - n))])) (upd (upd (upd (upd (upd (upd (upd (upd He ta (.tup [.int 0])) tb (.tup [.int 0])) tc (.tup [.ref tb])) td (.tup [.int (1000000000000 - n)])) te (.tup [.ref td])) tf (.tup [.int 0])) tg (.tup [.int (2 * (1000000000000 - n))])) th (.tup [.ref tf, .ref tg])) := Same.new nh
    have s8 : Same (upd (upd (upd (upd (upd (upd (upd (upd He ta (.tup [.int 0])) tb (.tup [.int 0])) tc (.tup [.ref tb])) td (.tup [.int (1000000000000 - n)])) te (.tup [.ref td])) tf (.tup [.int 0])) tg (.tup [.int (2 * (1000000000000 - n))])) th (.tup [.ref tf, .ref tg])) (upd (upd (upd (upd (upd (upd (upd (upd (upd He ta (.tup [.int 0])) tb (.tup [.int 0])) tc (.tup [.ref tb])) td (.tup [.int (1000000000000 - n)])) te (.tup [.ref td])) tf (.tup [.int 0])) tg (.tup [.int (2 * (1000000000000 - n))])) th (.tup [.ref tf, .ref tg])) ti (.tup [.int 0])) := Same.new ni
    have s9 : Same (upd (upd (upd (upd (upd (upd (upd (upd (upd He ta (.tup [.int 0])) tb (.tup [.int 0])) tc (.tup [.ref tb])) td (.tup [.int (1000000000000 - n)])) te (.tup [.ref td])) tf (.tup [.int 0])) tg (.tup [.int (2 * (1000000000000 - n))])) th (.tup [.ref tf, .ref tg])) ti (.tup [.int 0])) (upd (upd (upd (upd (upd (upd (upd (upd (upd (upd He ta (.tup [.int 0])) tb (.tup [.int 0])) tc (.tup [.ref tb])) td (.tup [.int (1000000000000 - n)])) te (.tup [.ref td])) tf (.tup [.int 0])) tg (.tup [.int (2 * (1000000000000 - n))])) th (.tup [.ref tf, .ref tg])) ti (.tup [.int 0])) tp (.tup [.int 0, .ref ta, .ref tc, .ref te, .ref th, .ref ti, .int (1000000000000 - n)])) := Same.new np
    have kA : TI K (upd (upd (upd (upd (upd (upd (upd (upd (upd (upd He ta (.tup [.int 0])) tb (.tup [.int 0])) tc (.tup [.ref tb])) td (.tup [.int (1000000000000 - n)])) te (.tup [.ref td])) tf (.tup [.int 0])) tg (.tup [.int (2 * (1000000000000 - n))])) th (.tup [.ref tf, .ref tg])) ti (.tup [.int 0])) tp (.tup [.int 0, .ref ta, .ref tc, .ref te, .ref th, .ref ti, .int (1000000000000 - n)])) (.ref ta) [0] := TI.same (s1.trans (s2.trans (s3.trans (s4.trans (s5.trans (s6.trans (s7.trans (s8.trans s9)))))))) ⟨ta, rfl, SqT.of upd_same⟩
    have kB : TI K (upd (upd (upd (upd (upd (upd (upd (upd (upd (upd He ta (.tup [.int 0])) tb (.tup [.int 0])) tc (.tup [.ref tb])) td (.tup [.int (1000000000000 - n)])) te (.tup [.ref td])) tf (.tup [.int 0])) tg (.tup [.int (2 * (1000000000000 - n))])) th (.tup [.ref tf, .ref tg])) ti (.tup [.int 0])) tp (.tup [.int 0, .ref ta, .ref tc, .ref te, .ref th, .ref ti, .int (1000000000000 - n)])) (.ref tb) [0] := TI.same (s2.trans (s3.trans (s4.trans (s5.trans (s6.trans (s7.trans (s8.trans s9))))))) ⟨tb, rfl, SqT.of upd_same⟩
    have kC : TT K (upd (upd (upd (upd (upd (upd (upd (upd (upd (upd He ta (.tup [.int 0])) tb (.tup [.int 0])) tc (.tup [.ref tb])) td (.tup [.int (1000000000000 - n)])) te (.tup [.ref td])) tf (.tup [.int 0])) tg (.tup [.int (2 * (1000000000000 - n))])) th (.tup [.ref tf, .ref tg])) ti (.tup [.int 0])) tp (.tup [.int 0, .ref ta, .ref tc, .ref te, .ref th, .ref ti, .int (1000000000000 - n)])) (.ref tc) [[0]] := ttRep (n := 1) (sqt_same (s3.trans (s4.trans (s5.trans (s6.trans (s7.trans (s8.trans s9)))))) (SqT.of upd_same)) rfl fun v mv => by rw [List.mem_singleton.mp mv]; exact kB
    have kD : TI K (upd (upd (upd (upd (upd (upd (upd (upd (upd (upd He ta (.tup [.int 0])) tb (.tup [.int 0])) tc (.tup [.ref tb])) td (.tup [.int (1000000000000 - n)])) te (.tup [.ref td])) tf (.tup [.int 0])) tg (.tup [.int (2 * (1000000000000 - n))])) th (.tup [.ref tf, .ref tg])) ti (.tup [.int 0])) tp (.tup [.int 0, .ref ta, .ref tc, .ref te, .ref th, .ref ti, .int (1000000000000 - n)])) (.ref td) [1000000000000 - n] := TI.same (s4.trans (s5.trans (s6.trans (s7.trans (s8.trans s9))))) ⟨td, rfl, SqT.of upd_same⟩
    have kE : TT K (upd (upd (upd (upd (upd (upd (upd (upd (upd (upd He ta (.tup [.int 0])) tb (.tup [.int 0])) tc (.tup [.ref tb])) td (.tup [.int (1000000000000 - n)])) te (.tup [.ref td])) tf (.tup [.int 0])) tg (.tup [.int (2 * (1000000000000 - n))])) th (.tup [.ref tf, .ref tg])) ti (.tup [.int 0])) tp (.tup [.int 0, .ref ta, .ref tc, .ref te, .ref th, .ref ti, .int (1000000000000 - n)])) (.ref te) [[1000000000000 - n]] := ttRep (n := 1) (sqt_same (s5.trans (s6.trans (s7.trans (s8.trans s9)))) (SqT.of upd_same)) rfl fun v mv => by rw [List.mem_singleton.mp mv]; exact kD
    have kF : TI K (upd (upd (upd (upd (upd (upd (upd (upd (upd (upd He ta (.tup [.int 0])) tb (.tup [.int 0])) tc (.tup [.ref tb])) td (.tup [.int (1000000000000 - n)])) te (.tup [.ref td])) tf (.tup [.int 0])) tg (.tup [.int (2 * (1000000000000 - n))])) th (.tup [.ref tf, .ref tg])) ti (.tup [.int 0])) tp (.tup [.int 0, .ref ta, .ref tc, .ref te, .ref th, .ref ti, .int (1000000000000 - n)])) (.ref tf) [0] := TI.same (s6.trans (s7.trans (s8.trans s9))) ⟨tf, rfl, SqT.of upd_same⟩
    have kG : TI K (upd (upd (upd (upd (upd (upd (upd (upd (upd (upd He ta (.tup [.int 0])) tb (.tup [.int 0])) tc (.tup [.ref tb])) td (.tup [.int (1000000000000 - n)])) te (.tup [.ref td])) tf (.tup [.int 0])) tg (.tup [.int (2 * (1000000000000 - n))])) th (.tup [.ref tf, .ref tg])) ti (.tup [.int 0])) tp (.tup [.int 0, .ref ta, .ref tc, .ref te, .ref th, .ref ti, .int (1000000000000 - n)])) (.ref tg) [2 * (1000000000000 - n)] := TI.same (s7.trans (s8.trans s9)) ⟨tg, rfl, SqT.of upd_same⟩
    have kH : TT K (upd (upd (upd (upd (upd (upd (upd (upd (upd (upd He ta (.tup [.int 0])) tb (.tup [.int 0])) tc (.tup [.ref tb])) td (.tup [.int (1000000000000 - n)])) te (.tup [.ref td])) tf (.tup [.int 0])) tg (.tup [.int (2 * (1000000000000 - n))])) th (.tup [.ref tf, .ref tg])) ti (.tup [.int 0])) tp (.tup [.int 0, .ref ta, .ref tc, .ref te, .ref th, .ref ti, .int (1000000000000 - n)])) (.ref th) [[0], [2 * (1000000000000 - n)]] := tt2 (sqt_same (s8.trans s9) (SqT.of upd_same)) kF kG
    have kI : TI K (upd (upd (upd (upd (upd (upd (upd (upd (upd (upd He ta (.tup [.int 0])) tb (.tup [.int 0])) tc (.tup [.ref tb])) td (.tup [.int (1000000000000 - n)])) te (.tup [.ref td])) tf (.tup [.int 0])) tg (.tup [.int (2 * (1000000000000 - n))])) th (.tup [.ref tf, .ref tg])) ti (.tup [.int 0])) tp (.tup [.int 0, .ref ta, .ref tc, .ref te, .ref th, .ref ti, .int (1000000000000 - n)])) (.ref ti) (toI [0]) := TI.same s9 ⟨ti, rfl, SqT.of upd_same⟩
    have pp : PapAt K (upd (upd (upd (upd (upd (upd (upd (upd (upd (upd He ta (.tup [.int 0])) tb (.tup [.int 0])) tc (.tup [.ref tb])) td (.tup [.int (1000000000000 - n)])) te (.tup [.ref td])) tf (.tup [.int 0])) tg (.tup [.int (2 * (1000000000000 - n))])) th (.tup [.ref tf, .ref tg])) ti (.tup [.int 0])) tp (.tup [.int 0, .ref ta, .ref tc, .ref te, .ref th, .ref ti, .int (1000000000000 - n)])) tp (hP (1000000000000 - n)) := ⟨.ref ta, .ref tc, .ref te, .ref th, .ref ti, SqT.of upd_same, kA, kC, kE, kH, kI⟩
    have sl : Same He (upd (upd (upd (upd (upd (upd (upd (upd (upd (upd He ta (.tup [.int 0])) tb (.tup [.int 0])) tc (.tup [.ref tb])) td (.tup [.int (1000000000000 - n)])) te (.tup [.ref td])) tf (.tup [.int 0])) tg (.tup [.int (2 * (1000000000000 - n))])) th (.tup [.ref tf, .ref tg])) ti (.tup [.int 0])) tp (.tup [.int 0, .ref ta, .ref tc, .ref te, .ref th, .ref ti, .int (1000000000000 - n)])) := (s0.trans (s1.trans (s2.trans (s3.trans (s4.trans (s5.trans (s6.trans (s7.trans (s8.trans s9)))))))))
    refine ⟨_, _, rfl, pap_dp pp, lens_shr (hP_lens _), fun Hz r sz j => ?_⟩
    have j := hP_no (h := 1000000000000 - n) (by omega) j
    subst j
    refine ⟨rfl, _, rfl, ?_⟩
    rw [show (!decide (V.non = V.non)) = false from rfl]
    refine iteF ?_
    have slz := sl.trans sz
    have right := right.same slz
    have wrong := wrong.same slz
    have S9 := S9.trans slz
    clear pp kA kB kC kD kE kF kG kH kI sl sz slz s0 s1 s2 s3 s4 s5 s6 s7 s8 s9
    clear na nb nc nd ne nf ng nh ni np
    generalize Hz = He at right wrong S9 ⊢
    -- below zero
    refine ⟨_, rfl, by show 2 ≤ sizeLine; decide, fun ta na => ⟨by show 2 ≤ sizeLine; decide, fun tb nb => ⟨by show 2 ≤ sizeLine; decide, fun tc nc => ⟨by show 2 ≤ sizeLine; decide, fun td nd => ⟨by show 0 ≤ sizeLine; decide, fun te ne => ⟨by show 2 ≤ sizeLine; decide, fun tf nf => ⟨by show 1 ≤ sizeLine; decide, fun tg ng => ⟨by show 0 ≤ sizeLine; decide, fun th nh => ⟨by show 7 ≤ sizeLine; decide, fun tp np => ?_⟩⟩⟩⟩⟩⟩⟩⟩⟩
    have s0 : Same He (upd He ta (.tup [.int (-4), .int 0])) := Same.new na
    have s1 : Same (upd He ta (.tup [.int (-4), .int 0])) (upd (upd He ta (.tup [.int (-4), .int 0])) tb (.tup [.int 0, .int 4])) := Same.new nb
    have s2 : Same (upd (upd He ta (.tup [.int (-4), .int 0])) tb (.tup [.int 0, .int 4])) (upd (upd (upd He ta (.tup [.int (-4), .int 0])) tb (.tup [.int 0, .int 4])) tc (.tup [.int 4, .int 0])) := Same.new nc
    have s3 : Same (upd (upd (upd He ta (.tup [.int (-4), .int 0])) tb (.tup [.int 0, .int 4])) tc (.tup [.int 4, .int 0])) (upd (upd (upd (upd He ta (.tup [.int (-4), .int 0])) tb (.tup [.int 0, .int 4])) tc (.tup [.int 4, .int 0])) td (.tup [.ref tb, .ref tc])) := Same.new nd
    have s4 : Same (upd (upd (upd (upd He ta (.tup [.int (-4), .int 0])) tb (.tup [.int 0, .int 4])) tc (.tup [.int 4, .int 0])) td (.tup [.ref tb, .ref tc])) (upd (upd (upd (upd (upd He ta (.tup [.int (-4), .int 0])) tb (.tup [.int 0, .int 4])) tc (.tup [.int 4, .int 0])) td (.tup [.ref tb, .ref tc])) te (.tup [])) := Same.new ne
    have s5 : Same (upd (upd (upd (upd (upd He ta (.tup [.int (-4), .int 0])) tb (.tup [.int 0, .int 4])) tc (.tup [.int 4, .int 0])) td (.tup [.ref tb, .ref tc])) te (.tup [])) (upd (upd (upd (upd (upd (upd He ta (.tup [.int (-4), .int 0])) tb (.tup [.int 0, .int 4])) tc (.tup [.int 4, .int 0])) td (.tup [.ref tb, .ref tc])) te (.tup [])) tf (.tup [.int 0, .int 0])) := Same.new nf
    have s6 : Same (upd (upd (upd (upd (upd (upd He ta (.tup [.int (-4), .int 0])) tb (.tup [.int 0, .int 4])) tc (.tup [.int 4, .int 0])) td (.tup [.ref tb, .ref tc])) te (.tup [])) tf (.tup [.int 0, .int 0])) (upd (upd (upd (upd (upd (upd (upd He ta (.tup [.int (-4), .int 0])) tb (.tup [.int 0, .int 4])) tc (.tup [.int 4, .int 0])) td (.tup [.ref tb, .ref tc])) te (.tup [])) tf (.tup [.int 0, .int 0])) tg (.tup [.ref tf])) := Same.new ng
    have s7 : Same (upd (upd (upd (upd (upd (upd (upd He ta (.tup [.int (-4), .int 0])) tb (.tup [.int 0, .int 4])) tc (.tup [.int 4, .int 0])) td (.tup [.ref tb, .ref tc])) te (.tup [])) tf (.tup [.int 0, .int 0])) tg (.tup [.ref tf])) (upd (upd (upd (upd (upd (upd (upd (upd He ta (.tup [.int (-4), .int 0])) tb (.tup [.int 0, .int 4])) tc (.tup [.int 4, .int 0])) td (.tup [.ref tb, .ref tc])) te (.tup [])) tf (.tup [.int 0, .int 0])) tg (.tup [.ref tf])) th (.tup [])) := Same.new nh
    have s8 : Same (upd (upd (upd (upd (upd (upd (upd (upd He ta (.tup [.int (-4), .int 0])) tb (.tup [.int 0, .int 4])) tc (.tup [.int 4, .int 0])) td (.tup [.ref tb, .ref tc])) te (.tup [])) tf (.tup [.int 0, .int 0])) tg (.tup [.ref tf])) th (.tup [])) (upd (upd (upd (upd (upd (upd (upd (upd (upd He ta (.tup [.int (-4), .int 0])) tb (.tup [.int 0, .int 4])) tc (.tup [.int 4, .int 0])) td (.tup [.ref tb, .ref tc])) te (.tup [])) tf (.tup [.int 0, .int 0])) tg (.tup [.ref tf])) th (.tup [])) tp (.tup [.int 0, .ref ta, .ref td, .ref te, .ref tg, .ref th, .int 0])) := Same.new np
    have kA : TI K (upd (upd (upd (upd (upd (upd (upd (upd (upd He ta (.tup [.int (-4), .int 0])) tb (.tup [.int 0, .int 4])) tc (.tup [.int 4, .int 0])) td (.tup [.ref tb, .ref tc])) te (.tup [])) tf (.tup [.int 0, .int 0])) tg (.tup [.ref tf])) th (.tup [])) tp (.tup [.int 0, .ref ta, .ref td, .ref te, .ref tg, .ref th, .int 0])) (.ref ta) [-4, 0] := TI.same (s1.trans (s2.trans (s3.trans (s4.trans (s5.trans (s6.trans (s7.trans s8))))))) ⟨ta, rfl, SqT.of upd_same⟩
    have kB : TI K (upd (upd (upd (upd (upd (upd (upd (upd (upd He ta (.tup [.int (-4), .int 0])) tb (.tup [.int 0, .int 4])) tc (.tup [.int 4, .int 0])) td (.tup [.ref tb, .ref tc])) te (.tup [])) tf (.tup [.int 0, .int 0])) tg (.tup [.ref tf])) th (.tup [])) tp (.tup [.int 0, .ref ta, .ref td, .ref te, .ref tg, .ref th, .int 0])) (.ref tb) [0, 4] := TI.same (s2.trans (s3.trans (s4.trans (s5.trans (s6.trans (s7.trans s8)))))) ⟨tb, rfl, SqT.of upd_same⟩
    have kC : TI K (upd (upd (upd (upd (upd (upd (upd (upd (upd He ta (.tup [.int (-4), .int 0])) tb (.tup [.int 0, .int 4])) tc (.tup [.int 4, .int 0])) td (.tup [.ref tb, .ref tc])) te (.tup [])) tf (.tup [.int 0, .int 0])) tg (.tup [.ref tf])) th (.tup [])) tp (.tup [.int 0, .ref ta, .ref td, .ref te, .ref tg, .ref th, .int 0])) (.ref tc) [4, 0] := TI.same (s3.trans (s4.trans (s5.trans (s6.trans (s7.trans s8))))) ⟨tc, rfl, SqT.of upd_same⟩
    have kD : TT K (upd (upd (upd (upd (upd (upd (upd (upd (upd He ta (.tup [.int (-4), .int 0])) tb (.tup [.int 0, .int 4])) tc (.tup [.int 4, .int 0])) td (.tup [.ref tb, .ref tc])) te (.tup [])) tf (.tup [.int 0, .int 0])) tg (.tup [.ref tf])) th (.tup [])) tp (.tup [.int 0, .ref ta, .ref td, .ref te, .ref tg, .ref th, .int 0])) (.ref td) [[0, 4], [4, 0]] := tt2 (sqt_same (s4.trans (s5.trans (s6.trans (s7.trans s8)))) (SqT.of upd_same)) kB kC
    have kE : TT K (upd (upd (upd (upd (upd (upd (upd (upd (upd He ta (.tup [.int (-4), .int 0])) tb (.tup [.int 0, .int 4])) tc (.tup [.int 4, .int 0])) td (.tup [.ref tb, .ref tc])) te (.tup [])) tf (.tup [.int 0, .int 0])) tg (.tup [.ref tf])) th (.tup [])) tp (.tup [.int 0, .ref ta, .ref td, .ref te, .ref tg, .ref th, .int 0])) (.ref te) [] := ⟨te, [], rfl, sqt_same (s5.trans (s6.trans (s7.trans s8))) (SqT.of upd_same), rfl, fun i u xs e => by simp at e⟩
    have kF : TI K (upd (upd (upd (upd (upd (upd (upd (upd (upd He ta (.tup [.int (-4), .int 0])) tb (.tup [.int 0, .int 4])) tc (.tup [.int 4, .int 0])) td (.tup [.ref tb, .ref tc])) te (.tup [])) tf (.tup [.int 0, .int 0])) tg (.tup [.ref tf])) th (.tup [])) tp (.tup [.int 0, .ref ta, .ref td, .ref te, .ref tg, .ref th, .int 0])) (.ref tf) [0, 0] := TI.same (s6.trans (s7.trans s8)) ⟨tf, rfl, SqT.of upd_same⟩
    have kG : TT K (upd (upd (upd (upd (upd (upd (upd (upd (upd He ta (.tup [.int (-4), .int 0])) tb (.tup [.int 0, .int 4])) tc (.tup [.int 4, .int 0])) td (.tup [.ref tb, .ref tc])) te (.tup [])) tf (.tup [.int 0, .int 0])) tg (.tup [.ref tf])) th (.tup [])) tp (.tup [.int 0, .ref ta, .ref td, .ref te, .ref tg, .ref th, .int 0])) (.ref tg) [[0, 0]] := ttRep (n := 1) (sqt_same (s7.trans s8) (SqT.of upd_same)) rfl fun v mv => by rw [List.mem_singleton.mp mv]; exact kF
    have kH : TI K (upd (upd (upd (upd (upd (upd (upd (upd (upd He ta (.tup [.int (-4), .int 0])) tb (.tup [.int 0, .int 4])) tc (.tup [.int 4, .int 0])) td (.tup [.ref tb, .ref tc])) te (.tup [])) tf (.tup [.int 0, .int 0])) tg (.tup [.ref tf])) th (.tup [])) tp (.tup [.int 0, .ref ta, .ref td, .ref te, .ref tg, .ref th, .int 0])) (.ref th) (toI []) := TI.same s8 ⟨th, rfl, SqT.of upd_same⟩
    have pp : PapAt K (upd (upd (upd (upd (upd (upd (upd (upd (upd He ta (.tup [.int (-4), .int 0])) tb (.tup [.int 0, .int 4])) tc (.tup [.int 4, .int 0])) td (.tup [.ref tb, .ref tc])) te (.tup [])) tf (.tup [.int 0, .int 0])) tg (.tup [.ref tf])) th (.tup [])) tp (.tup [.int 0, .ref ta, .ref td, .ref te, .ref tg, .ref th, .int 0])) tp nP := ⟨.ref ta, .ref td, .ref te, .ref tg, .ref th, SqT.of upd_same, kA, kD, kE, kG, kH⟩
    have sl : Same He (upd (upd (upd (upd (upd (upd (upd (upd (upd He ta (.tup [.int (-4), .int 0])) tb (.tup [.int 0, .int 4])) tc (.tup [.int 4, .int 0])) td (.tup [.ref tb, .ref tc])) te (.tup [])) tf (.tup [.int 0, .int 0])) tg (.tup [.ref tf])) th (.tup [])) tp (.tup [.int 0, .ref ta, .ref td, .ref te, .ref tg, .ref th, .int 0])) := (s0.trans (s1.trans (s2.trans (s3.trans (s4.trans (s5.trans (s6.trans (s7.trans s8))))))))
    refine ⟨_, _, rfl, pap_dp pp, lens_shr nP_lens, fun Hz r sz j => ?_⟩
    have j := nP_no j
    subst j
    refine ⟨rfl, _, rfl, ?_⟩
    rw [show (!decide (V.non = V.non)) = false from rfl]
    refine iteF ?_
    have slz := sl.trans sz
    have right := right.same slz
    have wrong := wrong.same slz
    have S9 := S9.trans slz
    clear pp kA kB kC kD kE kF kG kH sl sz slz s0 s1 s2 s3 s4 s5 s6 s7 s8
    -- the end
    refine ⟨_, rfl, _, _, rfl, pap_dp right, lens_shr (zP_lens (by decide) (by decide) (by decide) (by decide)), fun Hy r sy j => ?_⟩
    have j := zP_ok (n := 1) (t := 1000) (by decide) (by decide) (by decide) j
    subst j
    refine ⟨rfl, _, rfl, ?_⟩
    rw [show decide (V.int 0 = V.int 0) = true from rfl]
    refine iteT ?_
    refine ⟨_, rfl, _, _, rfl, pap_dp (wrong.same sy), lens_shr (zP_lens (by decide) (by decide) (by decide) (by decide)), fun Hx r sx j => ?_⟩
    have j := zP_1001 j
    subst j
    refine ⟨rfl, ?_⟩
    rw [show decide (V.non = V.non) = true from rfl]
    exact q _ (S9.trans (sy.trans sx))
end
end K1
namespace K1
open PySem PySem.Spec PyProof.Rows L2 Ow Po Z3
abbrev slaw : Stmt := topS 26
abbrev Nlaw : List Str := ["script", "number", "paper", "value"]
theorem sclaw : FnScope Nlaw ["script"] (defScope slaw) := ⟨rfl, rfl, rfl, by decide +kernel, rfl, by decide +kernel, by decide +kernel⟩
def spLaw (K : PySem.W.Frag) : Sp := fun vs H Q _ => ∃ (a : Addr) (ns : List Int), vs = [.ref a] ∧ SqL K H a (ns.map V.int) ∧ ns.length ≤ 63 ∧ ∀ H', Q (.bl true) H'
section
variable {P : Program} {w : World} {K : PySem.W.Frag} {mg : Str → Option Value} {base : Heap}
theorem ok_law {f : Addr} {fd : FuncData} (F : Fun K "law" "law" slaw f fd) (T0 : Bl mg) (D_law_draw : Kn P w K mg base 1 "_law_draw" ["script", "k"] (spDraw K)) (D_law_paper : Kn P w K mg base 4 "_law_paper" ["number"] (spLPaper K)) (Djudge : Kn P w K mg base 5 "judge" ["paper"] (spJudge K))
    (D_law_values : Kn P w K mg base 2 "_law_values" ["paper", "number"] (spValues K)) (D_law_great : Kn P w K mg base 6 "_law_great" ["number"] spGreat) :
    FnOk P w K mg base CX0 7 f fd ["script"] (spLaw K) := by
  refine F.ok sclaw (fun vs H Q E h => ?_) (fun cdv A outer s H vs Q E hr h => ?_)
  · obtain ⟨a, ns, rfl, _⟩ := h
    rfl
  · obtain ⟨a, ns, rfl, hs, hl, q⟩ := h
    refine ⟨_, (pss_cons (ps_set (i := 1) sclaw.nd rfl (.inl rfl) (pe_op op_mod (pe_kn D_law_draw hr (pa_cons (pv 0) (pa_cons pe_int pa_nil))) pe_int))
      (pss_cons (ps_set (i := 2) sclaw.nd rfl (.inl rfl) (pe_kn D_law_paper hr (pa_cons (pv 1) pa_nil)))
      (pss_cons (ps_if (PW.pt (pw_or (pt_cmpR op_ne (pe_kn Djudge hr (pa_cons (pv 2) pa_nil)) (pe_ix ix_tup (pv 2) pe_int (fun _ _ => rfl)) (nomark _)) (pw_or1 (pt_val (pe_callB call_isi (by rfl) T0.isinstance (by decide +kernel) (pa_cons (pe_kn Djudge hr (pa_cons (pv 2) pa_nil)) (pa_cons (pe_ty "bool" (by rfl) T0.bool (by decide +kernel)) pa_nil))))))) (pss_one (ps_ret pe_bl)) pss_nil)
      (pss_cons (ps_for PassesOwn.never rfl (pi_list (pe_kn D_law_values hr (pa_cons (pv 2) (pa_cons (pv 1) pa_nil)))) (pg_name (i := 3) sclaw.nd rfl (.inl rfl)) (pss_one (ps_if (pt_cmpR op_notN (pe_kn Djudge hr (pa_cons (pv 3) pa_nil)) pe_non (nomark _)) (pss_one (ps_ret pe_bl)) pss_nil)))
      (pss_one (ps_ret (pe_or (pe_cmpR op_gt (pe_op op_mod (pv 1) pe_int) pe_int (nomark _)) (pe_one (pe_kn D_law_great hr (pa_cons (pv 1) pa_nil)))))))))), ?_⟩
    refine ⟨_, rfl, a, ns, 0, rfl, hs, hl, by decide, _, _, rfl, rfl, (by show (0 : Int) < 1000; decide), ?_⟩
    have n0 := Int.emod_nonneg (drawF ns 0) (show (1000 : Int) ≠ 0 by decide)
    have n1 := Int.emod_lt_of_pos (drawF ns 0) (show (0 : Int) < 1000 by decide)
    show gName 1 (V.int (drawF ns 0 % 1000)) _ _ _
    generalize drawF ns 0 % 1000 = n at n0 n1 ⊢
    refine ⟨_, rfl, n, rfl, n0, n1, fun H1 t s1 Pa => ?_⟩
    have fp := pF_form n
    have wf := form_wf fp
    have jr : ∀ r, judgeF (papD (pF n)) r → r = .int (pF n).spent := fun r h => by
      rcases h with ⟨p', e, f', _, _, _, rfl⟩ | ⟨h, _⟩
      · rw [← papD_inj e fp f']
      · exact absurd ⟨_, rfl, fp, good_ways (c2_good n), papP_work (c2_good n) _, papP_plan (c2_good n) _⟩ h
    obtain ⟨vS, vW, vT, vK, vR, et, _⟩ := Pa.ex
    refine ⟨_, rfl, _, _, rfl, pap_dp Pa, wf_shr wf, fun H2 r s2 j => ?_⟩
    have j := jr r j
    subst j
    refine ⟨_, rfl, t, _, 6, .int (pF n).spent, rfl, rfl, sqt_same s2 et, rfl, rfl, _, rfl, ?_⟩
    refine iteNE rfl ?_
    refine ⟨_, rfl, _, _, rfl, pap_dp (Pa.same s2), wf_shr wf, fun H3 r s3 j => ?_⟩
    have j := jr r j
    subst j
    refine ⟨_, _, .type "int", .type "bool", _, rfl, .ty _, dp_ty (.int _), ki_bool (.int (pF n).spent), ?_⟩
    refine ⟨_, rfl, iteF ?_⟩
    have s23 := s2.trans s3
    refine ⟨_, rfl, _, rfl, t, n, rfl, n0, n1, Pa.same s23, fun H4 l s4 B => ?_⟩
    obtain ⟨vs, ev, lv, gv⟩ := B
    refine ⟨l, rfl, ⟨_, SqL.of ev⟩, for_list (K := K) (a := l) (xs := vs) (fun i σ H' => ∃ v3, σ = [some (.ref a), some (.int n), some (.ref t), v3] ∧ Same H4 H') ⟨none, rfl, Same.refl _⟩ (fun i σ H' _ ⟨_, _, s⟩ => SqL.of (s _ _ ev)) ?_ ?_⟩
    · rintro i x σ H5 hx ⟨v3, rfl, s5⟩
      obtain ⟨d, hd, bd⟩ := gv x (List.mem_of_getElem? hx)
      refine ⟨_, rfl, x, d, rfl, dp_same s5 (dp_same rem_le hd), bd.1, fun H6 r s6 j => ?_⟩
      have j := bad_judge bd j
      subst j
      refine ⟨rfl, _, rfl, ?_⟩
      rw [show (!decide (V.non = V.non)) = false from rfl]
      exact iteF ⟨_, rfl, s5.trans s6⟩
    · rintro σ H5 ⟨v3, rfl, s5⟩
      refine ⟨_, rfl, _, _, rfl, rfl, (by show (0 : Int) < 9; decide), _, _, rfl, rfl, _, rfl, ?_⟩
      by_cases z : (0 : Int) < n % 9
      · rw [if_pos (decide_eq_true z)]
        exact q _
      · rw [if_neg (by rw [decide_eq_false z]; decide)]
        exact ⟨_, rfl, n, rfl, n0, n1, fun H6 s6 => q _⟩
end
end K1
namespace K1
open PySem PySem.Spec PyProof.Rows L2 Ow Po Z3
theorem kn_of {P : Program} {w : World} {K : PySem.W.Frag} {mg : Str → Option Value} {base : Heap} {k : Nat} {x qual : Str} {st : Stmt} {f : Addr} {fd : FuncData} {ps : List Str} {sp : Sp}
    (F : Fun K x qual st f fd) (g : mg x = some (.ref f)) (b : Binds K fd ps []) (ok : FnOk P w K mg base CX0 k f fd ps sp) : Kn P w K mg base k x ps sp := ⟨⟨f, fd, ok, g, F.kp, b⟩⟩
theorem all_mk {l : PySem.W.OpenLaw} {w : World} {K : PySem.W.Frag} {h : Heap} {mg : Str → Option Value} {fa : Addr} (X : K.In h) (G : h.Ns mainGlobals mg) (hfa : mg "law" = some (.ref fa))
    {f1 : Addr} {od1 an1 : Option Addr} {sl1 : Array (Option Value)} {oc1 kV1 dc1 pm1 cd1 ct1 : Value}
    {f2 : Addr} {od2 an2 : Option Addr} {sl2 : Array (Option Value)} {oc2 kV2 dc2 pm2 cd2 ct2 : Value}
    {f3 : Addr} {od3 an3 : Option Addr} {sl3 : Array (Option Value)} {oc3 kV3 dc3 pm3 cd3 ct3 : Value}
    {f4 : Addr} {od4 an4 : Option Addr} {sl4 : Array (Option Value)} {oc4 kV4 dc4 pm4 cd4 ct4 : Value}
    {f5 : Addr} {od5 an5 : Option Addr} {sl5 : Array (Option Value)} {oc5 kV5 dc5 pm5 cd5 ct5 : Value}
    {f6 : Addr} {od6 an6 : Option Addr} {sl6 : Array (Option Value)} {oc6 kV6 dc6 pm6 cd6 ct6 : Value}
    {f7 : Addr} {od7 an7 : Option Addr} {sl7 : Array (Option Value)} {oc7 kV7 dc7 pm7 cd7 ct7 : Value}
    {f8 : Addr} {od8 an8 : Option Addr} {sl8 : Array (Option Value)} {oc8 kV8 dc8 pm8 cd8 ct8 : Value}
    {f9 : Addr} {od9 an9 : Option Addr} {sl9 : Array (Option Value)} {oc9 kV9 dc9 pm9 cd9 ct9 : Value}
    {f10 : Addr} {od10 an10 : Option Addr} {sl10 : Array (Option Value)} {oc10 kV10 dc10 pm10 cd10 ct10 : Value}
    {f11 : Addr} {od11 an11 : Option Addr} {sl11 : Array (Option Value)} {oc11 kV11 dc11 pm11 cd11 ct11 : Value}
    {f12 : Addr} {od12 an12 : Option Addr} {sl12 : Array (Option Value)} {oc12 kV12 dc12 pm12 cd12 ct12 : Value}
    {f13 : Addr} {od13 an13 : Option Addr} {sl13 : Array (Option Value)} {oc13 kV13 dc13 pm13 cd13 ct13 : Value}
    {f14 : Addr} {od14 an14 : Option Addr} {sl14 : Array (Option Value)} {oc14 kV14 dc14 pm14 cd14 ct14 : Value}
    {f15 : Addr} {od15 an15 : Option Addr} {sl15 : Array (Option Value)} {oc15 kV15 dc15 pm15 cd15 ct15 : Value}
    {f16 : Addr} {od16 an16 : Option Addr} {sl16 : Array (Option Value)} {oc16 kV16 dc16 pm16 cd16 ct16 : Value}
    {f17 : Addr} {od17 an17 : Option Addr} {sl17 : Array (Option Value)} {oc17 kV17 dc17 pm17 cd17 ct17 : Value}
    {f18 : Addr} {od18 an18 : Option Addr} {sl18 : Array (Option Value)} {oc18 kV18 dc18 pm18 cd18 ct18 : Value}
    {f19 : Addr} {od19 an19 : Option Addr} {sl19 : Array (Option Value)} {oc19 kV19 dc19 pm19 cd19 ct19 : Value}
    (a1 : PySem.W.nsIn K mainGlobals "is_number" = some (some (.ref f1)))
    (l1 : K.lookup f1 = some ⟨oc1, od1, .func (PySem.W.fnOf "is_number" "is_number" (defArgs sis_number) (defBody sis_number) (defScope sis_number) .none kV1 dc1 pm1 an1 cd1 ct1), sl1⟩) (c1 : PySem.W.codeIn K cd1 "is_number" = true) (k1 : PySem.W.keepIn K (.ref f1) = true)
    (a2 : PySem.W.nsIn K mainGlobals "is_row" = some (some (.ref f2)))
    (l2 : K.lookup f2 = some ⟨oc2, od2, .func (PySem.W.fnOf "is_row" "is_row" (defArgs sis_row) (defBody sis_row) (defScope sis_row) .none kV2 dc2 pm2 an2 cd2 ct2), sl2⟩) (c2 : PySem.W.codeIn K cd2 "is_row" = true) (k2 : PySem.W.keepIn K (.ref f2) = true)
    (a3 : PySem.W.nsIn K mainGlobals "is_table" = some (some (.ref f3)))
    (l3 : K.lookup f3 = some ⟨oc3, od3, .func (PySem.W.fnOf "is_table" "is_table" (defArgs sis_table) (defBody sis_table) (defScope sis_table) .none kV3 dc3 pm3 an3 cd3 ct3), sl3⟩) (c3 : PySem.W.codeIn K cd3 "is_table" = true) (k3 : PySem.W.keepIn K (.ref f3) = true)
    (a4 : PySem.W.nsIn K mainGlobals "is_place" = some (some (.ref f4)))
    (l4 : K.lookup f4 = some ⟨oc4, od4, .func (PySem.W.fnOf "is_place" "is_place" (defArgs sis_place) (defBody sis_place) (defScope sis_place) .none kV4 dc4 pm4 an4 cd4 ct4), sl4⟩) (c4 : PySem.W.codeIn K cd4 "is_place" = true) (k4 : PySem.W.keepIn K (.ref f4) = true)
    (a5 : PySem.W.nsIn K mainGlobals "has_form" = some (some (.ref f5)))
    (l5 : K.lookup f5 = some ⟨oc5, od5, .func (PySem.W.fnOf "has_form" "has_form" (defArgs shas_form) (defBody shas_form) (defScope shas_form) .none kV5 dc5 pm5 an5 cd5 ct5), sl5⟩) (c5 : PySem.W.codeIn K cd5 "has_form" = true) (k5 : PySem.W.keepIn K (.ref f5) = true)
    (a6 : PySem.W.nsIn K mainGlobals "twice_going" = some (some (.ref f6)))
    (l6 : K.lookup f6 = some ⟨oc6, od6, .func (PySem.W.fnOf "twice_going" "twice_going" (defArgs stwice_going) (defBody stwice_going) (defScope stwice_going) .none kV6 dc6 pm6 an6 cd6 ct6), sl6⟩) (c6 : PySem.W.codeIn K cd6 "twice_going" = true) (k6 : PySem.W.keepIn K (.ref f6) = true)
    (a7 : PySem.W.nsIn K mainGlobals "ways_hold" = some (some (.ref f7)))
    (l7 : K.lookup f7 = some ⟨oc7, od7, .func (PySem.W.fnOf "ways_hold" "ways_hold" (defArgs sways_hold) (defBody sways_hold) (defScope sways_hold) .none kV7 dc7 pm7 an7 cd7 ct7), sl7⟩) (c7 : PySem.W.codeIn K cd7 "ways_hold" = true) (k7 : PySem.W.keepIn K (.ref f7) = true)
    (a8 : PySem.W.nsIn K mainGlobals "none_greater" = some (some (.ref f8)))
    (l8 : K.lookup f8 = some ⟨oc8, od8, .func (PySem.W.fnOf "none_greater" "none_greater" (defArgs snone_greater) (defBody snone_greater) (defScope snone_greater) .none kV8 dc8 pm8 an8 cd8 ct8), sl8⟩) (c8 : PySem.W.codeIn K cd8 "none_greater" = true) (k8 : PySem.W.keepIn K (.ref f8) = true)
    (a9 : PySem.W.nsIn K mainGlobals "work_holds" = some (some (.ref f9)))
    (l9 : K.lookup f9 = some ⟨oc9, od9, .func (PySem.W.fnOf "work_holds" "work_holds" (defArgs swork_holds) (defBody swork_holds) (defScope swork_holds) .none kV9 dc9 pm9 an9 cd9 ct9), sl9⟩) (c9 : PySem.W.codeIn K cd9 "work_holds" = true) (k9 : PySem.W.keepIn K (.ref f9) = true)
    (a10 : PySem.W.nsIn K mainGlobals "twice_spent" = some (some (.ref f10)))
    (l10 : K.lookup f10 = some ⟨oc10, od10, .func (PySem.W.fnOf "twice_spent" "twice_spent" (defArgs stwice_spent) (defBody stwice_spent) (defScope stwice_spent) .none kV10 dc10 pm10 an10 cd10 ct10), sl10⟩) (c10 : PySem.W.codeIn K cd10 "twice_spent" = true) (k10 : PySem.W.keepIn K (.ref f10) = true)
    (a11 : PySem.W.nsIn K mainGlobals "plan_holds" = some (some (.ref f11)))
    (l11 : K.lookup f11 = some ⟨oc11, od11, .func (PySem.W.fnOf "plan_holds" "plan_holds" (defArgs splan_holds) (defBody splan_holds) (defScope splan_holds) .none kV11 dc11 pm11 an11 cd11 ct11), sl11⟩) (c11 : PySem.W.codeIn K cd11 "plan_holds" = true) (k11 : PySem.W.keepIn K (.ref f11) = true)
    (a12 : PySem.W.nsIn K mainGlobals "judge" = some (some (.ref f12)))
    (l12 : K.lookup f12 = some ⟨oc12, od12, .func (PySem.W.fnOf "judge" "judge" (defArgs sjudge) (defBody sjudge) (defScope sjudge) .none kV12 dc12 pm12 an12 cd12 ct12), sl12⟩) (c12 : PySem.W.codeIn K cd12 "judge" = true) (k12 : PySem.W.keepIn K (.ref f12) = true)
    (a13 : PySem.W.nsIn K mainGlobals "first_least" = some (some (.ref f13)))
    (l13 : K.lookup f13 = some ⟨oc13, od13, .func (PySem.W.fnOf "first_least" "first_least" (defArgs sfirst_least) (defBody sfirst_least) (defScope sfirst_least) .none kV13 dc13 pm13 an13 cd13 ct13), sl13⟩) (c13 : PySem.W.codeIn K cd13 "first_least" = true) (k13 : PySem.W.keepIn K (.ref f13) = true)
    (a14 : PySem.W.nsIn K mainGlobals "_law_draw" = some (some (.ref f14)))
    (l14 : K.lookup f14 = some ⟨oc14, od14, .func (PySem.W.fnOf "_law_draw" "_law_draw" (defArgs s_law_draw) (defBody s_law_draw) (defScope s_law_draw) .none kV14 dc14 pm14 an14 cd14 ct14), sl14⟩) (c14 : PySem.W.codeIn K cd14 "_law_draw" = true) (k14 : PySem.W.keepIn K (.ref f14) = true)
    (a15 : PySem.W.nsIn K mainGlobals "_law_paper" = some (some (.ref f15)))
    (l15 : K.lookup f15 = some ⟨oc15, od15, .func (PySem.W.fnOf "_law_paper" "_law_paper" (defArgs s_law_paper) (defBody s_law_paper) (defScope s_law_paper) .none kV15 dc15 pm15 an15 cd15 ct15), sl15⟩) (c15 : PySem.W.codeIn K cd15 "_law_paper" = true) (k15 : PySem.W.keepIn K (.ref f15) = true)
    (a16 : PySem.W.nsIn K mainGlobals "_law_with" = some (some (.ref f16)))
    (l16 : K.lookup f16 = some ⟨oc16, od16, .func (PySem.W.fnOf "_law_with" "_law_with" (defArgs s_law_with) (defBody s_law_with) (defScope s_law_with) .none kV16 dc16 pm16 an16 cd16 ct16), sl16⟩) (c16 : PySem.W.codeIn K cd16 "_law_with" = true) (k16 : PySem.W.keepIn K (.ref f16) = true)
    (a17 : PySem.W.nsIn K mainGlobals "_law_values" = some (some (.ref f17)))
    (l17 : K.lookup f17 = some ⟨oc17, od17, .func (PySem.W.fnOf "_law_values" "_law_values" (defArgs s_law_values) (defBody s_law_values) (defScope s_law_values) .none kV17 dc17 pm17 an17 cd17 ct17), sl17⟩) (c17 : PySem.W.codeIn K cd17 "_law_values" = true) (k17 : PySem.W.keepIn K (.ref f17) = true)
    (a18 : PySem.W.nsIn K mainGlobals "_law_great" = some (some (.ref f18)))
    (l18 : K.lookup f18 = some ⟨oc18, od18, .func (PySem.W.fnOf "_law_great" "_law_great" (defArgs s_law_great) (defBody s_law_great) (defScope s_law_great) .none kV18 dc18 pm18 an18 cd18 ct18), sl18⟩) (c18 : PySem.W.codeIn K cd18 "_law_great" = true) (k18 : PySem.W.keepIn K (.ref f18) = true)
    (a19 : PySem.W.nsIn K mainGlobals "law" = some (some (.ref f19)))
    (l19 : K.lookup f19 = some ⟨oc19, od19, .func (PySem.W.fnOf "law" "law" (defArgs slaw) (defBody slaw) (defScope slaw) .none kV19 dc19 pm19 an19 cd19 ct19), sl19⟩) (c19 : PySem.W.codeIn K cd19 "law" = true) (k19 : PySem.W.keepIn K (.ref f19) = true)
    {C : Addr}
    (aC : PySem.W.nsIn K mainGlobals "Policy" = some (some (.ref C)))
    (pg : PySem.W.plainGet K C Str.empty = true) (hd : PySem.W.hasDictIn K C = true) (po : PySem.W.plainOver K C = true) (sa : PySem.W.findIn K (.ref C) "__setattr__" = some (some (.builtin "object.__setattr__"))) (mk : PySem.W.makesIn K C = true) (kc : PySem.W.keepIn K (.ref C) = true)
    (na1 : PySem.W.findIn K (.ref C) "start" = some none) (na2 : PySem.W.findIn K (.ref C) "stands" = some none) (na3 : PySem.W.findIn K (.ref C) "ways" = some none) (na4 : PySem.W.findIn K (.ref C) "now" = some none) (na5 : PySem.W.findIn K (.ref C) "spent" = some none) (na6 : PySem.W.findIn K (.ref C) "tasks" = some none) (na7 : PySem.W.findIn K (.ref C) "works" = some none)
    {fMI : Addr} {odMI anMI : Option Addr} {slMI : Array (Option Value)} {ocMI kVMI dcMI pmMI cdMI ctMI : Value}
    (aMI : PySem.W.findIn K (.ref C) "__init__" = some (some (.ref fMI))) (iMI : PySem.W.isFn K (.ref fMI) = true)
    (lMI : K.lookup fMI = some ⟨ocMI, odMI, .func (PySem.W.fnOf "__init__" "Policy.__init__" (defArgs sInit) (defBody sInit) (defScope sInit) .none kVMI dcMI pmMI anMI cdMI ctMI), slMI⟩) (cMI : PySem.W.codeIn K cdMI "Policy.__init__" = true) (kMI : PySem.W.keepIn K (.ref fMI) = true)
    {fMG : Addr} {odMG anMG : Option Addr} {slMG : Array (Option Value)} {ocMG kVMG dcMG pmMG cdMG ctMG : Value}
    (aMG : PySem.W.findIn K (.ref C) "going" = some (some (.ref fMG))) (iMG : PySem.W.isFn K (.ref fMG) = true)
    (lMG : K.lookup fMG = some ⟨ocMG, odMG, .func (PySem.W.fnOf "going" "Policy.going" (defArgs sGo) (defBody sGo) (defScope sGo) .none kVMG dcMG pmMG anMG cdMG ctMG), slMG⟩) (cMG : PySem.W.codeIn K cdMG "Policy.going" = true) (kMG : PySem.W.keepIn K (.ref fMG) = true)
    {fMS : Addr} {odMS anMS : Option Addr} {slMS : Array (Option Value)} {ocMS kVMS dcMS pmMS cdMS ctMS : Value}
    (aMS : PySem.W.findIn K (.ref C) "sums" = some (some (.ref fMS))) (iMS : PySem.W.isFn K (.ref fMS) = true)
    (lMS : K.lookup fMS = some ⟨ocMS, odMS, .func (PySem.W.fnOf "sums" "Policy.sums" (defArgs sSums) (defBody sSums) (defScope sSums) .none kVMS dcMS pmMS anMS cdMS ctMS), slMS⟩) (cMS : PySem.W.codeIn K cdMS "Policy.sums" = true) (kMS : PySem.W.keepIn K (.ref fMS) = true)
    {fMV : Addr} {odMV anMV : Option Addr} {slMV : Array (Option Value)} {ocMV kVMV dcMV pmMV cdMV ctMV : Value}
    (aMV : PySem.W.findIn K (.ref C) "serve" = some (some (.ref fMV))) (iMV : PySem.W.isFn K (.ref fMV) = true)
    (lMV : K.lookup fMV = some ⟨ocMV, odMV, .func (PySem.W.fnOf "serve" "Policy.serve" (defArgs sServe) (defBody sServe) (defScope sServe) .none kVMV dcMV pmMV anMV cdMV ctMV), slMV⟩) (cMV : PySem.W.codeIn K cdMV "Policy.serve" = true) (kMV : PySem.W.keepIn K (.ref fMV) = true)
    {fMH : Addr} {odMH anMH : Option Addr} {slMH : Array (Option Value)} {ocMH kVMH dcMH pmMH cdMH ctMH : Value}
    (aMH : PySem.W.findIn K (.ref C) "hindsight" = some (some (.ref fMH))) (iMH : PySem.W.isFn K (.ref fMH) = true)
    (lMH : K.lookup fMH = some ⟨ocMH, odMH, .func (PySem.W.fnOf "hindsight" "Policy.hindsight" (defArgs sHind) (defBody sHind) (defScope sHind) .none kVMH dcMH pmMH anMH cdMH ctMH), slMH⟩) (cMH : PySem.W.codeIn K cdMH "Policy.hindsight" = true) (kMH : PySem.W.keepIn K (.ref fMH) = true)
    {fMA : Addr} {odMA anMA : Option Addr} {slMA : Array (Option Value)} {ocMA kVMA dcMA pmMA cdMA ctMA : Value}
    (aMA : PySem.W.findIn K (.ref C) "paper" = some (some (.ref fMA))) (iMA : PySem.W.isFn K (.ref fMA) = true)
    (lMA : K.lookup fMA = some ⟨ocMA, odMA, .func (PySem.W.fnOf "paper" "Policy.paper" (defArgs sPaper) (defBody sPaper) (defScope sPaper) .none kVMA dcMA pmMA anMA cdMA ctMA), slMA⟩) (cMA : PySem.W.codeIn K cdMA "Policy.paper" = true) (kMA : PySem.W.keepIn K (.ref fMA) = true)
    {t1 t2 t3 t4 : Tok} (y1 : PySem.W.nsIn K mainGlobals "MOST_NUMBER" = some (some (.int 1000000000000 t1))) (y2 : PySem.W.nsIn K mainGlobals "MOST_LAYOUTS" = some (some (.int 16 t2))) (y3 : PySem.W.nsIn K mainGlobals "MOST_TASKS" = some (some (.int 1000 t3))) (y4 : PySem.W.nsIn K mainGlobals "PARTS" = some (some (.int 7 t4)))
    (z1 : PySem.W.nsIn K mainGlobals "range" = some none) (z2 : PySem.W.nsIn K mainGlobals "len" = some none) (z3 : PySem.W.nsIn K mainGlobals "int" = some none) (z4 : PySem.W.nsIn K mainGlobals "list" = some none) (z5 : PySem.W.nsIn K mainGlobals "zip" = some none) (z6 : PySem.W.nsIn K mainGlobals "min" = some none) (z7 : PySem.W.nsIn K mainGlobals "sum" = some none) (z8 : PySem.W.nsIn K mainGlobals "abs" = some none) (z9 : PySem.W.nsIn K mainGlobals "isinstance" = some none) (z10 : PySem.W.nsIn K mainGlobals "tuple" = some none) (z11 : PySem.W.nsIn K mainGlobals "bool" = some none) (z12 : PySem.W.nsIn K mainGlobals "all" = some none) (z13 : PySem.W.nsIn K mainGlobals "any" = some none) (z14 : PySem.W.nsIn K mainGlobals "enumerate" = some none) (z15 : PySem.W.nsIn K mainGlobals "max" = some none) (z16 : PySem.W.nsIn K mainGlobals "reversed" = some none) :
    ∃ fd : FuncData, (∀ (s : Shared) (v : Value), BindsTo s fd ⟨[v], []⟩ [("script", v)]) ∧ ∀ base : Heap, K.In base → base.Ns mainGlobals mg → FnOk l.prog w K mg base CX0 7 fa fd ["script"] (spLaw K) := by
  have e := hfa.symm.trans (PySem.W.mg_of X G a19)
  cases e
  have F1 := fun_mk (st := sis_number) l1 c1 k1
  have b1 := F1.binds (ps := ["value"]) fun _ _ _ _ _ _ us hl => match us, hl with | [_], _ => rfl
  have g1 := PySem.W.mg_of X G a1
  have F2 := fun_mk (st := sis_row) l2 c2 k2
  have b2 := F2.binds (ps := ["value", "many"]) fun _ _ _ _ _ _ us hl => match us, hl with | [_, _], _ => rfl
  have g2 := PySem.W.mg_of X G a2
  have F3 := fun_mk (st := sis_table) l3 c3 k3
  have b3 := F3.binds (ps := ["value", "many", "wide"]) fun _ _ _ _ _ _ us hl => match us, hl with | [_, _, _], _ => rfl
  have g3 := PySem.W.mg_of X G a3
  have F4 := fun_mk (st := sis_place) l4 c4 k4
  have b4 := F4.binds (ps := ["value", "many"]) fun _ _ _ _ _ _ us hl => match us, hl with | [_, _], _ => rfl
  have g4 := PySem.W.mg_of X G a4
  have F5 := fun_mk (st := shas_form) l5 c5 k5
  have b5 := F5.binds (ps := ["paper"]) fun _ _ _ _ _ _ us hl => match us, hl with | [_], _ => rfl
  have g5 := PySem.W.mg_of X G a5
  have F6 := fun_mk (st := stwice_going) l6 c6 k6
  have b6 := F6.binds (ps := ["paper", "first", "second"]) fun _ _ _ _ _ _ us hl => match us, hl with | [_, _, _], _ => rfl
  have g6 := PySem.W.mg_of X G a6
  have F7 := fun_mk (st := sways_hold) l7 c7 k7
  have b7 := F7.binds (ps := ["paper"]) fun _ _ _ _ _ _ us hl => match us, hl with | [_], _ => rfl
  have g7 := PySem.W.mg_of X G a7
  have F8 := fun_mk (st := snone_greater) l8 c8 k8
  have b8 := F8.binds (ps := ["numbers", "bounds"]) fun _ _ _ _ _ _ us hl => match us, hl with | [_, _], _ => rfl
  have g8 := PySem.W.mg_of X G a8
  have F9 := fun_mk (st := swork_holds) l9 c9 k9
  have b9 := F9.binds (ps := ["paper"]) fun _ _ _ _ _ _ us hl => match us, hl with | [_], _ => rfl
  have g9 := PySem.W.mg_of X G a9
  have F10 := fun_mk (st := stwice_spent) l10 c10 k10
  have b10 := F10.binds (ps := ["paper"]) fun _ _ _ _ _ _ us hl => match us, hl with | [_], _ => rfl
  have g10 := PySem.W.mg_of X G a10
  have F11 := fun_mk (st := splan_holds) l11 c11 k11
  have b11 := F11.binds (ps := ["paper"]) fun _ _ _ _ _ _ us hl => match us, hl with | [_], _ => rfl
  have g11 := PySem.W.mg_of X G a11
  have F12 := fun_mk (st := sjudge) l12 c12 k12
  have b12 := F12.binds (ps := ["paper"]) fun _ _ _ _ _ _ us hl => match us, hl with | [_], _ => rfl
  have g12 := PySem.W.mg_of X G a12
  have F13 := fun_mk (st := sfirst_least) l13 c13 k13
  have b13 := F13.binds (ps := ["numbers"]) fun _ _ _ _ _ _ us hl => match us, hl with | [_], _ => rfl
  have g13 := PySem.W.mg_of X G a13
  have F14 := fun_mk (st := s_law_draw) l14 c14 k14
  have b14 := F14.binds (ps := ["script", "k"]) fun _ _ _ _ _ _ us hl => match us, hl with | [_, _], _ => rfl
  have g14 := PySem.W.mg_of X G a14
  have F15 := fun_mk (st := s_law_paper) l15 c15 k15
  have b15 := F15.binds (ps := ["number"]) fun _ _ _ _ _ _ us hl => match us, hl with | [_], _ => rfl
  have g15 := PySem.W.mg_of X G a15
  have F16 := fun_mk (st := s_law_with) l16 c16 k16
  have b16 := F16.binds (ps := ["paper", "index", "value"]) fun _ _ _ _ _ _ us hl => match us, hl with | [_, _, _], _ => rfl
  have g16 := PySem.W.mg_of X G a16
  have F17 := fun_mk (st := s_law_values) l17 c17 k17
  have b17 := F17.binds (ps := ["paper", "number"]) fun _ _ _ _ _ _ us hl => match us, hl with | [_, _], _ => rfl
  have g17 := PySem.W.mg_of X G a17
  have F18 := fun_mk (st := s_law_great) l18 c18 k18
  have b18 := F18.binds (ps := ["number"]) fun _ _ _ _ _ _ us hl => match us, hl with | [_], _ => rfl
  have g18 := PySem.W.mg_of X G a18
  have F19 := fun_mk (st := slaw) l19 c19 k19
  have T : Bl mg := ⟨PySem.W.mg_none_of X G z1, PySem.W.mg_none_of X G z2, PySem.W.mg_none_of X G z3, PySem.W.mg_none_of X G z4, PySem.W.mg_none_of X G z5, PySem.W.mg_none_of X G z6, PySem.W.mg_none_of X G z7, PySem.W.mg_none_of X G z8, PySem.W.mg_none_of X G z9, PySem.W.mg_none_of X G z10, PySem.W.mg_none_of X G z11, PySem.W.mg_none_of X G z12, PySem.W.mg_none_of X G z13, PySem.W.mg_none_of X G z14, PySem.W.mg_none_of X G z15, PySem.W.mg_none_of X G z16⟩
  have Y := X
  have X : Txt K mg C := ⟨⟨pg, hd, po, sa⟩, na1, na2, na3, na4, na5, na6, na7, PySem.W.mg_of X G aC⟩
  have FMI := fun_mk (st := sInit) lMI cMI kMI
  have bMI := FMI.binds (ps := ["self", "start", "stands", "ways"]) fun _ _ _ _ _ _ us hl => match us, hl with | [_, _, _, _], _ => rfl
  have mMI : Mk K C fMI := ⟨mk, aMI, iMI, kc⟩
  have FMG := fun_mk (st := sGo) lMG cMG kMG
  have bMG := FMG.binds (ps := ["self", "first", "second"]) fun _ _ _ _ _ _ us hl => match us, hl with | [_, _, _], _ => rfl
  have mMG : Meth K C "going" fMG := ⟨aMG, iMG, kMG⟩
  have FMS := fun_mk (st := sSums) lMS cMS kMS
  have bMS := FMS.binds (ps := ["self", "at", "place"]) fun _ _ _ _ _ _ us hl => match us, hl with | [_, _, _], _ => rfl
  have mMS : Meth K C "sums" fMS := ⟨aMS, iMS, kMS⟩
  have FMV := fun_mk (st := sServe) lMV cMV kMV
  have bMV := FMV.binds (ps := ["self", "task"]) fun _ _ _ _ _ _ us hl => match us, hl with | [_, _], _ => rfl
  have mMV : Meth K C "serve" fMV := ⟨aMV, iMV, kMV⟩
  have FMH := fun_mk (st := sHind) lMH cMH kMH
  have bMH := FMH.binds (ps := ["self"]) fun _ _ _ _ _ _ us hl => match us, hl with | [_], _ => rfl
  have mMH : Meth K C "hindsight" fMH := ⟨aMH, iMH, kMH⟩
  have FMA := fun_mk (st := sPaper) lMA cMA kMA
  have bMA := FMA.binds (ps := ["self"]) fun _ _ _ _ _ _ us hl => match us, hl with | [_], _ => rfl
  have mMA : Meth K C "paper" fMA := ⟨aMA, iMA, kMA⟩
  have G0 : Gi mg := ⟨⟨t1, PySem.W.mg_of Y G y1⟩, ⟨t2, PySem.W.mg_of Y G y2⟩, ⟨t3, PySem.W.mg_of Y G y3⟩, ⟨t4, PySem.W.mg_of Y G y4⟩⟩
  refine ⟨PySem.W.fnOf "law" "law" (defArgs slaw) (defBody slaw) (defScope slaw) .none kV19 dc19 pm19 an19 cd19 ct19, fun s v => .of_eq rfl, fun base _ _ => ?_⟩
  have Dis_number : Kn l.prog w K mg base 1 "is_number" ["value"] (spIsNumber K) := kn_of F1 g1 b1 (ok_isnumber F1 T G0)
  have Dis_row : Kn l.prog w K mg base 2 "is_row" ["value", "many"] (spIsRow K) := kn_of F2 g2 b2 (ok_isrow F2 T Dis_number)
  have Dis_table : Kn l.prog w K mg base 3 "is_table" ["value", "many", "wide"] (spIsTable K) := kn_of F3 g3 b3 (ok_istable F3 T Dis_row)
  have Dis_place : Kn l.prog w K mg base 2 "is_place" ["value", "many"] (spIsPlace K) := kn_of F4 g4 b4 (ok_isplace F4 Dis_number)
  have Dhas_form : Kn l.prog w K mg base 4 "has_form" ["paper"] (spHasForm K) := kn_of F5 g5 b5 (ok_hasform F5 T G0 Dis_number Dis_row Dis_table Dis_place)
  have Dtwice_going : Kn l.prog w K mg base 1 "twice_going" ["paper", "first", "second"] (spTwice K) := kn_of F6 g6 b6 (ok_twice F6)
  have Dways_hold : Kn l.prog w K mg base 2 "ways_hold" ["paper"] (spWays K) := kn_of F7 g7 b7 (ok_ways F7 T Dtwice_going)
  have Dnone_greater : Kn l.prog w K mg base 1 "none_greater" ["numbers", "bounds"] (spNone K) := kn_of F8 g8 b8 (ok_none F8 T)
  have Dwork_holds : Kn l.prog w K mg base 2 "work_holds" ["paper"] (spWork K) := kn_of F9 g9 b9 (ok_work F9 T Dnone_greater)
  have Dtwice_spent : Kn l.prog w K mg base 2 "twice_spent" ["paper"] (spTSpent K) := kn_of F10 g10 b10 (ok_tspent F10 T Dtwice_going)
  have Dplan_holds : Kn l.prog w K mg base 3 "plan_holds" ["paper"] (spPlan K) := kn_of F11 g11 b11 (ok_plan F11 T Dtwice_spent)
  have Djudge : Kn l.prog w K mg base 5 "judge" ["paper"] (spJudge K) := kn_of F12 g12 b12 (ok_judge F12 Dhas_form Dways_hold Dwork_holds Dplan_holds)
  have Dfirst_least : Kn l.prog w K mg base 1 "first_least" ["numbers"] (spFirstLeast K) := kn_of F13 g13 b13 (ok_first_least F13 T)
  have DP : Kmk l.prog w K mg base C 1 ["self", "start", "stands", "ways"] (spInit K C) := ⟨⟨_, _, mMI, ok_init FMI T X, bMI⟩⟩
  have DG : Kmt l.prog w K mg base C 1 "going" ["self", "first", "second"] (spGoing C) := ⟨⟨_, _, mMG, ok_going FMG X, bMG⟩, X.cl⟩
  have DS : Kmt l.prog w K mg base C 1 "sums" ["self", "at", "place"] (spSums C) := ⟨⟨_, _, mMS, ok_sums FMS T X, bMS⟩, X.cl⟩
  have DV : Kmt l.prog w K mg base C 2 "serve" ["self", "task"] (spServe K C) := ⟨⟨_, _, mMV, ok_serve FMV T X Dfirst_least DG DS, bMV⟩, X.cl⟩
  have DH : Kmt l.prog w K mg base C 2 "hindsight" ["self"] (spHind C) := ⟨⟨_, _, mMH, ok_hind FMH T X Dfirst_least DS, bMH⟩, X.cl⟩
  have DA : Kmt l.prog w K mg base C 3 "paper" ["self"] (spPaper K C) := ⟨⟨_, _, mMA, ok_paper FMA T X DH, bMA⟩, X.cl⟩
  have D_law_draw : Kn l.prog w K mg base 1 "_law_draw" ["script", "k"] (spDraw K) := kn_of F14 g14 b14 (ok_draw F14 T)
  have D_law_paper : Kn l.prog w K mg base 4 "_law_paper" ["number"] (spLPaper K) := kn_of F15 g15 b15 (ok_lpaper F15 T X DP DV DA)
  have D_law_with : Kn l.prog w K mg base 1 "_law_with" ["paper", "index", "value"] (spWith K) := kn_of F16 g16 b16 (ok_with F16)
  have D_law_values : Kn l.prog w K mg base 2 "_law_values" ["paper", "number"] (spValues K) := kn_of F17 g17 b17 (ok_values F17 T D_law_with)
  have D_law_great : Kn l.prog w K mg base 6 "_law_great" ["number"] (spGreat) := kn_of F18 g18 b18 (ok_great F18 T Djudge)
  exact ok_law F19 T D_law_draw D_law_paper Djudge D_law_values D_law_great
end K1
open PySem PySem.W PyProof.Rows
set_option maxHeartbeats 0 in
theorem PySem.Challenge.cw_turnshelves_k47_papers_without_the_form_holds : PySem.Challenge.rw_turnshelves_k47_papers_without_the_form.Holds := by
  w_on; o_law; k_head; (case hw => w_witness2)
  k_fill
  refine L2.walk_of (l := PySem.Challenge.rw_turnshelves_k47_papers_without_the_form) (n := 63) (k := 7) (x := "script") (CX := fun _ => L2.CX0) (sp := fun w => K1.spLaw _) rfl (by decide) rfl ⟨rfl, by decide, by decide⟩ (fun w h Y => PySem.W.kIn_of Y) ?F (fun _ _ a ns hl _ hS => ⟨a, ns, rfl, hS, hl, fun _ => rfl⟩) (fun _ _ _ _ _ h => h)
  case F =>
    intro w mg fa h KX G hmg
    refine' K1.all_mk KX G hmg ?a1 ?l1 ?c1 ?k1 ?a2 ?l2 ?c2 ?k2 ?a3 ?l3 ?c3 ?k3 ?a4 ?l4 ?c4 ?k4 ?a5 ?l5 ?c5 ?k5 ?a6 ?l6 ?c6 ?k6 ?a7 ?l7 ?c7 ?k7 ?a8 ?l8 ?c8 ?k8 ?a9 ?l9 ?c9 ?k9 ?a10 ?l10 ?c10 ?k10 ?a11 ?l11 ?c11 ?k11 ?a12 ?l12 ?c12 ?k12 ?a13 ?l13 ?c13 ?k13 ?a14 ?l14 ?c14 ?k14 ?a15 ?l15 ?c15 ?k15 ?a16 ?l16 ?c16 ?k16 ?a17 ?l17 ?c17 ?k17 ?a18 ?l18 ?c18 ?k18 ?a19 ?l19 ?c19 ?k19 ?aC ?pg ?hd ?po ?sa ?mk ?kc ?na1 ?na2 ?na3 ?na4 ?na5 ?na6 ?na7 ?aMI ?iMI ?lMI ?cMI ?kMI ?aMG ?iMG ?lMG ?cMG ?kMG ?aMS ?iMS ?lMS ?cMS ?kMS ?aMV ?iMV ?lMV ?cMV ?kMV ?aMH ?iMH ?lMH ?cMH ?kMH ?aMA ?iMA ?lMA ?cMA ?kMA ?y1 ?y2 ?y3 ?y4 ?z1 ?z2 ?z3 ?z4 ?z5 ?z6 ?z7 ?z8 ?z9 ?z10 ?z11 ?z12 ?z13 ?z14 ?z15 ?z16
    (case a1 => k_is); (case l1 => k_is); (case c1 => k_is); (case k1 => k_is); (case a2 => k_is); (case l2 => k_is); (case c2 => k_is); (case k2 => k_is); (case a3 => k_is); (case l3 => k_is); (case c3 => k_is); (case k3 => k_is); (case a4 => k_is); (case l4 => k_is); (case c4 => k_is); (case k4 => k_is); (case a5 => k_is); (case l5 => k_is); (case c5 => k_is); (case k5 => k_is); (case a6 => k_is); (case l6 => k_is); (case c6 => k_is); (case k6 => k_is); (case a7 => k_is); (case l7 => k_is); (case c7 => k_is); (case k7 => k_is); (case a8 => k_is); (case l8 => k_is); (case c8 => k_is); (case k8 => k_is); (case a9 => k_is); (case l9 => k_is); (case c9 => k_is); (case k9 => k_is); (case a10 => k_is); (case l10 => k_is); (case c10 => k_is); (case k10 => k_is); (case a11 => k_is); (case l11 => k_is); (case c11 => k_is); (case k11 => k_is); (case a12 => k_is); (case l12 => k_is); (case c12 => k_is); (case k12 => k_is); (case a13 => k_is); (case l13 => k_is); (case c13 => k_is); (case k13 => k_is); (case a14 => k_is); (case l14 => k_is); (case c14 => k_is); (case k14 => k_is); (case a15 => k_is); (case l15 => k_is); (case c15 => k_is); (case k15 => k_is); (case a16 => k_is); (case l16 => k_is); (case c16 => k_is); (case k16 => k_is); (case a17 => k_is); (case l17 => k_is); (case c17 => k_is); (case k17 => k_is); (case a18 => k_is); (case l18 => k_is); (case c18 => k_is); (case k18 => k_is); (case a19 => k_is); (case l19 => k_is); (case c19 => k_is); (case k19 => k_is); (case aC => k_is); (case pg => k_is); (case hd => k_is); (case po => k_is); (case sa => k_is); (case mk => k_is); (case kc => k_is); (case na1 => k_is); (case na2 => k_is); (case na3 => k_is); (case na4 => k_is); (case na5 => k_is); (case na6 => k_is); (case na7 => k_is); (case aMI => k_is); (case iMI => k_is); (case lMI => k_is); (case cMI => k_is); (case kMI => k_is); (case aMG => k_is); (case iMG => k_is); (case lMG => k_is); (case cMG => k_is); (case kMG => k_is); (case aMS => k_is); (case iMS => k_is); (case lMS => k_is); (case cMS => k_is); (case kMS => k_is); (case aMV => k_is); (case iMV => k_is); (case lMV => k_is); (case cMV => k_is); (case kMV => k_is); (case aMH => k_is); (case iMH => k_is); (case lMH => k_is); (case cMH => k_is); (case kMH => k_is); (case aMA => k_is); (case iMA => k_is); (case lMA => k_is); (case cMA => k_is); (case kMA => k_is); (case y1 => k_is); (case y2 => k_is); (case y3 => k_is); (case y4 => k_is); (case z1 => k_is); (case z2 => k_is); (case z3 => k_is); (case z4 => k_is); (case z5 => k_is); (case z6 => k_is); (case z7 => k_is); (case z8 => k_is); (case z9 => k_is); (case z10 => k_is); (case z11 => k_is); (case z12 => k_is); (case z13 => k_is); (case z14 => k_is); (case z15 => k_is); (case z16 => k_is)
