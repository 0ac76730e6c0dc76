import PyProof.Rows.All
import Wide.All
import OpenK.AllK
import Wide.FinOn
import HandS.GenList
import KE.GoesMore
import KE.KStar
import HandS.ForMost
import HandS.Star
import HandS.Walk
import HandS.SlotsOwn
import HandS.ClsMeth
import HandS.Property
import HandS.OwnEq
import KE.KOpsOwn
import HandS.Text
import HandS.Replace
import HandS.Codes
import HandS.IsInst
import HandS.SetKeys
import HandS.Comp
import PyProof.Rows.StrPadFill
import PyProof.Rows.StrStrike
import HandS.ExcInit
import HandS.Nested
import HandS.FStr
import KE.KExcSuper
import KE.KSuper
import HandS.WordsExc
import HandS.ExcIs
import HandS.ExcField
import HandS.Lambda
import KE.KExcIs
import HandS.TupSets
import PyProof.InstNe
import HandS.ExcOwn
import PyProof.ExcBaseAll.ValueError
import HandS.StrMore
import HandS.DictComp
import PyProof.StrBlock2
import PyProof.ListStr
import HandS.Dict
import KE.KMathG
import HandS.Gcd
import HandS.Style
import PyProof.Rows.StrCountLaw
import HandS.SortInts
import HandS.Deep
import HandS.EndTab
import KE.KNestM
import HandS.Ends
import PySem.Challenge.RW_tiltheap_k18_whole_heaps_and_corners
section
set_option Elab.async false
set_option maxRecDepth 100000
set_option linter.all false
namespace TG
open PySem
open Sem (wp)
/-- asleep -/
def Sus : GenState → Bool
  | .suspended .. => true
  | _ => false
/-- the state with another table -/
abbrev wg (s : Shared) (G : Array GenState) : Shared := { s with gens := G }
end TG
end
namespace TG
end TG
section
set_option Elab.async false
set_option maxRecDepth 100000
set_option maxHeartbeats 4000000
namespace TH
open PySem PySem.Spec PyProof.Rows L2

/-- texts with their tokens -/
abbrev Tx := List (Str × Tok)
abbrev txv (ts : Tx) : List Value := ts.map fun v => .str v.1 v.2
abbrev txo (v : Str × Tok) : Obj := { cls := .type (strIterType v.1), data := .fields #[.str v.1 v.2, .int 0 0] }
def laid (h : Heap) : Tx → Heap
  | [] => h
  | v :: r => laid (h.push (txo v)) r
def refs (n : Nat) : Nat → List Value
  | 0 => []
  | k + 1 => .ref n :: refs (n + 1) k
theorem laid_size : ∀ (ts : Tx) (h : Heap), (laid h ts).objs.size = h.objs.size + ts.length
  | [], h => rfl
  | v :: r, h => by
    show (laid (h.push (txo v)) r).objs.size = _
    rw [laid_size r, Heap.size_push, List.length_cons]
    omega
theorem laid_old : ∀ (ts : Tx) (h : Heap) (b : Addr) (o : Obj), h.get? b = some o → (laid h ts).get? b = some o
  | [], _, _, _, e => e
  | _ :: r, _, b, o, e => laid_old r _ b o (Heap.get?_push_of_some _ e)
theorem laid_at : ∀ (ts : Tx) (h : Heap) (k : Nat) (v : Str × Tok), ts[k]? = some v → (laid h ts).get? (h.objs.size + k) = some (txo v)
  | [], _, k, _, e => by simp at e
  | u :: r, h, 0, v, e => by
    have e' : u = v := by simpa using e
    subst e'
    exact laid_old r _ _ _ (Heap.get?_push_size _ rfl)
  | u :: r, h, k + 1, v, e => by
    have z := laid_at r (h.push (txo u)) k v (by simpa using e)
    rw [Heap.size_push] at z
    have e2 : h.objs.size + 1 + k = h.objs.size + (k + 1) := by omega
    rw [e2] at z
    exact z
theorem refs_length (n : Nat) : ∀ k, (refs n k).length = k := fun k => by
  induction k generalizing n with
  | zero => rfl
  | succ k ih => show (refs (n + 1) k).length + 1 = k + 1; rw [ih]
theorem refs_at : ∀ (n k i : Nat), i < k → (refs n k)[i]? = some (.ref (n + i))
  | n, 0, i, h => absurd h (Nat.not_lt_zero _)
  | n, k + 1, 0, _ => rfl
  | n, k + 1, i + 1, h => by
    have z := refs_at (n + 1) k i (Nat.lt_of_succ_lt_succ h)
    have e : n + 1 + i = n + (i + 1) := by omega
    rw [e] at z
    simpa [refs] using z

section
variable {prog : Program} {w : World} {A : Around} {E : Value → Shared → Prop}
theorem iterAll_texts : ∀ (ts : Tx) (acc : Array Value) (s : Shared) (Q : Array Value → Shared → Prop), Q (acc ++ (refs s.heap.objs.size ts.length).toArray) { s with heap := laid s.heap ts } →
    wpAny (model prog w) A (forIn (txv ts) acc fun x r => (do let y ← holding r.toList (pyIter x); pure (ForInStep.yield (r.push y)))) Q E s
  | [], acc, s, Q, h => by
    rw [txv, List.map_nil, List.forIn_nil]
    refine wpAny_pure ?_
    simpa [refs, laid] using h
  | v :: r, acc, s, Q, h => by
    rw [txv, List.map_cons, List.forIn_cons]
    refine wpAny_bind (wpAny_bind (wpAny_holding (wpAny_pyIter_strU (wpAny_pure ?_))))
    refine iterAll_texts r _ _ Q ?_
    have e : acc.push (.ref s.heap.objs.size) ++ (refs (s.heap.push (txo v)).objs.size r.length).toArray = acc ++ (refs s.heap.objs.size (r.length + 1)).toArray := by
      rw [Heap.size_push]
      apply Array.toList_inj.mp
      simp [refs]
    show Q (acc.push (.ref s.heap.objs.size) ++ (refs (s.heap.push (txo v)).objs.size r.length).toArray) _
    rw [e]
    exact h
theorem iterAll_ok (ts : Tx) {s : Shared} {Q : List Value → Shared → Prop} (h : Q (refs s.heap.objs.size ts.length) { s with heap := laid s.heap ts }) :
    wpAny (model prog w) A (Builtin.SmallTypes.iterAll (txv ts)) Q E s := by
  unfold Builtin.SmallTypes.iterAll
  refine wpAny_bind (iterAll_texts ts #[] s _ ?_)
  refine wpAny_pure ?_
  simpa using h
end
end TH
end
section
set_option Elab.async false
set_option maxRecDepth 100000
set_option maxHeartbeats 4000000
namespace TH
open PySem PySem.Spec PyProof.Rows L2

abbrev tupO (l : List Value) : Obj := { cls := .type "tuple", data := .seq l.toArray }
abbrev zipO (f0 f1 : Value) (TI TO : Addr) : Obj := { cls := .type "zip", data := .fields #[f0, f1, .bool false, .ref TI, .ref TO] }
def zheap (h : Heap) (ts : Tx) : Heap :=
  (((laid h ts).push (tupO (refs h.objs.size ts.length))).push (tupO ((refs h.objs.size ts.length).map fun _ => .none))).push (zipO .none (.bool false) (h.objs.size + ts.length) (h.objs.size + ts.length + 1))

theorem argsOk_init : ∀ (obj : Value) (ts : Tx), ts.length ≤ 8 → argsOk "object.__init__" ⟨obj :: txv ts, []⟩
  | obj, [], _ => by show argsOk "object.__init__" ⟨[obj], []⟩; unfold argsOk; kernel_rfl
  | obj, [a], _ => by show argsOk "object.__init__" ⟨[obj, _], []⟩; unfold argsOk; kernel_rfl
  | obj, [a, b], _ => by show argsOk "object.__init__" ⟨[obj, _, _], []⟩; unfold argsOk; kernel_rfl
  | obj, [a, b, c], _ => by show argsOk "object.__init__" ⟨[obj, _, _, _], []⟩; unfold argsOk; kernel_rfl
  | obj, [a, b, c, d], _ => by show argsOk "object.__init__" ⟨[obj, _, _, _, _], []⟩; unfold argsOk; kernel_rfl
  | obj, [a, b, c, d, e], _ => by show argsOk "object.__init__" ⟨[obj, _, _, _, _, _], []⟩; unfold argsOk; kernel_rfl
  | obj, [a, b, c, d, e, f], _ => by show argsOk "object.__init__" ⟨[obj, _, _, _, _, _, _], []⟩; unfold argsOk; kernel_rfl
  | obj, [a, b, c, d, e, f, g], _ => by show argsOk "object.__init__" ⟨[obj, _, _, _, _, _, _, _], []⟩; unfold argsOk; kernel_rfl
  | obj, [a, b, c, d, e, f, g, h], _ => by show argsOk "object.__init__" ⟨[obj, _, _, _, _, _, _, _, _], []⟩; unfold argsOk; kernel_rfl
  | obj, _ :: _ :: _ :: _ :: _ :: _ :: _ :: _ :: _ :: r, h => by simp at h
theorem typeCall_zip : ∀ (ts : Tx), ts.length ≤ 8 → checkTypeCall "zip" ⟨txv ts, []⟩ = pure ()
  | [], _ => by show checkTypeCall "zip" ⟨[], []⟩ = pure (); kernel_rfl
  | [a], _ => by show checkTypeCall "zip" ⟨[_], []⟩ = pure (); kernel_rfl
  | [a, b], _ => by show checkTypeCall "zip" ⟨[_, _], []⟩ = pure (); kernel_rfl
  | [a, b, c], _ => by show checkTypeCall "zip" ⟨[_, _, _], []⟩ = pure (); kernel_rfl
  | [a, b, c, d], _ => by show checkTypeCall "zip" ⟨[_, _, _, _], []⟩ = pure (); kernel_rfl
  | [a, b, c, d, e], _ => by show checkTypeCall "zip" ⟨[_, _, _, _, _], []⟩ = pure (); kernel_rfl
  | [a, b, c, d, e, f], _ => by show checkTypeCall "zip" ⟨[_, _, _, _, _, _], []⟩ = pure (); kernel_rfl
  | [a, b, c, d, e, f, g], _ => by show checkTypeCall "zip" ⟨[_, _, _, _, _, _, _], []⟩ = pure (); kernel_rfl
  | [a, b, c, d, e, f, g, h], _ => by show checkTypeCall "zip" ⟨[_, _, _, _, _, _, _, _], []⟩ = pure (); kernel_rfl
  | _ :: _ :: _ :: _ :: _ :: _ :: _ :: _ :: _ :: r, h => by simp at h
theorem newCall_zip : ∀ (ts : Tx), ts.length ≤ 8 → checkBuiltinCall "zip.__new__" ⟨.type "zip" :: txv ts, []⟩ = pure ()
  | [], _ => by show checkBuiltinCall "zip.__new__" ⟨[_], []⟩ = pure (); kernel_rfl
  | [a], _ => by show checkBuiltinCall "zip.__new__" ⟨[_, _], []⟩ = pure (); kernel_rfl
  | [a, b], _ => by show checkBuiltinCall "zip.__new__" ⟨[_, _, _], []⟩ = pure (); kernel_rfl
  | [a, b, c], _ => by show checkBuiltinCall "zip.__new__" ⟨[_, _, _, _], []⟩ = pure (); kernel_rfl
  | [a, b, c, d], _ => by show checkBuiltinCall "zip.__new__" ⟨[_, _, _, _, _], []⟩ = pure (); kernel_rfl
  | [a, b, c, d, e], _ => by show checkBuiltinCall "zip.__new__" ⟨[_, _, _, _, _, _], []⟩ = pure (); kernel_rfl
  | [a, b, c, d, e, f], _ => by show checkBuiltinCall "zip.__new__" ⟨[_, _, _, _, _, _, _], []⟩ = pure (); kernel_rfl
  | [a, b, c, d, e, f, g], _ => by show checkBuiltinCall "zip.__new__" ⟨[_, _, _, _, _, _, _, _], []⟩ = pure (); kernel_rfl
  | [a, b, c, d, e, f, g, h], _ => by show checkBuiltinCall "zip.__new__" ⟨[_, _, _, _, _, _, _, _, _], []⟩ = pure (); kernel_rfl
  | _ :: _ :: _ :: _ :: _ :: _ :: _ :: _ :: _ :: r, h => by simp at h

theorem meets_zip_new (ts : Tx) (hl : ts.length ≤ 8) :
    Meets (Builtin.«zip.__new__» ⟨.type "zip" :: txv ts, []⟩) (fun _ R s => R (.ok (.ret (.ref (s.heap.objs.size + ts.length + 2)))) { s with heap := zheap s.heap ts }) :=
  .of_wp fun prog w A R s h => by
    obtain ⟨hp, g, d, tk, os⟩ := s
    have hsub := sub_zip
    have q1 : ∀ {A' : Around} {E : Value → Shared → Prop} {Q : List Value → Shared → Prop}, Q (refs hp.objs.size ts.length) ⟨laid hp ts, g, d, tk, os⟩ → wpAny (model prog w) A' (Builtin.SmallTypes.iterAll (txv ts)) Q E ⟨hp, g, d, tk, os⟩ :=
      fun q => iterAll_ok ts q
    have sz1 : (refs hp.objs.size ts.length).length ≤ sizeLine := by rw [refs_length]; exact Nat.le_trans hl (by decide)
    unfold Builtin.«zip.__new__»
    wp_walk using q1
    refine ⟨_, rfl, ?_⟩
    have z1 : (laid hp ts).objs.size = hp.objs.size + ts.length := laid_size ts hp
    have z2 : ((laid hp ts).push (tupO (refs hp.objs.size ts.length))).objs.size = hp.objs.size + ts.length + 1 := by rw [Heap.size_push, z1]
    have z3 : (((laid hp ts).push (tupO (refs hp.objs.size ts.length))).push (tupO ((refs hp.objs.size ts.length).map fun _ => .none))).objs.size = hp.objs.size + ts.length + 2 := by rw [Heap.size_push, z2]
    rw [z1, z2, z3]
    exact h

/-- what stands behind zip(..) over texts -/
structure ZAt (h : Heap) (b : Nat) (ts : Tx) (f0 f1 : Value) (i : Nat) : Prop where
  zip : h.get? (b + ts.length + 2) = some (zipO f0 f1 (b + ts.length) (b + ts.length + 1))
  its : h.get? (b + ts.length) = some (tupO (refs b ts.length))
  txt : ∀ (k : Nat) (v : Str × Tok), ts[k]? = some v → h.IsStrIter (b + k) (strIterType v.1) v.1 v.2 i
theorem zheap_old {h : Heap} {ts : Tx} {c : Addr} {o : Obj} (e : h.get? c = some o) : (zheap h ts).get? c = some o :=
  Heap.get?_push_of_some _ (Heap.get?_push_of_some _ (Heap.get?_push_of_some _ (laid_old ts h c o e)))
theorem zheap_at (h : Heap) (ts : Tx) : ZAt (zheap h ts) h.objs.size ts .none (.bool false) 0 ∧ ∃ l, l.length = ts.length ∧ (zheap h ts).get? (h.objs.size + ts.length + 1) = some (tupO l) := by
  have z1 : (laid h ts).objs.size = h.objs.size + ts.length := laid_size ts h
  have z2 : ((laid h ts).push (tupO (refs h.objs.size ts.length))).objs.size = h.objs.size + ts.length + 1 := by rw [Heap.size_push, z1]
  have z3 : (((laid h ts).push (tupO (refs h.objs.size ts.length))).push (tupO ((refs h.objs.size ts.length).map fun _ => .none))).objs.size = h.objs.size + ts.length + 2 := by rw [Heap.size_push, z2]
  have e1 : (zheap h ts).get? (h.objs.size + ts.length) = some (tupO (refs h.objs.size ts.length)) := by
    rw [← z1]
    exact Heap.get?_push_of_some _ (Heap.get?_push_of_some _ (Heap.get?_push_size _ rfl))
  have e2 : (zheap h ts).get? (h.objs.size + ts.length + 1) = some (tupO ((refs h.objs.size ts.length).map fun _ => .none)) := by
    rw [← z2]
    exact Heap.get?_push_of_some _ (Heap.get?_push_size _ rfl)
  have e3 : (zheap h ts).get? (h.objs.size + ts.length + 2) = some (zipO .none (.bool false) (h.objs.size + ts.length) (h.objs.size + ts.length + 1)) := by
    rw [← z3]
    exact Heap.get?_push_size _ rfl
  refine ⟨⟨e3, e1, fun k v hv => ?_⟩, _, ?_, e2⟩
  · exact ⟨_, Heap.get?_push_of_some _ (Heap.get?_push_of_some _ (Heap.get?_push_of_some _ (laid_at ts h k v hv))), rfl, rfl⟩
  · rw [List.length_map, refs_length]

theorem call_zip {prog : Program} {w : World} {A : Around} {E : Value → Shared → Prop} {s : Shared} {Q : Value → Shared → Prop} (ts : Tx) (hl : ts.length ≤ 8)
    (h : Q (.ref (s.heap.objs.size + ts.length + 2)) { s with heap := zheap s.heap ts }) : wpAny (model prog w) A (call (.type "zip") (txv ts)) Q E s := by
  refine callType_new F.called_zip (by decide) (typeCall_zip ts hl) (newCall_zip ts hl) (fun obj => argsOk_init obj ts hl) F.entry_zip_new (meets_zip_new ts hl) ?_
  have e3 := (zheap_at s.heap ts).1.zip
  exact ⟨⟨_, e3, rfl⟩, h⟩
end TH
end
section
set_option Elab.async false
set_option maxRecDepth 100000
set_option maxHeartbeats 4000000
namespace TH
open PySem PySem.Spec PyProof.Rows L2
theorem nn {x y : Nat} (h : x < y ∨ y < x) : x ≠ y := fun e => by subst e; omega
section
variable {prog : Program} {w : World} {A : Around} {E : Value → Shared → Prop}
/-- a loop over a list of the model's own, by what holds ahead of its k-th turn -/
theorem loop_inv {α β : Type} {f : α → β → Sem (ForInStep β)} {Q : β → Shared → Prop} (I : Nat → β → Shared → Prop) : ∀ (xs : List α) (n : Nat) (y : β) (s : Shared), I n y s →
    (∀ k x y s, xs[k]? = some x → I (n + k) y s → wpAny (model prog w) A (f x y) (fun r s' => ∃ y', r = .yield y' ∧ I (n + k + 1) y' s') E s) →
    (∀ y s, I (n + xs.length) y s → Q y s) → wpAny (model prog w) A (forIn xs y f) Q E s
  | [], n, y, s, h0, _, he => by
    rw [List.forIn_nil]
    exact wpAny_pure (he y s h0)
  | x :: r, n, y, s, h0, hs, he => by
    rw [List.forIn_cons]
    refine wpAny_bind (wpAny_mono (hs 0 x y s rfl h0) (fun r1 s1 hr => ?_) fun _ _ z => z)
    obtain ⟨y1, rfl, h1⟩ := hr
    refine loop_inv I r (n + 1) y1 s1 h1 (fun k x' y' s' hk hI => ?_) fun y' s' hI => he y' s' ?_
    · have z := hs (k + 1) x' y' s' (by simpa using hk) (by
        have e : n + 1 + k = n + (k + 1) := by omega
        rw [e] at hI
        exact hI)
      have e : n + (k + 1) + 1 = n + 1 + k + 1 := by omega
      rw [e] at z
      exact z
    · have e : n + 1 + r.length = n + (r.length + 1) := by omega
      rw [e] at hI
      exact hI

/-- the signs of the texts at place i -/
def ColAt (ts : Tx) (i : Nat) (l : List Value) : Prop := l.length = ts.length ∧ ∀ (k : Nat) (v : Str × Tok), ts[k]? = some v → ∃ (c : Nat) (u : Tok), v.1.cps[i]? = some c ∧ l[k]? = some (Value.str ⟨#[c]⟩ u)
/-- outside b .. b + n all stands -/
def Out (b n : Nat) (h h' : Heap) : Prop := h'.objs.size = h.objs.size ∧ ∀ (c : Nat) (o : Obj), (c < b ∨ b + n < c) → h.get? c = some o → h'.get? c = some o
/-- k of the iterators have gone on -/
structure Mid (hp : Heap) (b : Nat) (ts : Tx) (f0 : Value) (i k : Nat) (h : Heap) : Prop where
  out : Out b (ts.length + 2) hp h
  zip : ∃ f1, h.get? (b + ts.length + 2) = some (zipO f0 f1 (b + ts.length) (b + ts.length + 1))
  its : h.get? (b + ts.length) = some (tupO (refs b ts.length))
  txt : ∀ (j : Nat) (v : Str × Tok), ts[j]? = some v → h.IsStrIter (b + j) (strIterType v.1) v.1 v.2 (if j < k then i + 1 else i)
theorem strIter_other {h h' : Heap} {a c : Addr} {ty : String} {x : Str} {t : Tok} {i : Nat} (q : h.IsStrIter a ty x t i) (sb : Heap.SameBut c h h') (hne : a ≠ c) : h'.IsStrIter a ty x t i := by
  obtain ⟨o, ho, r⟩ := q
  exact ⟨o, (sb.2 a hne).trans ho, r⟩
theorem Mid.step {hp h h' : Heap} {b : Nat} {ts : Tx} {f0 : Value} {i k : Nat} {v : Str × Tok} (M : Mid hp b ts f0 i k h) (hk : ts[k]? = some v) (sb : Heap.SameBut (b + k) h h') (st : h'.IsStrIter (b + k) (strIterType v.1) v.1 v.2 (i + 1)) : Mid hp b ts f0 i (k + 1) h' := by
  have hkl : k < ts.length := (List.getElem?_eq_some_iff.mp hk).1
  obtain ⟨f1, hz⟩ := M.zip
  refine ⟨⟨sb.1.trans M.out.1, fun c o hc e => (sb.2 c (nn (by omega))).trans (M.out.2 c o hc e)⟩, ⟨f1, (sb.2 (b + ts.length + 2) (nn (by omega))).trans hz⟩, (sb.2 (b + ts.length) (nn (by omega))).trans M.its, fun j u hj => ?_⟩
  by_cases hjk : j = k
  · subst hjk
    rw [if_pos (Nat.lt_succ_self _)]
    rw [hk] at hj
    cases hj
    exact st
  · have z := strIter_other (M.txt j u hj) sb (nn (x := b + j) (y := b + k) (by omega))
    by_cases hlt : j < k
    · rw [if_pos hlt] at z
      rw [if_pos (show j < k + 1 by omega)]
      exact z
    · rw [if_neg hlt] at z
      rw [if_neg (show ¬ j < k + 1 by omega)]
      exact z
theorem Mid.other {hp h h' : Heap} {b : Nat} {ts : Tx} {f0 : Value} {i k : Nat} (M : Mid hp b ts f0 i k h) (sb : Heap.SameBut (b + ts.length + 1) h h') : Mid hp b ts f0 i k h' := by
  obtain ⟨f1, hz⟩ := M.zip
  refine ⟨⟨sb.1.trans M.out.1, fun c o hc e => (sb.2 c (nn (by omega))).trans (M.out.2 c o hc e)⟩, ⟨f1, (sb.2 (b + ts.length + 2) (nn (by omega))).trans hz⟩, (sb.2 (b + ts.length) (nn (by omega))).trans M.its, fun j u hj => ?_⟩
  have hjl : j < ts.length := (List.getElem?_eq_some_iff.mp hj).1
  exact strIter_other (M.txt j u hj) sb (nn (x := b + j) (y := b + ts.length + 1) (by omega))
theorem Mid.start {hp h : Heap} {b : Nat} {ts : Tx} {f0 g0 f1 : Value} {i : Nat} (Z : ZAt hp b ts f0 f1 i) (sb : Heap.SameBut (b + ts.length + 2) hp h) (hz : ∃ f1, h.get? (b + ts.length + 2) = some (zipO g0 f1 (b + ts.length) (b + ts.length + 1))) : Mid hp b ts g0 i 0 h := by
  refine ⟨⟨sb.1, fun c o hc e => (sb.2 c (nn (by omega))).trans e⟩, hz, (sb.2 (b + ts.length) (nn (by omega))).trans Z.its, fun j u hj => ?_⟩
  have hjl : j < ts.length := (List.getElem?_eq_some_iff.mp hj).1
  rw [if_neg (Nat.not_lt_zero _)]
  exact strIter_other (Z.txt j u hj) sb (nn (x := b + j) (y := b + ts.length + 2) (by omega))
theorem Mid.fin {hp h : Heap} {b : Nat} {ts : Tx} {f0 : Value} {i : Nat} (M : Mid hp b ts f0 i ts.length h) : ∃ f1, ZAt h b ts f0 f1 (i + 1) := by
  obtain ⟨f1, hz⟩ := M.zip
  refine ⟨f1, hz, M.its, fun j v hj => ?_⟩
  have z := M.txt j v hj
  rw [if_pos (List.getElem?_eq_some_iff.mp hj).1] at z
  exact z
/-- the k-th iterator goes on -/
theorem draw_ok {hp : Heap} {s : Shared} {b : Nat} {ts : Tx} {f0 : Value} {i k : Nat} {v : Str × Tok} {Q : Value → Shared → Prop} (hh : A.handled = none) (M : Mid hp b ts f0 i k s.heap) (hk : ts[k]? = some v) (hi : i < v.1.cps.size)
    (hQ : ∀ c u h' tk, v.1.cps[i]? = some c → Mid hp b ts f0 i (k + 1) h' → Heap.SameBut (b + k) s.heap h' → Q (.str ⟨#[c]⟩ u) { s with heap := h', toks := tk }) :
    wpAny (model prog w) A (Builtin.SmallTypes.nextOf (.ref (b + k))) Q E s := by
  have st := M.txt k v hk
  rw [if_neg (Nat.lt_irrefl _)] at st
  refine (Draws.text (prog := prog) (w := w) hh (b + k) v.1 v.2).item i s _ _ hi st fun x h' tk hx st' sb => ?_
  obtain ⟨c, u, hc, rfl⟩ := hx
  exact hQ c u h' tk hc (M.step hk sb st') sb
end
end TH
end
section
set_option Elab.async false
set_option maxRecDepth 100000
set_option maxHeartbeats 4000000
namespace TH
open PySem PySem.Spec PyProof.Rows L2
section
variable {prog : Program} {w : World} {A : Around} {E : Value → Shared → Prop}
theorem refs_ne {b n : Nat} (h : 0 < n) : (refs b n).toArray.isEmpty = false := by
  cases n with
  | zero => exact absurd h (Nat.lt_irrefl _)
  | succ n => rfl
theorem refs_get {b n k : Nat} {x : Value} (h : (refs b n)[k]? = some x) : k < n ∧ x = .ref (b + k) := by
  have hk : k < n := by
    have z := (List.getElem?_eq_some_iff.mp h).1
    rw [refs_length] at z
    exact z
  have z := refs_at b n k hk
  rw [z] at h
  exact ⟨hk, (Option.some.inj h).symm⟩
theorem alive_any {s : Shared} {a : Addr} {Q : Option Obj → Shared → Prop} (h : Q (s.heap.get? a) s) : wpAny (model prog w) A (loadIfAlive a) Q E s := fun _ _ _ => h
/-- what stands between the turns -/
structure Bet (h : Heap) (b : Nat) (ts : Tx) (i : Nat) : Prop where
  at_ : ∃ (f0 : Value) (fb : Bool), ZAt h b ts f0 (.bool fb) i ∧ (f0 = .none ∨ ∃ T : Nat, f0 = rawInt T)
  own : ∃ l : List Value, h.get? (b + ts.length + 1) = some (tupO l) ∧ l.length = ts.length
/-- what a turn hands on -/
def Nxt (hp : Heap) (g : Array GenState) (d : Drawn) (os : OsState) (b : Nat) (ts : Tx) (i : Nat) (Q : Value → Shared → Prop) : Prop :=
  ∀ (us : List Value) (h' : Heap) (tk' : Nat), ColAt ts i us → Bet h' b ts (i + 1) → h'.get? hp.objs.size = some (tupO us) →
    (∀ (c : Nat) (o : Obj), (c < b ∨ b + (ts.length + 2) < c) → hp.get? c = some o → h'.get? c = some o) → Q (.ref hp.objs.size) ⟨h', g, d, tk', os⟩
theorem is_free {s : Shared} {b : Nat} {ts : Tx} {i : Nat} {f0 : Value} {fb : Bool} {Q : Bool → Shared → Prop} (Z : ZAt s.heap b ts f0 (.bool fb) i) (hf : f0 = .none ∨ ∃ T : Nat, f0 = rawInt T)
    (h1 : Q true s) (h2 : ∀ (h' : Heap), Heap.SameBut (b + ts.length + 2) s.heap h' → h'.get? (b + ts.length + 2) = some (zipO f0 (.bool true) (b + ts.length) (b + ts.length + 1)) → Q false { s with heap := h' }) :
    wpAny (model prog w) A (Builtin.SmallTypes.ownedTupleIsFree (.ref (b + ts.length + 2))) Q E s := by
  unfold Builtin.SmallTypes.ownedTupleIsFree
  refine wpAny_bind (wpAny_field Z.zip rfl (x := f0) rfl ?_)
  rcases hf with rfl | ⟨T, rfl⟩
  · exact wpAny_pure h1
  · show wpAny _ _ (loadIfAlive ((T : Int).toNat) >>= _) _ _ _
    rw [Int.toNat_natCast]
    refine wpAny_bind (alive_any ?_)
    cases hT : s.heap.get? T with
    | none => exact wpAny_pure h1
    | some o =>
      simp only [Option.isNone_some, Bool.false_eq_true, if_false]
      refine wpAny_bind (wpAny_field Z.zip rfl (x := .bool fb) rfl ?_)
      cases fb with
      | true => exact wpAny_pure (h2 s.heap (Heap.SameBut.refl _ _) Z.zip)
      | false => exact wpAny_bind (wpAny_setField_rec Z.zip (by simp) fun h' hz hs => wpAny_pure (h2 h' hs hz))
/-- a turn -/
theorem next_item {hp : Heap} {g : Array GenState} {d : Drawn} {tk : Nat} {os : OsState} {b : Nat} {ts : Tx} {i : Nat} {Q : Value → Shared → Prop} (hh : A.handled = none) (B : Bet hp b ts i) (h1 : 0 < ts.length) (h8 : ts.length ≤ 8)
    (hi : ∀ (k : Nat) (v : Str × Tok), ts[k]? = some v → i < v.1.cps.size) (hQ : Nxt hp g d os b ts i Q) :
    wpAny (model prog w) A (Builtin.«zip.__next__» ⟨[.ref (b + ts.length + 2)], []⟩) (fun fin s' => ∃ v, fin = .done (.ret v) ∧ Q v s') E ⟨hp, g, d, tk, os⟩ := by
  obtain ⟨⟨f0, fb, Z, hf⟩, l, hT, hl⟩ := B
  show wpAny _ _ (field (.ref _) 2 >>= _) _ _ _
  refine wpAny_bind (wpAny_field Z.zip rfl (x := .bool false) rfl ?_)
  show wpAny _ _ (field (.ref _) 3 >>= _) _ _ _
  refine wpAny_bind (wpAny_field Z.zip rfl (x := .ref (b + ts.length)) rfl ?_)
  refine wpAny_bind (wpAny_seqItems Z.its rfl ?_)
  dsimp only
  rw [if_neg (by rw [refs_ne h1]; exact Bool.false_ne_true)]
  refine wpAny_bind (is_free Z hf ?_ fun hA hs0 hz0 => ?_)
  · rw [if_pos rfl]
    refine wpAny_bind (wpAny_rule ?_)
    refine wpAny_bind (wpAny_field Z.zip rfl (x := .ref (b + ts.length + 1)) rfl ?_)
    refine wpAny_bind (wpAny_setField_rec Z.zip (by simp) fun g0 hz0 hs0 => ?_)
    replace hs0 : Heap.SameBut (b + ts.length + 2) hp g0 := hs0
    have M0 : Mid hp b ts .ellipsis i 0 g0 := Mid.start Z hs0 ⟨_, hz0⟩
    have hT0 : g0.get? (b + ts.length + 1) = some (tupO l) := (hs0.2 (b + ts.length + 1) (nn (by omega))).trans hT
    refine wpAny_bind (loop_inv (I := fun k y s => y = (none, ()) ∧ (∃ (h : Heap) (tk' : Nat) (us : List Value), s = ⟨h, g, d, tk', os⟩ ∧ Mid hp b ts .ellipsis i k h ∧ h.get? (b + ts.length + 1) = some (tupO us) ∧ us.length = ts.length ∧
        ∀ (j : Nat) (v : Str × Tok), j < k → ts[j]? = some v → ∃ (c : Nat) (u : Tok), v.1.cps[i]? = some c ∧ us[j]? = some (Value.str ⟨#[c]⟩ u))) _ 0 _ _ ⟨rfl, g0, tk, l, rfl, M0, hT0, hl, fun j v hj => absurd hj (Nat.not_lt_zero _)⟩ ?_ ?_)
    · rintro k ⟨x, k'⟩ y s hk ⟨rfl, h, tk', us, rfl, M, hU, hul, hgot⟩
      simp only [Nat.zero_add] at M hgot ⊢
      rw [List.getElem?_zipIdx] at hk
      cases hx : (refs b ts.length)[k]? with
      | none => simp [hx] at hk
      | some x' =>
        simp [hx] at hk
        obtain ⟨e1, e2⟩ := hk
        obtain ⟨hkl, ex⟩ := refs_get hx
        subst e1
        subst ex
        subst e2
        have hv : ts[k]? = some ts[k] := List.getElem?_eq_getElem hkl
        refine wpAny_bind (wpAny_onRaise ?_)
        show wpAny _ _ (Builtin.SmallTypes.nextOf (.ref (b + k)) >>= _) _ _ ⟨h, g, d, tk', os⟩
        refine wpAny_bind (draw_ok hh M hv (hi k _ hv) fun c u h' tk2 hc M' sb => wpAny_pure ?_)
        have hU' : h'.get? (b + ts.length + 1) = some (tupO us) := (sb.2 (b + ts.length + 1) (nn (by omega))).trans hU
        refine wpAny_bind (wpAny_seqItems (s := ⟨h', g, d, tk2, os⟩) hU' rfl ?_)
        refine wpAny_bind (wpAny_updateSeq (s := ⟨h', g, d, tk2, os⟩) hU' rfl ?_)
        refine wpAny_bind (wpAny_letGo (wpAny_pure ⟨_, rfl, rfl, _, _, us.set k (.str ⟨#[c]⟩ u), rfl, M'.other (Heap.SameBut.update ..), ?_, ?_, ?_⟩))
        · rw [Heap.get?_update_self _ hU' rfl]
          simp [Obj.mapSeq]
        · rw [List.length_set]
          exact hul
        · intro j v hj hjv
          by_cases hjk : j = k
          · subst hjk
            rw [hv] at hjv
            cases hjv
            exact ⟨c, u, hc, List.getElem?_set_self (by rw [hul]; exact hkl)⟩
          · obtain ⟨c', u', e1, e2⟩ := hgot j v (by omega) hjv
            exact ⟨c', u', e1, by rw [List.getElem?_set_ne (fun e => hjk e.symm)]; exact e2⟩
    · rintro y s ⟨rfl, h, tk', us, rfl, M, hU, hul, hgot⟩
      have el : 0 + (refs b ts.length).toArray.toList.zipIdx.length = ts.length := by
        simp [refs_length]
      rw [el] at M hgot
      refine wpAny_bind (wpAny_seqItems (s := ⟨h, g, d, tk', os⟩) hU rfl ?_)
      refine wpAny_bind (wpAny_newTuple ?_ (by simp; rw [hul]; exact Nat.le_trans h8 (by decide)))
      obtain ⟨f1, Z1⟩ := M.fin
      have hsz : h.objs.size = hp.objs.size := M.out.1
      have hz1 : (h.push (tupO us)).get? (b + ts.length + 2) = some (zipO .ellipsis f1 (b + ts.length) (b + ts.length + 1)) := Heap.get?_push_of_some _ Z1.zip
      have hzl : b + ts.length + 2 < h.objs.size := Heap.lt_size Z1.zip
      show wpAny _ _ (Builtin.SmallTypes.ownedTupleHandOut (.ref _) (.ref h.objs.size) >>= _) _ _ ⟨h.push (tupO us), g, d, tk', os⟩
      refine wpAny_bind ?_
      unfold Builtin.SmallTypes.ownedTupleHandOut
      refine wpAny_bind (wpAny_setField_rec hz1 (by simp) fun h7 hz7 hs7 => ?_)
      replace hz7 : h7.get? (b + ts.length + 2) = some (zipO (rawInt h.objs.size) f1 (b + ts.length) (b + ts.length + 1)) := hz7
      replace hs7 : Heap.SameBut (b + ts.length + 2) (h.push (tupO us)) h7 := hs7
      refine wpAny_setField_rec hz7 (by simp) fun h8' hz8 hs8 => ?_
      replace hz8 : h8'.get? (b + ts.length + 2) = some (zipO (rawInt h.objs.size) (.bool false) (b + ts.length) (b + ts.length + 1)) := hz8
      replace hs8 : Heap.SameBut (b + ts.length + 2) h7 h8' := hs8
      have up : ∀ (c : Nat) (o : Obj), c ≠ b + ts.length + 2 → h.get? c = some o → h8'.get? c = some o := fun c o hc e => (hs8.2 c hc).trans ((hs7.2 c hc).trans (Heap.get?_push_of_some _ e))
      refine wpAny_pure ⟨_, rfl, ?_⟩
      rw [hsz] at hz8 ⊢
      refine hQ us h8' tk' ⟨hul, fun k v hk => hgot k v (List.getElem?_eq_some_iff.mp hk).1 hk⟩ ⟨⟨_, false, ⟨hz8, up _ _ (nn (by omega)) Z1.its, fun k v hk => ?_⟩, .inr ⟨_, rfl⟩⟩, _, up _ _ (nn (by omega)) hU, hul⟩ ?_ fun c o hc e => ?_
      · have hkl : k < ts.length := (List.getElem?_eq_some_iff.mp hk).1
        obtain ⟨o, ho, r⟩ := Z1.txt k v hk
        exact ⟨o, up _ _ (nn (x := b + k) (y := b + ts.length + 2) (by omega)) ho, r⟩
      · rw [← hsz]
        exact (hs8.2 h.objs.size (nn (by omega))).trans ((hs7.2 h.objs.size (nn (by omega))).trans (Heap.get?_push_size _ rfl))
      · exact up c o (nn (by omega)) (M.out.2 c o hc e)
  · rw [if_neg Bool.false_ne_true]
    have M0 : Mid hp b ts f0 i 0 hA := Mid.start Z hs0 ⟨_, hz0⟩
    have hT0 : hA.get? (b + ts.length + 1) = some (tupO l) := (hs0.2 (b + ts.length + 1) (nn (by omega))).trans hT
    have hz0' : hA.get? (b + ts.length + 2) = some (zipO f0 (.bool true) (b + ts.length) (b + ts.length + 1)) := hz0
    dsimp only
    rw [List.forIn_toArray]
    refine wpAny_bind (loop_inv (I := fun k y s => ∃ (h : Heap) (tk' : Nat) (us : List Value), y = (none, us.toArray) ∧ s = ⟨h, g, d, tk', os⟩ ∧ Mid hp b ts f0 i k h ∧ h.get? (b + ts.length + 2) = some (zipO f0 (.bool true) (b + ts.length) (b + ts.length + 1)) ∧
        h.get? (b + ts.length + 1) = some (tupO l) ∧ us.length = k ∧
        ∀ (j : Nat) (v : Str × Tok), j < k → ts[j]? = some v → ∃ (c : Nat) (u : Tok), v.1.cps[i]? = some c ∧ us[j]? = some (Value.str ⟨#[c]⟩ u)) _ 0 _ _ ⟨hA, tk, [], rfl, rfl, M0, hz0', hT0, rfl, fun j v hj => absurd hj (Nat.not_lt_zero _)⟩ ?_ ?_)
    · rintro k x y s hk ⟨h, tk', us, rfl, rfl, M, hz, hU, hul, hgot⟩
      simp only [Nat.zero_add] at M hgot hul ⊢
      obtain ⟨hkl, ex⟩ := refs_get hk
      subst ex
      have hv : ts[k]? = some ts[k] := List.getElem?_eq_getElem hkl
      refine wpAny_bind (wpAny_holding ?_)
      show wpAny _ _ (Builtin.SmallTypes.nextOf (.ref (b + k)) >>= _) _ _ ⟨h, g, d, tk', os⟩
      refine wpAny_bind (draw_ok hh M hv (hi k _ hv) fun c u h' tk2 hc M' sb => wpAny_pure ?_)
      refine wpAny_pure ⟨_, rfl, h', tk2, us ++ [.str ⟨#[c]⟩ u], by simp, rfl, M', (sb.2 (b + ts.length + 2) (nn (by omega))).trans hz, (sb.2 (b + ts.length + 1) (nn (by omega))).trans hU, by rw [List.length_append, hul]; rfl, fun j v hj hjv => ?_⟩
      by_cases hjk : j = k
      · subst hjk
        rw [hv] at hjv
        cases hjv
        exact ⟨c, u, hc, by rw [List.getElem?_append_right (by omega), hul]; simp⟩
      · obtain ⟨c', u', e1, e2⟩ := hgot j v (by omega) hjv
        exact ⟨c', u', e1, by rw [List.getElem?_append_left (by omega)]; exact e2⟩
    · rintro y s ⟨h, tk', us, rfl, rfl, M, hz, hU, hul, hgot⟩
      have el : 0 + (refs b ts.length).length = ts.length := by
        simp [refs_length]
      rw [el] at M hgot hul
      refine wpAny_bind (wpAny_newTuple (wpAny_pure ⟨_, rfl, ?_⟩) (by simp; rw [hul]; exact Nat.le_trans h8 (by decide)))
      obtain ⟨f1, Z1⟩ := M.fin
      have hsz : h.objs.size = hp.objs.size := M.out.1
      have hzl : b + ts.length + 2 < h.objs.size := Heap.lt_size Z1.zip
      have up : ∀ (c : Nat) (o : Obj), h.get? c = some o → (h.push (tupO us)).get? c = some o := fun c o e => Heap.get?_push_of_some _ e
      show Q (.ref h.objs.size) ⟨h.push (tupO us), g, d, tk', os⟩
      have hnew : (h.push (tupO us)).get? h.objs.size = some (tupO us) := Heap.get?_push_size _ rfl
      rw [hsz] at hnew ⊢
      refine hQ us _ tk' ⟨hul, fun k v hk => hgot k v (List.getElem?_eq_some_iff.mp hk).1 hk⟩ ⟨⟨_, true, ⟨up _ _ hz, up _ _ Z1.its, fun k v hk => ?_⟩, hf⟩, _, up _ _ hU, hl⟩ hnew fun c o hc e => up c o (M.out.2 c o hc e)
      obtain ⟨o, ho, r⟩ := Z1.txt k v hk
      exact ⟨o, up _ _ ho, r⟩
end
end TH
end
section
set_option Elab.async false
set_option maxRecDepth 100000
set_option maxHeartbeats 4000000
namespace TH
open PySem PySem.Spec PyProof.Rows L2
section
variable {prog : Program} {w : World} {A : Around} {E : Value → Shared → Prop}
theorem loop_first {α β : Type} {f : α → β → Sem (ForInStep β)} {Q : β → Shared → Prop} {x : α} {r : List α} {y : β} {s : Shared} (h : wpAny (model prog w) A (f x y) (fun _ _ => False) E s) : wpAny (model prog w) A (forIn (x :: r) y f) Q E s := by
  rw [List.forIn_cons]
  exact wpAny_bind (wpAny_mono h (fun _ _ z => z.elim) fun _ _ z => z)
/-- the first iterator is at its end -/
theorem draw_end {s : Shared} {a : Addr} {v : Str × Tok} {Q : Value → Shared → Prop} (hh : A.handled = none) (st : s.heap.IsStrIter a (strIterType v.1) v.1 v.2 v.1.cps.size)
    (hE : ∀ (h' : Heap) (e : Addr), Heap.ExtBut a s.heap h' → (∃ o, h'.get? e = some o ∧ o.cls = .type "StopIteration") → E (.ref e) { s with heap := h' }) : wpAny (model prog w) A (Builtin.SmallTypes.nextOf (.ref a)) Q E s :=
  (Draws.text (prog := prog) (w := w) hh a v.1 v.2).done s _ _ st hE
theorem next_end {hp : Heap} {g : Array GenState} {d : Drawn} {tk : Nat} {os : OsState} {b : Nat} {v : Str × Tok} {ts : Tx} {Q : Fin → Shared → Prop} (hh : A.handled = none) (B : Bet hp b (v :: ts) v.1.cps.size)
    (hE : ∀ (h' : Heap) (e : Addr), (∀ (c : Nat) (o : Obj), (c < b ∨ b + ((v :: ts).length + 2) < c) → hp.get? c = some o → h'.get? c = some o) → (∃ o, h'.get? e = some o ∧ o.cls = .type "StopIteration") → E (.ref e) ⟨h', g, d, tk, os⟩) :
    wpAny (model prog w) A (Builtin.«zip.__next__» ⟨[.ref (b + (v :: ts).length + 2)], []⟩) Q E ⟨hp, g, d, tk, os⟩ := by
  obtain ⟨⟨f0, fb, Z, hf⟩, l, hT, hl⟩ := B
  show wpAny _ _ (field (.ref _) 2 >>= _) _ _ _
  refine wpAny_bind (wpAny_field Z.zip rfl (x := .bool false) rfl ?_)
  show wpAny _ _ (field (.ref _) 3 >>= _) _ _ _
  refine wpAny_bind (wpAny_field Z.zip rfl (x := .ref (b + (v :: ts).length)) rfl ?_)
  refine wpAny_bind (wpAny_seqItems Z.its rfl ?_)
  dsimp only
  rw [if_neg (by rw [refs_ne (by simp)]; exact Bool.false_ne_true)]
  refine wpAny_bind (is_free Z hf ?_ fun hA hs0 hz0 => ?_)
  · rw [if_pos rfl]
    refine wpAny_bind (wpAny_rule ?_)
    refine wpAny_bind (wpAny_field Z.zip rfl (x := .ref (b + (v :: ts).length + 1)) rfl ?_)
    refine wpAny_bind (wpAny_setField_rec Z.zip (by simp) fun g0 hz0 hs0 => ?_)
    replace hs0 : Heap.SameBut (b + (v :: ts).length + 2) hp g0 := hs0
    have st := strIter_other (Z.txt 0 v rfl) hs0 (nn (x := b + 0) (y := b + (v :: ts).length + 2) (by omega))
    refine wpAny_bind ?_
    show wpAny _ _ (forIn ((Value.ref b, 0) :: (refs (b + 1) ts.length).zipIdx 1) _ _) _ _ _
    refine loop_first (wpAny_bind (wpAny_onRaise ?_))
    show wpAny _ _ (Builtin.SmallTypes.nextOf (.ref (b + 0)) >>= _) _ _ ⟨g0, g, d, tk, os⟩
    refine wpAny_bind (draw_end hh st fun q e hq he => ?_)
    replace hq : Heap.ExtBut (b + 0) g0 q := hq
    obtain ⟨oe, hoe, hce⟩ := he
    have hzq : q.get? (b + (v :: ts).length + 2) = some (zipO .ellipsis (.bool fb) (b + (v :: ts).length) (b + (v :: ts).length + 1)) := hq _ _ (nn (x := b + (v :: ts).length + 2) (y := b + 0) (by omega)) hz0
    have hez : e ≠ b + (v :: ts).length + 2 := fun x => by subst x; rw [hzq] at hoe; cases hoe; simp at hce
    refine wpAny_setField_rec (s := ⟨q, g, d, tk, os⟩) hzq (by simp) fun q' _ hq' => ?_
    replace hq' : Heap.SameBut (b + (v :: ts).length + 2) q q' := hq'
    exact hE q' e (fun c o hc x => (hq'.2 c (nn (by omega))).trans (hq _ _ (nn (x := c) (y := b + 0) (by omega)) ((hs0.2 c (nn (by omega))).trans x))) ⟨oe, (hq'.2 e hez).trans hoe, hce⟩
  · rw [if_neg Bool.false_ne_true]
    replace hs0 : Heap.SameBut (b + (v :: ts).length + 2) hp hA := hs0
    have st := strIter_other (Z.txt 0 v rfl) hs0 (nn (x := b + 0) (y := b + (v :: ts).length + 2) (by omega))
    dsimp only
    rw [List.forIn_toArray]
    refine wpAny_bind ?_
    show wpAny _ _ (forIn (Value.ref b :: refs (b + 1) ts.length) _ _) _ _ _
    refine loop_first (wpAny_bind (wpAny_holding ?_))
    show wpAny _ _ (Builtin.SmallTypes.nextOf (.ref (b + 0)) >>= _) _ _ ⟨hA, g, d, tk, os⟩
    refine wpAny_bind (draw_end hh st fun q e hq he => ?_)
    replace hq : Heap.ExtBut (b + 0) hA q := hq
    exact hE q e (fun c o hc x => hq _ _ (nn (x := c) (y := b + 0) (by omega)) ((hs0.2 c (nn (by omega))).trans x)) he
theorem pyNext_item {s : Shared} {b : Nat} {ts : Tx} {i : Nat} {Q : Option Value → Shared → Prop} (hh : A.handled = none) (B : Bet s.heap b ts i) (h1 : 0 < ts.length) (h8 : ts.length ≤ 8)
    (hi : ∀ (k : Nat) (v : Str × Tok), ts[k]? = some v → i < v.1.cps.size) (hQ : Nxt s.heap s.gens s.drawn s.os b ts i (fun v s' => Q (some v) s')) : wpAny (model prog w) A (pyNext (.ref (b + ts.length + 2))) Q E s := by
  obtain ⟨⟨f0, fb, Z, hf⟩, l, hT, hl⟩ := id B
  have hty : s.TypeIs (.ref (b + ts.length + 2)) "zip" := ⟨_, Z.zip, rfl⟩
  unfold pyNext
  refine wpAny_bind (wpAny_attempt (wpAny_callSpecial?_slot (name := Str.ofString "__next__") hty F.slot_zip_next
    (wpAny_call_entry F.slot_zip_next hty F.entry_zip_next (next_item (A := A.in1) hh B h1 h8 hi fun us h' tk' c1 c2 c3 c4 => wpAny_pure (hQ us h' tk' c1 c2 c3 c4)) (F.args_zip_next_1 _))))
theorem pyNext_end {s : Shared} {b : Nat} {v : Str × Tok} {ts : Tx} {Q : Option Value → Shared → Prop} (hh : A.handled = none) (B : Bet s.heap b (v :: ts) v.1.cps.size)
    (hQ : ∀ (h' : Heap), (∀ (c : Nat) (o : Obj), (c < b ∨ b + ((v :: ts).length + 2) < c) → s.heap.get? c = some o → h'.get? c = some o) → Q none { s with heap := h' }) : wpAny (model prog w) A (pyNext (.ref (b + (v :: ts).length + 2))) Q E s := by
  obtain ⟨⟨f0, fb, Z, hf⟩, l, hT, hl⟩ := id B
  have hty : s.TypeIs (.ref (b + (v :: ts).length + 2)) "zip" := ⟨_, Z.zip, rfl⟩
  unfold pyNext
  refine wpAny_bind (wpAny_attempt (wpAny_callSpecial?_slot (name := Str.ofString "__next__") hty F.slot_zip_next
    (wpAny_call_entry F.slot_zip_next hty F.entry_zip_next (next_end (A := A.in1) hh B fun h' e hk he => ?_) (F.args_zip_next_1 _))))
  obtain ⟨o, ho, hc⟩ := he
  refine wpAny_bind (wpAny_isInstance (T := "StopIteration") (b := true) ⟨o, ho, hc⟩ isSubtype_stop ?_)
  exact wpAny_pure (hQ _ hk)
end
end TH
end
section
set_option Elab.async false
set_option maxRecDepth 100000
set_option maxHeartbeats 4000000
namespace TH
open PySem PySem.Spec PyProof.Rows L2
/-- the texts xs, m signs each: at turn i a new tuple of their signs there -/
def Itzs (xs : List Str) (m : Nat) : It :=
  ⟨fun i _ => i < m, fun i H x H' => ∃ (T : Addr) (cs : List Nat), x = .ref T ∧ H T = none ∧ H' = upd H T (.tup (cs.map fun c => V.str ⟨#[c]⟩)) ∧ cs.length = xs.length ∧ ∀ (k : Nat) (y : Str), xs[k]? = some y → ∃ c, y.cps[i]? = some c ∧ cs[k]? = some c, fun i _ => i = m⟩
def Tn (xs : List Str) (b : Nat) (i : Nat) (h : Heap) : Prop := ∃ ts : Tx, ts.map Prod.fst = xs ∧ Bet h b ts i
theorem fp_le {b n c : Nat} (h : c ∈ (List.range (n + 3)).map (b + ·)) : b ≤ c ∧ c ≤ b + n + 2 := by
  obtain ⟨k, hk, rfl⟩ := List.mem_map.mp h
  have := List.mem_range.mp hk
  omega
theorem fp_in {b n c : Nat} (h : b ≤ c ∧ c ≤ b + n + 2) : c ∈ (List.range (n + 3)).map (b + ·) := List.mem_map.mpr ⟨c - b, List.mem_range.mpr (by omega), by omega⟩
theorem Bet.kept {h h' : Heap} {b : Nat} {ts : Tx} {i : Nat} (B : Bet h b ts i) (k : ∀ (c : Nat), b ≤ c ∧ c ≤ b + ts.length + 2 → ∀ o, h.get? c = some o → h'.get? c = some o) : Bet h' b ts i := by
  obtain ⟨⟨f0, fb, Z, hf⟩, l, hT, hl⟩ := B
  refine ⟨⟨f0, fb, ⟨k _ (by omega) _ Z.zip, k _ (by omega) _ Z.its, fun j v hj => ?_⟩, hf⟩, l, k _ (by omega) _ hT, hl⟩
  have hjl : j < ts.length := (List.getElem?_eq_some_iff.mp hj).1
  obtain ⟨o, ho, r⟩ := Z.txt j v hj
  exact ⟨o, k (b + j) (by omega) _ ho, r⟩
theorem Bet.obj {h : Heap} {b : Nat} {ts : Tx} {i : Nat} (B : Bet h b ts i) (c : Nat) (hc : b ≤ c ∧ c ≤ b + ts.length + 2) : ∃ o, h.get? c = some o ∧ ∀ v, o.data ≠ .cell v := by
  obtain ⟨⟨f0, fb, Z, hf⟩, l, hT, hl⟩ := B
  by_cases h1 : c = b + ts.length + 2
  · subst h1
    exact ⟨_, Z.zip, fun v q => nomatch q⟩
  · by_cases h2 : c = b + ts.length + 1
    · subst h2
      exact ⟨_, hT, fun v q => nomatch q⟩
    · by_cases h3 : c = b + ts.length
      · subst h3
        exact ⟨_, Z.its, fun v q => nomatch q⟩
      · have hk : c - b < ts.length := by omega
        obtain ⟨o, ho, _, hd⟩ := Z.txt (c - b) _ (List.getElem?_eq_getElem hk)
        have e : b + (c - b) = c := by omega
        rw [e] at ho
        exact ⟨o, ho, fun v q => by rw [hd] at q; cases q⟩
theorem sgn_vals : ∀ (us : List Value) (cs : List Nat), us.length = cs.length → (∀ (k c : Nat), cs[k]? = some c → ∃ u, us[k]? = some (Value.str ⟨#[c]⟩ u)) → Vals (cs.map fun c => V.str ⟨#[c]⟩) us
  | [], [], _, _ => .nil
  | [], _ :: _, e, _ => by simp at e
  | _ :: _, [], e, _ => by simp at e
  | x :: us, c :: cs, e, h => by
    obtain ⟨u, hu⟩ := h 0 c rfl
    have hx : x = Value.str ⟨#[c]⟩ u := by simpa using hu
    refine .cons ⟨u, hx⟩ (sgn_vals us cs (by simpa using e) fun k c' hk => ?_)
    simpa using h (k + 1) c' (by simpa using hk)
/-- the signs that a column holds -/
theorem col_signs : ∀ (ts : Tx) (i : Nat) (us : List Value), ColAt ts i us → ∃ cs : List Nat, us.length = cs.length ∧ (∀ (k c : Nat), cs[k]? = some c → ∃ u, us[k]? = some (Value.str ⟨#[c]⟩ u)) ∧ cs.length = ts.length ∧ ∀ (k : Nat) (v : Str × Tok), ts[k]? = some v → ∃ c, v.1.cps[i]? = some c ∧ cs[k]? = some c
  | [], i, us, ⟨h1, h2⟩ => ⟨[], h1, fun k c hk => by simp at hk, rfl, fun k v hk => by simp at hk⟩
  | v :: ts, i, [], ⟨h1, h2⟩ => by simp at h1
  | v :: ts, i, x :: us, ⟨h1, h2⟩ => by
    obtain ⟨c, u, hc, hx⟩ := h2 0 v rfl
    obtain ⟨cs, e1, e2, e3, e4⟩ := col_signs ts i us ⟨by simpa using h1, fun k w hk => by simpa using h2 (k + 1) w (by simpa using hk)⟩
    refine ⟨c :: cs, by simp [e1], fun k c' hk => ?_, by simp [e3], fun k w hk => ?_⟩
    · cases k with
      | zero =>
        have : c = c' := by simpa using hk
        subst this
        exact ⟨u, by simpa using hx⟩
      | succ k => simpa using e2 k c' (by simpa using hk)
    · cases k with
      | zero =>
        have : v = w := by simpa using hk
        subst this
        exact ⟨c, hc, rfl⟩
      | succ k => simpa using e4 k w (by simpa using hk)
theorem self_zip {prog : Program} {w : World} {A : Around} {E : Value → Shared → Prop} {s : Shared} {z TI TO : Addr} {f0 f1 : Value} {Q : Value → Shared → Prop} (hz : s.heap.get? z = some (zipO f0 f1 TI TO)) (h : Q (.ref z) s) : wpAny (model prog w) A (pyIter (.ref z)) Q E s := by
  have ty : s.TypeIs (.ref z) "zip" := ⟨_, hz, rfl⟩
  refine wpAny_pyIter_slot ty F.slot_zip_iter (wpAny_call_entry F.slot_zip_iter ty F.entry_zip_iter (show wpAny _ _ (ret (.ref z)) _ _ s from ?_) (F.args_zip_iter_1 _))
  exact wpAny_pure ⟨_, rfl, "zip", _, ty, F.slot_zip_next.lookup, h⟩
theorem turn_zips {P : Program} {w : World} {K : PySem.W.Frag} {nm : Str} {np : Pos} {xs : List Str} {m b : Nat} (h1 : 0 < xs.length) (h8 : xs.length ≤ 8) (hm : ∀ x ∈ xs, x.cps.size = m) :
    Turn P w K (.Name nm np) (Itzs xs m) ((List.range (xs.length + 3)).map (b + ·)) (b + xs.length + 2) (Tn xs b) where
  mem := fp_in (by omega)
  obj := fun i h st c hc => by
    obtain ⟨ts, rfl, B⟩ := st
    have q := fp_le hc
    rw [List.length_map] at q
    exact B.obj c q
  keep := fun i h h' st k => by
    obtain ⟨ts, rfl, B⟩ := st
    refine ⟨ts, rfl, B.kept fun c hc o e => k c (fp_in ?_) o e⟩
    rw [List.length_map]
    exact hc
  item := by
    intro X hP hw hK hc i pins s σ H E I hf st hg
    subst hP hw hK
    obtain ⟨ts, rfl, B⟩ := st
    rw [List.length_map] at h1 h8 hf ⊢
    have hin : ∀ (c : Nat), b ≤ c ∧ c ≤ b + ts.length + 2 → c ∈ (List.range (ts.length + 3)).map (b + ·) := fun c q => fp_in q
    refine pyNext_item (I.ok.hd hc) B h1 h8 (fun k v hk => ?_) fun us h' tk' cu B' hT kp => ?_
    · rw [hm v.1 (List.mem_map.mpr ⟨v, List.mem_of_getElem? hk, rfl⟩)]
      exact hg
    · obtain ⟨cs, e1, e2, e3, e4⟩ := col_signs ts i us cu
      refine ⟨_, rfl, wpAny_pure ?_⟩
      have hlen : cs.length ≤ sizeLine := Nat.le_trans (by rw [e3]; exact h8) (by decide)
      have new : ObjOk X.prog X.w (upd H s.heap.objs.size (.tup (cs.map fun c => V.str ⟨#[c]⟩))) h' s.heap.objs.size (.tup (cs.map fun c => V.str ⟨#[c]⟩)) :=
        ⟨by rw [List.length_map]; exact hlen, us, sgn_vals us cs e1 e2, ⟨_, hT, rfl, _, rfl⟩⟩
      have I1 : Inv X pins σ (upd H s.heap.objs.size (.tup (cs.map fun c => V.str ⟨#[c]⟩))) { s with heap := h', toks := tk' } :=
        I.turnedNew (t' := tk') (ch := (List.range (ts.length + 3)).map (b + ·)) (fun c o hc q => kp c o (Classical.byContradiction fun z => hc (hin c (by omega))) q) hf (Nat.le_refl _) new
      refine ⟨.ref s.heap.objs.size, _, I1, rfl, ⟨_, cs, rfl, I.hok.fresh (Nat.le_refl _), rfl, by rw [List.length_map]; exact e3, fun k y hk => ?_⟩, ⟨ts, rfl, B'⟩, fun c hcm => ?_⟩
      · rw [List.getElem?_map] at hk
        cases hv : ts[k]? with
        | none => simp [hv] at hk
        | some v =>
          simp [hv] at hk
          subst hk
          exact e4 k v hv
      · obtain ⟨o, ho, _⟩ := B.obj c (fp_le hcm)
        rw [upd_ne (Nat.ne_of_lt (Heap.lt_size ho))]
        exact (hf c hcm).1
  done := by
    intro X hP hw hK hc i pins s σ H E I hf st hg
    subst hP hw hK
    obtain ⟨ts, rfl, B⟩ := st
    cases ts with
    | nil => exact absurd h1 (by simp)
    | cons v ts =>
      have hv : v.1.cps.size = m := hm v.1 (by simp)
      have hi : i = v.1.cps.size := by rw [hv]; exact hg
      subst hi
      rw [List.length_map] at hf ⊢
      refine pyNext_end (I.ok.hd hc) B fun h' kp => ⟨rfl, I.turnedL (t' := s.toks) (ch := (List.range ((v :: ts).length + 3)).map (b + ·)) (fun c o hc q => kp c o (Classical.byContradiction fun z => hc (fp_in (by omega))) q) hf⟩
  self := fun A i s Q E st h => by
    obtain ⟨ts, rfl, ⟨f0, fb, Z, hf⟩, l, hT, hl⟩ := st
    rw [List.length_map] at h ⊢
    exact self_zip Z.zip h
/-- zip(*e), e a tuple or a list of texts of one length -/
def iZips (K : PySem.W.Frag) (te : TE) : TI := fun σ H R => te σ H fun y H1 => ∃ (a : Addr) (xs : List Str) (m : Nat), y = .ref a ∧ (SqT K H1 a (xs.map V.str) ∨ SqL K H1 a (xs.map V.str)) ∧ 0 < xs.length ∧ xs.length ≤ 8 ∧ (∀ x ∈ xs, x.cps.size = m) ∧ R (Itzs xs m) H1
theorem tx_of : ∀ (xs : List Str) (us : List Value), Vals (xs.map V.str) us → ∃ ts : Tx, us = txv ts ∧ ts.map Prod.fst = xs
  | [], us, h => by cases h; exact ⟨[], rfl, rfl⟩
  | x :: xs, us, h => by
    cases h with
    | @cons _ u _ ur ru rr =>
      obtain ⟨t, rfl⟩ := ru
      obtain ⟨ts, rfl, e⟩ := tx_of xs ur rr
      exact ⟨(x, t) :: ts, rfl, by rw [List.map_cons, e]⟩
theorem pi_zips {X : Cx} {nm : Str} {np : Pos} {e : Expr} {te : TE} {p sp pos : Pos} (hg : Gl X "zip") (hm : X.mg "zip" = none) (he : PE X e te) (hst : starEach [.Starred e sp] X.env = [(true, eval e X.env)] := by rfl) :
    PI X (.Name nm np) (.Call (.Name "zip" p) [.Starred e sp] [] pos) (iZips X.K te) := by
  refine ⟨fun pins s σ H R I h => ?_⟩
  refine wpAny_Call_Name_kw (ld_blt I hg hm PyProof.Rows.boot_zip ?_)
  rw [hst]
  refine PySem.W.ks_call (P := fun _ => True) rfl (fun hp _ => ⟨Keeper.machine, .inr (.inl rfl), PySem.W.Looks.of_pure rfl⟩) (PySem.W.ks_lone (thn (he.run pins s σ H _ I h) fun v s1 ⟨y, H1, I1, ry, a, xs, m, ey, hx, h1, h8, hm', q⟩ => ?_))
  subst ey
  obtain rfl : v = Value.ref a := ry
  refine StX.star_any I1 hx fun us s2 I2 rv => ⟨trivial, ?_⟩
  obtain ⟨ts, rfl, ex⟩ := tx_of xs us rv
  have hl : ts.length = xs.length := by rw [← ex, List.length_map]
  refine call_zip ts (by rw [hl]; exact h8) ?_
  have old : ∀ c o, s2.heap.get? c = some o → (zheap s2.heap ts).get? c = some o := fun c o e => zheap_old e
  have I3 : Inv X pins σ H1 { s2 with heap := zheap s2.heap ts } := I2.kept (t' := s2.toks) old
  obtain ⟨Z, l, hl2, hT⟩ := zheap_at s2.heap ts
  refine self_zip Z.zip ?_
  refine ⟨s2.heap.objs.size + ts.length + 2, (List.range (xs.length + 3)).map (s2.heap.objs.size + ·), Tn xs s2.heap.objs.size, Itzs xs m, H1, rfl, I3, ?_, ⟨ts, ex, ⟨⟨_, false, Z, .inl rfl⟩, l, hT, hl2⟩⟩, fun c hc => ?_, q⟩
  · rw [hl]
    exact turn_zips h1 h8 hm'
  · have hle := (fp_le hc).1
    exact I2.fpOk hle (I2.hok.fresh hle)
end TH
end
section
set_option Elab.async false
set_option maxRecDepth 100000
set_option maxHeartbeats 4000000
set_option linter.all false
namespace TH
open PySem PySem.Spec PyProof.Rows L2
theorem meets_enum_any {v : Value} {o : Obj} {H : Heap → Prop} (B : Begins v o H) :
    Meets (Builtin.«enumerate.__new__» ⟨[.type "enumerate", v], []⟩) (fun _ R s => H s.heap ∧
      R (.ok (.ret (.ref (s.heap.push o).objs.size))) { s with heap := (s.heap.push o).push { cls := .type "enumerate", data := .fields #[.none, .bool false, .ref s.heap.objs.size, rawInt 0, .none, .none] } }) :=
  .of_wp fun prog w A R s hR => by
    obtain ⟨hp, g, d, tk, os⟩ := s
    obtain ⟨hH, hR⟩ := hR
    have hsub := sub_enumerate
    have it1 : ∀ {A' : Around} {E : Value → Shared → Prop} {Q : Value → Shared → Prop}, Q (.ref hp.objs.size) ⟨hp.push o, g, d, tk, os⟩ → wpAny (model prog w) A' (pyIter v) Q E ⟨hp, g, d, tk, os⟩ :=
      fun q => B.iter prog w _ _ ⟨hp, g, d, tk, os⟩ _ hH q
    wp_walk using it1
    refine wpAny_stack_any fun st => wpAny_pure ?_
    split
    · rename_i c _ _ _ _ _
      cases (c == Value.type "enumerate")
      all_goals
        wp_walk using it1
        exact ⟨_, rfl, hR⟩
    · wp_walk using it1
      exact ⟨_, rfl, hR⟩
theorem enum_any {prog : Program} {w : World} {A : Around} {E : Value → Shared → Prop} {s : Shared} {v : Value} {o : Obj} {H : Heap → Prop} {Q : Value → Shared → Prop} (B : Begins v o H) (hH : H s.heap)
    (h : ∀ h', IsEnum h' (s.heap.objs.size + 1) s.heap.objs.size 0 .none → h'.get? s.heap.objs.size = some o → (∀ b o, s.heap.get? b = some o → h'.get? b = some o) → Q (.ref (s.heap.objs.size + 1)) { s with heap := h' }) :
    wpAny (model prog w) A (call (.type "enumerate") [v]) Q E s := by
  refine callType_new F.called_enumerate (by decide) (F.typeCall_enumerate_1 _) (F.newCall_enumerate_1 _) (fun obj => F.args_object_init_2 obj _) F.entry_enumerate_new (meets_enum_any B) ⟨hH, ?_⟩
  have sz : (s.heap.push o).objs.size = s.heap.objs.size + 1 := Heap.size_push ..
  have at1 := Heap.get?_push_size (s.heap.push o) (o := { cls := .type "enumerate", data := .fields #[.none, .bool false, .ref s.heap.objs.size, rawInt 0, .none, .none] }) rfl
  rw [sz] at at1
  show _ ∧ _
  rw [sz]
  exact ⟨⟨_, at1, rfl⟩, h _ at1 (Heap.get?_push_of_some _ (Heap.get?_push_size _ B.free)) fun b o x => Heap.get?_push_of_some _ (Heap.get?_push_of_some _ x)⟩

/-- the signs of a text with their places -/
def Ites (x : Str) : It := ⟨fun i _ => i < x.cps.size, fun i H v H' => ∃ (T : Addr) (c : Nat), v = .ref T ∧ H T = none ∧ H' = upd H T (.tup [.int (i : Nat), .str ⟨#[c]⟩]) ∧ x.cps[i]? = some c, fun i _ => i = x.cps.size⟩
/-- the items of the tuple at a with their places -/
def Itet (K : PySem.W.Frag) (a : Addr) : It :=
  ⟨fun i H => ∃ xs y, SqT K H a xs ∧ xs[i]? = some y, fun i H v H' => ∃ (T : Addr) (y : V), v = .ref T ∧ H T = none ∧ H' = upd H T (.tup [.int (i : Nat), y]) ∧ ∀ xs, SqT K H a xs → xs[i]? = some y, fun i H => ∃ xs, SqT K H a xs ∧ i = xs.length⟩
section
variable {P : Program} {w : World} {K : PySem.W.Frag} {elts : List Expr} {kk : Nat} {tpos : Pos}
theorem turn_enums {x : Str} {t : Tok} (e it : Addr) (hne : e ≠ it) :
    Turn P w K (.Tuple elts kk tpos) (Ites x) [e, it] e (fun i h => (∃ old, IsEnum h e it ((i : Nat) : Int) old) ∧ h.IsStrIter it (strIterType x) x t i) where
  mem := by simp
  obj := fun i h st b hb => by
    obtain ⟨⟨old, he⟩, ⟨o, ho, hc, hd⟩⟩ := st
    rcases (show b = e ∨ b = it by simpa using hb) with z | z
    · rw [z]
      exact ⟨_, he, fun v q => nomatch q⟩
    · rw [z]
      exact ⟨o, ho, fun v q => by rw [hd] at q; cases q⟩
  keep := fun i h h' st k => by
    obtain ⟨⟨old, he⟩, ⟨o, ho, r⟩⟩ := st
    exact ⟨⟨old, k e (by simp) _ he⟩, ⟨o, k it (by simp) _ ho, r⟩⟩
  item := by
    intro X hP hw hK hc i pins s σ H E I hf st hg
    subst hP hw hK
    obtain ⟨⟨old, he⟩, hit⟩ := st
    have hel : e < s.heap.objs.size := Heap.lt_size he
    have hil : it < s.heap.objs.size := by obtain ⟨_, q, _⟩ := hit; exact Heap.lt_size q
    refine wpAny_pyNext_enum_itemD (Draws.text (A := X.A.in1) (I.ok.hd hc) it x t) he hit hg hne (by simpa using hne) fun y h' tk hy ho hit' hT hsz hk => ?_
    obtain ⟨c, u, hcx, rfl⟩ := hy
    refine ⟨_, rfl, wpAny_letOwnedTupleGo_enum (s := { s with heap := h', toks := tk + 1 }) ho fun h'' he' sb => ?_⟩
    have hT2 : h''.get? s.heap.objs.size = some { cls := .type "tuple", data := .seq #[.int i tk, .str ⟨#[c]⟩ u] } := (sb.2 _ (Nat.ne_of_gt hel)).trans hT
    have new : ObjOk X.prog X.w (upd H s.heap.objs.size (.tup [.int (i : Nat), .str ⟨#[c]⟩])) h'' s.heap.objs.size (.tup [.int (i : Nat), .str ⟨#[c]⟩]) :=
      ⟨by show 2 ≤ sizeLine; decide, [.int i tk, .str ⟨#[c]⟩ u], .cons ⟨_, rfl⟩ (.cons ⟨_, rfl⟩ .nil), ⟨_, hT2, rfl, _, rfl⟩⟩
    have I1 : Inv X pins σ (upd H s.heap.objs.size (.tup [.int (i : Nat), .str ⟨#[c]⟩])) { s with heap := h'', toks := tk + 1 } :=
      I.turnedNew (ch := [e, it]) (fun b ob hb q => (sb.2 b (fun z => hb (by simp [z]))).trans (hk b ob (fun z => hb (by simp [z])) (fun z => hb (by simp [z])) q)) hf (Nat.le_refl _) new
    refine ⟨.ref s.heap.objs.size, _, I1, rfl, ⟨_, c, rfl, I.hok.fresh (Nat.le_refl _), rfl, hcx⟩, ⟨⟨Value.str ⟨#[c]⟩ u, ?_⟩, strIter_other hit' sb (Ne.symm hne)⟩, fun b hb => ?_⟩
    · have e1 : ((i + 1 : Nat) : Int) = (i : Int) + 1 := by omega
      rw [e1]
      exact he'
    · have hb' : b < s.heap.objs.size := by
        rcases (show b = e ∨ b = it by simpa using hb) with z | z
        · rw [z]; exact hel
        · rw [z]; exact hil
      rw [upd_ne (Nat.ne_of_lt hb')]
      exact (hf b hb).1
  done := by
    intro X hP hw hK hc i pins s σ H E I hf st hg
    subst hP hw hK
    obtain ⟨⟨old, he⟩, hit⟩ := st
    obtain ⟨f0, f1, f2, f3, f4, f5⟩ := hf it (by simp)
    have hi : i = x.cps.size := hg
    subst hi
    exact wpAny_pyNext_enum_endD (Draws.text (A := X.A.in1) (I.ok.hd hc) it x t) he hit fun h' eb => ⟨rfl, I.turned (t' := s.toks) (fun b o hb q => eb b o hb q) f0 f1 f3 f4 f5⟩
  self := fun A i s Q E st h => by
    obtain ⟨⟨_, he⟩, _⟩ := st
    exact wpAny_pyIter_enum he h
theorem turn_enumt {a : Addr} (e it : Addr) (hne : e ≠ it) (hae : a ≠ e) (hai : a ≠ it) :
    Turn P w K (.Tuple elts kk tpos) (Itet K a) [e, it] e (fun i h => (∃ old, IsEnum h e it ((i : Nat) : Int) old) ∧ h.IsTupleIter it a i) where
  mem := by simp
  obj := fun i h st b hb => by
    obtain ⟨⟨old, he⟩, ⟨o, ho, hc, hd⟩⟩ := st
    rcases (show b = e ∨ b = it by simpa using hb) with z | z
    · rw [z]
      exact ⟨_, he, fun v q => nomatch q⟩
    · rw [z]
      exact ⟨o, ho, fun v q => by rw [hd] at q; cases q⟩
  keep := fun i h h' st k => by
    obtain ⟨⟨old, he⟩, ⟨o, ho, r⟩⟩ := st
    exact ⟨⟨old, k e (by simp) _ he⟩, ⟨o, k it (by simp) _ ho, r⟩⟩
  item := by
    intro X hP hw hK hc i pins s σ H E I hf st hg
    subst hP hw hK
    obtain ⟨⟨old, he⟩, hit⟩ := st
    obtain ⟨xs, y, hq, hx⟩ := hg
    obtain ⟨its, rv, p, hz⟩ := I.tuple hq
    obtain ⟨u, hu, ru⟩ := rv.get hx
    have hel : e < s.heap.objs.size := Heap.lt_size he
    have hil : it < s.heap.objs.size := by obtain ⟨_, q, _⟩ := hit; exact Heap.lt_size q
    have hlt : i < its.toArray.size := by rw [List.size_toArray]; exact (List.getElem?_eq_some_iff.mp hu).1
    refine wpAny_pyNext_enum_itemD (St := fun i h => h.IsTupleIter it a i ∧ h.IsTuple a its.toArray) (Draws.tuple (A := X.A.in1) (I.ok.hd hc) it a hai its.toArray) he ⟨hit, p⟩ hlt hne (by simp [hne, Ne.symm hae]) fun y' h' tk hy ho hit' hT hsz hk => ?_
    have ey : y' = u := by
      have hy' : its.toArray[i]? = some y' := hy
      rw [List.getElem?_toArray, hu] at hy'
      exact (Option.some.inj hy').symm
    subst ey
    refine ⟨_, rfl, wpAny_letOwnedTupleGo_enum (s := { s with heap := h', toks := tk + 1 }) ho fun h'' he' sb => ?_⟩
    have hT2 : h''.get? s.heap.objs.size = some { cls := .type "tuple", data := .seq #[.int i tk, y'] } := (sb.2 _ (Nat.ne_of_gt hel)).trans hT
    have new : ObjOk X.prog X.w (upd H s.heap.objs.size (.tup [.int (i : Nat), y])) h'' s.heap.objs.size (.tup [.int (i : Nat), y]) :=
      ⟨by show 2 ≤ sizeLine; decide, [.int i tk, y'], .cons ⟨_, rfl⟩ (.cons ru .nil), ⟨_, hT2, rfl, _, rfl⟩⟩
    have I1 : Inv X pins σ (upd H s.heap.objs.size (.tup [.int (i : Nat), y])) { s with heap := h'', toks := tk + 1 } :=
      I.turnedNew (ch := [e, it]) (fun b ob hb q => (sb.2 b (fun z => hb (by simp [z]))).trans (hk b ob (fun z => hb (by simp [z])) (fun z => hb (by simp [z])) q)) hf (Nat.le_refl _) new
    refine ⟨.ref s.heap.objs.size, _, I1, rfl, ⟨_, y, rfl, I.hok.fresh (Nat.le_refl _), rfl, fun ys hy => by rw [I.tuple_inj hy hq]; exact hx⟩, ⟨⟨y', ?_⟩, ?_⟩, fun b hb => ?_⟩
    · have e1 : ((i + 1 : Nat) : Int) = (i : Int) + 1 := by omega
      rw [e1]
      exact he'
    · obtain ⟨o, ho2, r⟩ := hit'.1
      exact ⟨o, (sb.2 it (Ne.symm hne)).trans ho2, r⟩
    · have hb' : b < s.heap.objs.size := by
        rcases (show b = e ∨ b = it by simpa using hb) with z | z
        · rw [z]; exact hel
        · rw [z]; exact hil
      rw [upd_ne (Nat.ne_of_lt hb')]
      exact (hf b hb).1
  done := by
    intro X hP hw hK hc i pins s σ H E I hf st hg
    subst hP hw hK
    obtain ⟨⟨old, he⟩, hit⟩ := st
    obtain ⟨f0, f1, f2, f3, f4, f5⟩ := hf it (by simp)
    obtain ⟨xs, hq, hi⟩ := hg
    obtain ⟨its, rv, p, hz⟩ := I.tuple hq
    have hi2 : i = its.toArray.size := by rw [List.size_toArray, hi, rv.length]
    subst hi2
    exact wpAny_pyNext_enum_endD (St := fun i h => h.IsTupleIter it a i ∧ h.IsTuple a its.toArray) (Draws.tuple (A := X.A.in1) (I.ok.hd hc) it a hai its.toArray) he ⟨hit, p⟩ fun h' eb => ⟨rfl, I.turned (t' := s.toks) (fun b o hb q => eb b o hb q) f0 f1 f3 f4 f5⟩
  self := fun A i s Q E st h => by
    obtain ⟨⟨_, he⟩, _⟩ := st
    exact wpAny_pyIter_enum he h
end
def iEnumS (ta : TA) : TI := fun σ H R => ta σ H fun vs H1 => ∃ x, vs = [.str x] ∧ R (Ites x) H1
def iEnumT (K : PySem.W.Frag) (ta : TA) : TI := fun σ H R => ta σ H fun vs H1 => ∃ a xs, vs = [.ref a] ∧ SqT K H1 a xs ∧ R (Itet K a) H1
section
variable {X : Cx} {e : Expr} {ta : TA} {p pos tpos : Pos} {elts : List Expr} {kk : Nat}
theorem pi_enumS (hg : Gl X "enumerate") (hm : X.mg "enumerate" = none) (ha : PA X [e] ta) (hs : starEach [e] X.env = [(false, eval e X.env)] := by rfl) : PI X (.Tuple elts kk tpos) (.Call (.Name "enumerate" p) [e] [] pos) (iEnumS ta) := by
  refine ⟨fun pins s σ H R I h => ?_⟩
  refine Call_ (ld_blt I hg hm boot_enumerate (PyProof.Rows.callWith_type1 (thn (ha.run pos pins s σ H _ I h) fun us s1 ⟨vs, H1, I1, r1, x, ex, q⟩ => ?_) hs rfl))
  subst ex
  cases r1 with
  | @cons _ u _ _ r rr =>
    cases rr
    obtain ⟨t, rfl⟩ := r
    refine enum_any (begins_text x t) trivial fun h' he hit hk => wpAny_pyIter_enum he ?_
    have I2 : Inv X pins σ H1 { s1 with heap := h' } := I1.kept (t' := s1.toks) hk
    refine ⟨s1.heap.objs.size + 1, [s1.heap.objs.size + 1, s1.heap.objs.size], _, _, H1, rfl, I2, turn_enums (x := x) (t := t) _ _ (Nat.succ_ne_self _), ⟨⟨.none, he⟩, ⟨_, hit, rfl, rfl⟩⟩, fun b hb => ?_, q⟩
    have hle : s1.heap.objs.size ≤ b := by
      rcases (show b = s1.heap.objs.size + 1 ∨ b = s1.heap.objs.size by simpa using hb) with z | z
      · rw [z]; exact Nat.le_add_right _ _
      · rw [z]; exact Nat.le_refl _
    exact I1.fpOk hle (I1.hok.fresh hle)
theorem pi_enumT (hg : Gl X "enumerate") (hm : X.mg "enumerate" = none) (ha : PA X [e] ta) (hs : starEach [e] X.env = [(false, eval e X.env)] := by rfl) : PI X (.Tuple elts kk tpos) (.Call (.Name "enumerate" p) [e] [] pos) (iEnumT X.K ta) := by
  refine ⟨fun pins s σ H R I h => ?_⟩
  refine Call_ (ld_blt I hg hm boot_enumerate (PyProof.Rows.callWith_type1 (thn (ha.run pos pins s σ H _ I h) fun us s1 ⟨vs, H1, I1, r1, a, xs, ex, hq, q⟩ => ?_) hs rfl))
  subst ex
  cases r1 with
  | @cons _ u _ _ r rr =>
    cases rr
    obtain rfl : u = Value.ref a := r
    obtain ⟨its, rv, p', hz⟩ := I1.tuple hq
    have hal : a < s1.heap.objs.size := by obtain ⟨_, z, _⟩ := p'; exact Heap.lt_size z
    refine enum_any (begins_tuple a its.toArray) p' fun h' he hit hk => wpAny_pyIter_enum he ?_
    have I2 : Inv X pins σ H1 { s1 with heap := h' } := I1.kept (t' := s1.toks) hk
    refine ⟨s1.heap.objs.size + 1, [s1.heap.objs.size + 1, s1.heap.objs.size], _, _, H1, rfl, I2, turn_enumt (a := a) _ _ (Nat.succ_ne_self _) (Nat.ne_of_lt (Nat.lt_succ_of_lt hal)) (Nat.ne_of_lt hal), ⟨⟨.none, he⟩, ⟨_, hit, rfl, rfl⟩⟩, fun b hb => ?_, q⟩
    have hle : s1.heap.objs.size ≤ b := by
      rcases (show b = s1.heap.objs.size + 1 ∨ b = s1.heap.objs.size by simpa using hb) with z | z
      · rw [z]; exact Nat.le_add_right _ _
      · rw [z]; exact Nat.le_refl _
    exact I1.fpOk hle (I1.hok.fresh hle)
end
/-- enumerate in a for: an instance of Walk -/
theorem walk_enumS {x : Str} : Walk (Ites x) x.cps.size (fun _ => True) (fun i H v H' => ∃ (T : Addr) (c : Nat), v = .ref T ∧ H T = none ∧ H' = upd H T (.tup [.int (i : Nat), .str ⟨#[c]⟩]) ∧ x.cps[i]? = some c) :=
  ⟨fun i H hi _ => hi, fun H _ => rfl, fun i H v H' hi _ y => y⟩
theorem walk_enumT {K : PySem.W.Frag} {a : Addr} {xs : List V} : Walk (Itet K a) xs.length (fun H => SqT K H a xs) (fun i H v H' => ∃ (T : Addr) (y : V), v = .ref T ∧ H T = none ∧ H' = upd H T (.tup [.int (i : Nat), y]) ∧ xs[i]? = some y) :=
  ⟨fun i H hi g => ⟨xs, xs[i], g, List.getElem?_eq_getElem hi⟩, fun H g => ⟨xs, g, rfl⟩, fun i H v H' hi g ⟨T, y, e1, e2, e3, e4⟩ => ⟨T, y, e1, e2, e3, e4 xs g⟩⟩
theorem walk_zips {xs : List Str} {m : Nat} : Walk (Itzs xs m) m (fun _ => True) (fun i H x H' => ∃ (T : Addr) (cs : List Nat), x = .ref T ∧ H T = none ∧ H' = upd H T (.tup (cs.map fun c => V.str ⟨#[c]⟩)) ∧ cs.length = xs.length ∧ ∀ (k : Nat) (y : Str), xs[k]? = some y → ∃ c, y.cps[i]? = some c ∧ cs[k]? = some c) :=
  ⟨fun i H hi _ => hi, fun H _ => rfl, fun i H v H' hi _ y => y⟩
end TH
end
section
set_option Elab.async false
set_option maxRecDepth 100000
set_option maxHeartbeats 4000000
set_option linter.all false
namespace TH
open PySem PySem.Spec PyProof.Rows L2
section
open PySem.W
variable {prog : Program} {w : World} {M : Model} {A : Around} {E : Value → Shared → Prop} {s : Shared} {K : Frag} {x C D f : Addr} {ox : Obj} {od : Option Obj} {nm : String}
/-- the class at D, straight over object, knows nothing of the operator -/
structure NoOp (K : Frag) (D : Addr) (nm : String) : Prop where
  cls : ∃ cd, clsIn K D = some cd ∧ cd.mro = [.ref D, .type "object"]
  f1 : findIn K (.ref D) (PySem.dunder nm) = some none
  r1 : findIn K (.ref D) (dunderR nm) = some none
  f0 : findIn K (.type "object") (PySem.dunder nm) = some none
  r0 : findIn K (.type "object") (dunderR nm) = some none
theorem NoOp.fills {h : Heap} (N : NoOp K D nm) (X : K.In h) : Looks M h (fillsNumberSlot (.ref D) nm) false := by
  intro A Q E s k q
  obtain ⟨cd, hcd, hm⟩ := N.cls
  have X' : K.In s.heap := X.keeps k
  have L1 : Looks M s.heap (typeLookup (.ref D) (PySem.dunder nm)) none := looks_findIn X' N.f1
  have L2 : Looks M s.heap (typeLookup (.ref D) (dunderR nm)) none := looks_findIn X' N.r1
  have L3 : Looks M s.heap (typeLookup (.type "object") (PySem.dunder nm)) none := looks_findIn X' N.f0
  have L4 : Looks M s.heap (typeLookup (.type "object") (dunderR nm)) none := looks_findIn X' N.r0
  unfold fillsNumberSlot
  refine wpAny_bind ((looks_clsIn X' hcd).andThen (f := fun cd => pure cd.mro) .now A _ E s (fun _ _ e => e) ?_)
  rw [hm, List.anyM_cons]
  refine wpAny_bind ?_
  show wpAny M A (List.anyM _ [PySem.dunder nm, dunderR nm]) _ _ _
  rw [List.anyM_cons]
  refine wpAny_bind (wpAny_bind (L1.here (wpAny_pure ?_)))
  rw [if_neg Bool.false_ne_true, List.anyM_cons]
  refine wpAny_bind (wpAny_bind (L2.here (wpAny_pure ?_)))
  rw [if_neg Bool.false_ne_true, List.anyM_nil]
  refine wpAny_pure ?_
  rw [if_neg Bool.false_ne_true, List.anyM_cons]
  refine wpAny_bind (wpAny_bind (L3.here (wpAny_bind (L4.here (wpAny_pure ?_)))))
  show wpAny M A (if false = true then _ else _) _ _ _
  rw [if_neg Bool.false_ne_true, List.anyM_nil]
  exact wpAny_pure q
theorem binop_two {op : Operator} {b : Value} {Q : Value → Shared → Prop} (X : K.In s.heap) (I : InstAt s.heap x ox C od) (hb : Looks (model prog w) s.heap (typeOf b) (.ref D)) (hCD : C ≠ D) (hc : selfFirst K C = true) (N : NoOp K D op.info.2)
    (hs : findIn K (.ref C) (PySem.dunder op.info.2) = some (some (.ref f))) (hf : isFn K (.ref f) = true)
    (h : wpAny (model prog w) A (call (.ref f) [.ref x, b]) (PySem.W.CmpBack Q) E s) : wpAny (model prog w) A (binaryOp op (.ref x) b) Q E s := by
  obtain ⟨cd, rest, hcd, hm⟩ := ksp_first hc
  have hne : (Value.ref C == Value.ref D) = false := by simp [hCD]
  unfold binaryOp
  refine wpAny_holding (wpAny_bind ?_)
  unfold binaryOp1
  refine wpAny_bind (I.type.here (wpAny_bind (hb.here (wpAny_bind ((fills_K X hcd hm hs).here ?_)))))
  simp only [hne, Bool.false_eq_true, if_false]
  refine wpAny_bind ((N.fills X).here ?_)
  simp only [Bool.and_false, Bool.false_eq_true, if_false, Bool.false_and]
  refine wpAny_bind (wpAny_pure ?_)
  simp only [Bool.false_eq_true, if_false, if_true]
  refine wpAny_bind (m := tryMethod (.ref x) _ b) ?_
  unfold tryMethod
  refine wpAny_bind (special_fn X I hs (beq_iff_eq.mp hf) (wpAny_mono h (fun v s' hv => ?_) fun _ _ e => e))
  cases v <;> first | exact hv.elim | exact wpAny_pure (wpAny_pure (wpAny_pure hv))
end
/-- a op b: a an instance of C whose def for it is at g, b one of D -/
def rTwo (C D : Addr) (sp : Sp) (E : XK) : R2 := fun x y H Q => ∃ a dx fs b dy gs, x = .ref a ∧ y = .ref b ∧ H a = some (.ins C dx fs) ∧ H b = some (.ins D dy gs) ∧ sp [x, y] H Q E
/-- C(*e), the class by its name; c(*e), the class in a slot -/
def tMakeS (K : PySem.W.Frag) (C : Addr) (sp : Sp) (E : XK) (te : TE) : TE := fun σ H Q => te σ H fun y H1 => ∃ a xs, y = V.ref a ∧ (SqT K H1 a xs ∨ SqL K H1 a xs) ∧ ∀ x dx, H1 x = Option.none → H1 dx = Option.none → dx ≠ x →
  sp (V.ref x :: xs) (upd (upd H1 dx (.own x)) x (.ins C dx [])) (fun v H2 => v = .non ∧ Q (.ref x) H2) E
section
variable {X : Cx} {CX : CXT} {k : Nat} {f C : Addr} {sp : Sp} {E : XK} {x : Str} {e : Expr} {te tf : TE} {p spo pos : Pos}
theorem pe_makeS (M : Mk X.K C f) (F : FnR X.prog X.w X.K X.mg X.base CX k f sp) (hr : Room (k + 1) X.A) (hg : Gl X x) (hm : X.mg x = some (.ref C)) (hx : Passes CX X E) (he : PE X e te) (hdb : (x == ("__debug__" : Str)) = false := by decide)
    (hst : starEach [.Starred e spo] X.env = [(true, eval e X.env)] := by rfl) : PE X (.Call (.Name x p) [.Starred e spo] [] pos) (tMakeS X.K C sp E te) := by
  refine ⟨fun pins s σ H Q I h => ?_⟩
  refine wpAny_Call_Name_kw (ld_glob I hg hm ?_ hdb)
  refine PySem.W.callWith_S (h₀ := X.base) I.ok.mod.kin M.kp (thn (he.run pins s σ H _ I h) fun v s1 ⟨y, H1, I1, ry, a, xs, ey, hxs, q⟩ => ?_) hst
  subst ey
  obtain rfl : v = Value.ref a := ry
  exact StX.star_any I1 hxs fun us s2 I2 rv => ⟨I2.kIn, StX.run_makeR M F hr hx I2 rv q⟩
/-- the class is what the name of the def holds -/
theorem pe_makeSv (M : Mk X.K C f) (F : FnR X.prog X.w X.K X.mg X.base CX k f sp) (hr : Room (k + 1) X.A) (hf : PE X (.Name x p) tf) (hx : Passes CX X E) (he : PE X e te)
    (hst : starEach [.Starred e spo] X.env = [(true, eval e X.env)] := by rfl) : PE X (.Call (.Name x p) [.Starred e spo] [] pos) (fun σ H Q => tf σ H fun c H1 => c = .ref C ∧ tMakeS X.K C sp E te σ H1 Q) := by
  refine ⟨fun pins s σ H Q I h => ?_⟩
  refine wpAny_Call_Name_kw (thn (hf.run pins s σ H _ I h) fun u s0 ⟨c, H0, I0, rc, ec, h⟩ => ?_)
  subst ec
  obtain rfl : u = Value.ref C := rc
  refine PySem.W.callWith_S (h₀ := X.base) I.ok.mod.kin M.kp (thn (he.run pins s0 σ H0 _ I0 h) fun v s1 ⟨y, H1, I1, ry, a, xs, ey, hxs, q⟩ => ?_) hst
  subst ey
  obtain rfl : v = Value.ref a := ry
  exact StX.star_any I1 hxs fun us s2 I2 rv => ⟨I2.kIn, StX.run_makeR M F hr hx I2 rv q⟩
end
end TH
end
section
set_option Elab.async false
set_option maxRecDepth 100000
set_option maxHeartbeats 4000000
set_option linter.all false
namespace TH
open PySem PySem.Spec PyProof.Rows L2
theorem thnN {α : Type} {n : Nat} {t : Sem α} {Q Q' : α → Shared → Prop} {M : Model} {A : Around} {E : Value → Shared → Prop} {s : Shared} (hn : n ≤ s.toks) (h : wpAny M A t Q E s) (hQ : ∀ a s', n ≤ s'.toks → Q a s' → Q' a s') : wpAny M A t Q' E s :=
  wpAny_mono (wpAny_toks_of hn h) (fun a s' z => hQ a s' z.1 z.2) fun _ _ z => z.2
def PEn (n : Nat) (X : Cx) (e : Expr) (t : TE) : Prop :=
  ∀ (pins : List (Addr × Obj)) (s : Shared) (σ : L2.St) (H : Hp) (Q : VK), n ≤ s.toks → Inv X pins σ H s → t σ H Q → wpAny (model X.prog X.w) X.A (eval e X.env) (EP X pins σ Q) X.xe s
def PTn (n : Nat) (X : Cx) (e : Expr) (t : TT) : Prop :=
  ∀ (pins : List (Addr × Obj)) (s : Shared) (σ : L2.St) (H : Hp) (Q : Bool → Hp → Prop), n ≤ s.toks → Inv X pins σ H s → t σ H Q → wpAny (model X.prog X.w) X.A (isTrue e X.env (eval e X.env)) (TP X pins σ Q) X.xe s
def PWn (n : Nat) (X : Cx) (e : Expr) (t : TT) : Prop :=
  ∀ (whole : Sem Value) (pins : List (Addr × Obj)) (s : Shared) (σ : L2.St) (H : Hp) (Q : Bool → Hp → Prop), n ≤ s.toks → Inv X pins σ H s → t σ H Q → wpAny (model X.prog X.w) X.A (isTrue e X.env whole) (TP X pins σ Q) X.xe s
def PAn (n : Nat) (X : Cx) (es : List Expr) (t : TA) : Prop :=
  ∀ (pos : Pos) (pins : List (Addr × Obj)) (s : Shared) (σ : L2.St) (H : Hp) (Q : List V → Hp → Prop), n ≤ s.toks → Inv X pins σ H s → t σ H Q → wpAny (model X.prog X.w) X.A (spliced (backTo pos (starEach es X.env))) (AP X pins σ Q) X.xe s
def PSn (n : Nat) (X : Cx) (st : Stmt) (t : TS) : Prop :=
  ∀ (pins : List (Addr × Obj)) (s : Shared) (σ : L2.St) (H : Hp) (D : Ends), n ≤ s.toks → Inv X pins σ H s → t D σ H → wpAny (model X.prog X.w) X.A (exec st X.env) (SP X pins D) X.xe s
def PSsn (n : Nat) (X : Cx) (st : List Stmt) (t : TS) : Prop :=
  ∀ (pins : List (Addr × Obj)) (s : Shared) (σ : L2.St) (H : Hp) (D : Ends), n ≤ s.toks → Inv X pins σ H s → t D σ H → wpAny (model X.prog X.w) X.A (execs st X.env) (SP X pins D) X.xe s
def OpRn (n : Nat) (X : Cx) (f : Value → Value → Sem Value) (r : R2) : Prop :=
  ∀ (pins : List (Addr × Obj)) (s : Shared) (σ : L2.St) (H : Hp) (x y : V) (v u : Value) (Q : VK), n ≤ s.toks → Inv X pins σ H s → RelV x v → RelV y u → r x y H Q → wpAny (model X.prog X.w) X.A (f v u) (EP X pins σ Q) X.xe s
/-- a def called, its promise kept wherever n tokens are out -/
def FnRn (n : Nat) (P : Program) (w : World) (K : PySem.W.Frag) (mg : Str → Option Value) (base : Heap) (CX : CXT) (k : Nat) (f : Addr) (sp : Sp) : Prop :=
  ∀ (A : Around) (outer : List Env) (s : Shared) (H : Hp) (us : List Value) (vs : List V) (Q : VK) (E : XK), n ≤ s.toks → Room k A → Env0 P w K mg base A outer s H → Vals vs us → sp vs H Q E →
    codeAny (model P w) A (.call (.ref f) ⟨us, []⟩) (CR CX outer P w H s Q E) s
section
variable {X : Cx} {n : Nat}
theorem _root_.L2.PE.up {e : Expr} {t : TE} (h : PE X e t) : PEn n X e t := fun pins s σ H Q _ I q => h.run pins s σ H Q I q
theorem _root_.L2.PT.up {e : Expr} {t : TT} (h : PT X e t) : PTn n X e t := fun pins s σ H Q _ I q => h.run pins s σ H Q I q
theorem _root_.L2.PA.up {es : List Expr} {t : TA} (h : PA X es t) : PAn n X es t := fun pos pins s σ H Q _ I q => h.run pos pins s σ H Q I q
theorem _root_.L2.PS.up {st : Stmt} {t : TS} (h : PS X st t) : PSn n X st t := fun pins s σ H D _ I q => h.run pins s σ H D I q
theorem _root_.L2.PSs.up {st : List Stmt} {t : TS} (h : PSs X st t) : PSsn n X st t := fun pins s σ H D _ I q => h.run pins s σ H D I q
theorem PWn.pt {e : Expr} {t : TT} (h : PWn n X e t) : PTn n X e t := h _
theorem pssn_cons {st : Stmt} {rest : List Stmt} {t u : TS} (h1 : PSn n X st t) (h2 : PSsn n X rest u) : PSsn n X (st :: rest) (tSeq t u) := by
  intro pins s σ H D hn I h
  refine wpAny_execs_cons (thnN hn (h1 pins s σ H { D with nx := u D } hn I h) fun f s1 hn1 q => ?_)
  cases f with
  | next =>
    obtain ⟨σ1, H1, I1, q1⟩ := q
    exact h2 pins s1 σ1 H1 D hn1 I1 q1
  | ret v => exact q
  | brk => exact q
  | cont => exact q
theorem pssn_one {st : Stmt} {t : TS} (h1 : PSn n X st t) : PSsn n X [st] t := by
  intro pins s σ H D hn I h
  refine wpAny_execs_cons (thnN hn (h1 pins s σ H D hn I h) fun f s1 _ q => ?_)
  cases f with
  | next => exact wpAny_execs_nil q
  | ret v => exact q
  | brk => exact q
  | cont => exact q
theorem psn_ret {e : Expr} {te : TE} {pos : Pos} (he : PEn n X e te) : PSn n X (.Return (some e) pos) (tRet te) := fun pins s σ H D hn I h =>
  wpAny_Return_some (thn (he pins s σ H _ hn I h) fun _ _ ⟨x, H1, I1, r1, q1⟩ => ⟨x, σ, H1, I1, r1, q1⟩)
theorem psn_if {c : Expr} {a b : List Stmt} {tc : TT} {t u : TS} {pos : Pos} (hc : PTn n X c tc) (ha : PSsn n X a t) (hb : PSsn n X b u) : PSn n X (.If c a b pos) (tIfS tc t u) := by
  intro pins s σ H D hn I h
  refine wpAny_If (thnN hn (hc pins s σ H _ hn I h) fun d s1 hn1 ⟨H1, I1, q1⟩ => ?_)
  cases d with
  | true => exact ha pins s1 σ H1 D hn1 I1 q1
  | false => exact hb pins s1 σ H1 D hn1 I1 q1
theorem psn_set {i : Nat} {x : Str} {e : Expr} {te : TE} {pos pos' : Pos} (hN : X.N.Nodup) (hi : X.N[i]? = some x) (hx : Loc X.env.scope x) (he : PEn n X e te) (hs : swapsWith e (some (.Name x pos')) pos.line X.env = pure false := by rfl)
    (hf : X.fn x = true ∨ X.env.scope.names.lookup x = some .local := by first | exact .inl rfl | exact .inr rfl | assumption) : PSn n X (.Assign [.Name x pos'] e pos) (tAsg te (gName i)) := fun pins s σ H D hn I h =>
  wpAny_Assign_Name (thn (he pins s σ H _ hn I h) fun _ s1 ⟨y, H1, I1, r1, q1⟩ => store_ok I1 hN hi hx r1 (fun _ I2 => ⟨_, H1, I2, q1⟩) hf) hs
theorem pan_nil : PAn n X [] tNil := pa_nil.up
theorem pan_cons {e : Expr} {es : List Expr} {te : TE} {ta : TA} (he : PEn n X e te) (hr : PAn n X es ta) (hs : starEach (e :: es) X.env = (false, eval e X.env) :: starEach es X.env := by rfl) : PAn n X (e :: es) (tCons te ta) := by
  intro pos pins s σ H Q hn I h
  rw [hs]
  refine Calls.spliced_cons (thnN hn (he pins s σ H _ hn I h) fun v s1 hn1 ⟨x, H1, I1, r1, q1⟩ => ?_)
  exact thn (hr pos pins s1 σ H1 _ hn1 I1 q1) fun us s2 ⟨vs, H2, I2, r2, q2⟩ => ⟨x :: vs, H2, I2, .cons r1 r2, q2⟩
theorem run_fnRn {pins : List (Addr × Obj)} {σ : L2.St} {H : Hp} {s : Shared} {CX : CXT} {k : Nat} {f : Addr} {sp : Sp} {E : XK} {Q : VK} {us : List Value} {vs : List V} (hn : n ≤ s.toks) (F : FnRn n X.prog X.w X.K X.mg X.base CX k f sp) (hr : Room k X.A) (hx : Passes CX X E) (I : Inv X pins σ H s) (r : Vals vs us) (h : sp vs H Q E) :
    codeAny (model X.prog X.w) X.A (.call (.ref f) ⟨us, []⟩) (fun r s' => match r with | .ok (.ret v) => EP X pins σ Q v s' | .ok _ => False | .error e => X.xe e s') s := by
  refine codeAny_mono (F X.A X.stack s H us vs Q E hn hr I.env0 r h) fun r s' hq => ?_
  cases r with
  | error e => exact hx pins σ H s e s' I hq
  | ok fl =>
    cases fl with
    | ret u => exact I.after hq
    | next => exact False.elim hq
    | brk => exact False.elim hq
    | cont => exact False.elim hq
/-- x(e, ..), x a def of the module -/
def tCal (sp : Sp) (E : XK) (t : TA) : TE := fun σ H Q => t σ H fun vs H1 => sp vs H1 Q E
theorem pen_call {CX : CXT} {k : Nat} {f : Addr} {sp : Sp} {E : XK} {x : Str} {e : Expr} {es : List Expr} {t : TA} {p pos : Pos} (F : FnRn n X.prog X.w X.K X.mg X.base CX k f sp) (hr : Room k X.A) (hg : Gl X x) (hm : X.mg x = some (.ref f)) (hk : PySem.W.keepIn X.K (.ref f) = true) (hx : Passes CX X E)
    (ha : PAn n X (e :: es) t) (hdb : (x == ("__debug__" : Str)) = false := by decide) (he : starEach (e :: es) X.env = (false, eval e X.env) :: starEach es X.env := by rfl) (hpl : (backTo pos (starEach es X.env)).any (·.1) = false := by rfl) :
    PEn n X (.Call (.Name x p) (e :: es) [] pos) (tCal sp E t) := by
  intro pins s σ H Q hn I h
  refine wpAny_Call_Name_kw (ld_glob I hg hm ?_ hdb)
  exact PySem.W.callWith_K (h₀ := X.base) I.ok.mod.kin hk (thnN hn (ha pos pins s σ H _ hn I h) fun us s1 hn1 ⟨vs, H1, I1, r, q⟩ => ⟨I1.kIn, wpAny_call (run_fnRn hn1 F hr hx I1 r q)⟩) he hpl
theorem pen_callTy {T : String} {r : List V → Hp → VK → Prop} {x : Str} {e : Expr} {es : List Expr} {t : TA} {p pos : Pos} (hc : CallR X (.type T) r) (hg : Gl X x) (hm : X.mg x = none) (hv : bootBuiltins x = some (.type T)) (ha : PAn n X (e :: es) t) (hne : x ≠ "__name__" := by decide) (hdb : (x == ("__debug__" : Str)) = false := by decide)
    (he : starEach (e :: es) X.env = (false, eval e X.env) :: starEach es X.env := by rfl) (hpl : (backTo pos (starEach es X.env)).any (·.1) = false := by rfl) : PEn n X (.Call (.Name x p) (e :: es) [] pos) (tCB r t) := by
  intro pins s σ H Q hn I h
  refine wpAny_Call_Name_kw (ld_blt I hg hm hv ?_ hne hdb)
  exact PyProof.Rows.callWith_type1 (thn (ha pos pins s σ H _ hn I h) fun us s1 ⟨vs, H1, I1, r1, q1⟩ => hc pins s1 σ H1 vs us Q I1 r1 q1) he hpl
theorem pen_op {op : Operator} {r : R2} {a b : Expr} {ta tb : TE} {pos : Pos} (ho : OpRn n X (binaryOp op) r) (ha : PEn n X a ta) (hb : PEn n X b tb) : PEn n X (.BinOp a op b pos) (tOp r ta tb) := fun pins s σ H Q hn I h =>
  wpAny_BinOp (thnN hn (ha pins s σ H _ hn I h) fun v s1 hn1 ⟨x, H1, I1, rx, q1⟩ => thnN hn1 (hb pins s1 σ H1 _ hn1 I1 q1) fun u s2 hn2 ⟨y, H2, I2, ry, q2⟩ => ho pins s2 σ H2 x y v u Q hn2 I2 rx ry q2)
theorem ptn_cmpR {op : CmpOp} {r : R2} {a b : Expr} {ta tb : TE} {pos : Pos} (ho : OpR X (compareOp op) r) (ha : PEn n X a ta) (hb : PEn n X b tb) (hm : behindInMarks op b = false) : PTn n X (.Compare a [op] [b] pos) (tTest (tOp r ta tb)) := by
  intro pins s σ H Q hn I h
  refine wpAny_isTrue_Compare1 (thnN hn (ha pins s σ H _ hn I h) fun v s1 hn1 ⟨x, H1, I1, r1, q1⟩ => thn (hb pins s1 σ H1 _ hn1 I1 q1) fun u s2 ⟨y, H2, I2, r2, q2⟩ => thn (ho pins s2 σ H2 x y v u _ I2 r1 r2 q2) fun c s3 ⟨z, H3, I3, r3, k, e, q3⟩ => ?_) hm
  subst e
  cases r3
  exact wpAny_truthy_bool ⟨H3, I3, q3⟩
theorem ptn_val {e : Expr} {t : TE} (h : PEn n X e t) (he : ∀ whole, isTrue e X.env whole = (do let v ← whole; standAt e.pos; holding [v] (truthy v)) := by intro _; rfl) : PTn n X e (tB t) := by
  intro pins s σ H Q hn I hw
  rw [he]
  refine wpAny_bind (thn (h pins s σ H _ hn I hw) fun v s1 ⟨x, H1, I1, r1, c, e1, q1⟩ => ?_)
  subst e1
  cases r1
  exact wpAny_bind (wpAny_standAt (wpAny_holding (wpAny_truthy_bool ⟨H1, I1, q1⟩)))
end
/-- nothing raised: whatever is wished of what is raised -/
theorem pssn_nox {X : Cx} {n : Nat} {st : List Stmt} {t : TS} (h : PSsn n X.nox st t) : PSsn n X st t := fun pins s σ H D hn I q =>
  wpAny_mono (h pins s σ H D hn (I.wish _) q) (fun _ _ z => z.unwish) fun _ _ z => False.elim z
theorem fn_n {CX : CXT} {P : Program} {w : World} {K : PySem.W.Frag} {mg : Str → Option Value} {base : Heap} {n k : Nat} {f : Addr} {x qual : Str} {st : Stmt} {fd : FuncData} {N ps : List Str} {sp : Sp} (F : L2.Fun K x qual st f fd) (b : Binds K fd ps []) (S : FnScope N ps (defScope st)) (len : ∀ vs H Q E, sp vs H Q E → vs.length = ps.length)
    (hbody : ∀ (cdv : Value) (A : Around) (outer : List Env) (s : Shared) (H : Hp) (vs : List V) (Q : VK) (E : XK), Room k (A.deeper (envOfC qual (defScope st) s.heap.objs.size f cdv)) → sp vs H Q E →
      ∃ t, PSsn n (cxOf CX P w K mg base N qual (defScope st) f cdv A outer s H E).nox (defBody st) t ∧ t { nx := fun _ H' => Q .non H', rt := Q } (start N vs) H) : FnRn n P w K mg base CX (k + 1) f sp := by
  obtain ⟨oc, od, kV, doc, pm, an, cdv, ct, osl, rfl, lk, hcd⟩ := F.ex
  intro A outer s H us vs Q E hn hr e0 r hsp
  have hl : vs.length = ps.length := len vs H Q E hsp
  have KX : K.In s.heap := e0.mod.kin.keeps fun b o e => (e0.bs b o e).1
  have lim : s.heap.NoLimit := e0.mod.nolimit.keeps fun b o e => (e0.bs b o e).1
  have hkind : ∀ y ∈ ps.zip us, (defScope st).names.lookup y.1 = some .local ∨ ((defScope st).names.lookup y.1 = some .cell ∧ ((cellsFrom (s.heap.objs.size + 1) (defScope st).names []).lookup y.1).isSome = true) := fun ⟨m, v⟩ hy => by
    rcases S.par m (List.of_mem_zip hy).1 with q | q
    · exact .inl q
    · exact .inr ⟨q, PySem.W.cellsFrom_some _ _ _ (.inl q)⟩
  have hul : us.length = ps.length := by rw [← r.length]; exact hl
  have hb := b s us KX (by rw [List.append_nil]; exact hul)
  rw [List.append_nil] at hb
  refine codeAny_call_function hr.depth (KX _ _ lk) rfl S.co S.gen rfl (PySem.W.codeRec_of KX hcd) (hb _ _ _ _ ?_)
  refine wpAny_with_toks hn (wpAny_mono (wpAny_newFunctionEnv_cells (Q := fun env s1 => n ≤ s1.toks → _) S.kind hkind fun env he s1 x hn1 => ?_) (fun _ _ z => z) fun _ _ z _ => z)
  subst he
  refine ⟨lim.keeps x.toInCall.keep, codeAny_func ?_⟩
  obtain ⟨t, ht, hq⟩ := hbody cdv A outer s H vs Q E (hr.deeper _) hsp
  have I : Inv (cxOf CX P w K mg base N qual (defScope st) f cdv A outer s H E) [] (start N vs) H s1 := inv_start S hr.hd e0 hl r x
  refine wpAny_mono (pssn_nox ht [] s1 (start N vs) H _ hn1 I hq) (fun fl s' hs => ?_) fun e s' hs => hs
  have fin : ∀ {σ' : L2.St} {H' : Hp} {v : V} {u : Value}, Inv (cxOf CX P w K mg base N qual (defScope st) f cdv A outer s H E) [] σ' H' s' → RelV v u → Q v H' → CE outer P w H s Q u s' :=
    fun {σ' H' v u} J rv q => ⟨v, H', J.os, J.bare, J.base, J.hok, rv, q⟩
  cases fl with
  | ret u =>
    obtain ⟨v, σ', H', J, rv, q⟩ := hs
    exact fin J rv q
  | next =>
    obtain ⟨σ', H', J, q⟩ := hs
    exact fin (v := V.non) (u := Value.none) J rfl q
  | brk =>
    obtain ⟨_, _, _, q⟩ := hs
    exact False.elim q
  | cont =>
    obtain ⟨_, _, _, q⟩ := hs
    exact False.elim q
end TH
end
section
set_option Elab.async false
set_option maxRecDepth 100000
set_option maxHeartbeats 4000000
set_option linter.all false
namespace TH
open PySem PySem.Spec PyProof.Rows L2
section
variable {X : Cx} {n : Nat}
/-- what a turn leaves of the iterator's own objects -/
theorem turn_back {pins : List (Addr × Obj)} {fp : List Addr} {it : Addr} {tg : Expr} {J : It} {tn : Nat → Heap → Prop} {i : Nat} {h5 : Heap} {σ7 : L2.St} {H7 : Hp} {s7 : Shared} (T : Turn X.prog X.w X.K tg J fp it tn) (st5 : tn i h5)
    (I7 : Inv X (pins ++ pinsAt fp h5) σ7 H7 s7) : tn i s7.heap ∧ ∀ b ∈ fp, H7 b = none := by
  have key : ∀ b ∈ fp, ∀ o, h5.get? b = some o → s7.heap.get? b = some o ∧ H7 b = none := fun b hb o e => by
    obtain ⟨z1, z2, _⟩ := I7.pin (b, o) (List.mem_append_right _ (List.mem_append_right _ (mem_pinsAt hb e)))
    exact ⟨z1, z2⟩
  refine ⟨T.keep _ _ _ st5 fun b hb o e => (key b hb o e).1, fun b hb => ?_⟩
  obtain ⟨o, e, _⟩ := T.obj _ _ st5 b hb
  exact (key b hb o e).2
theorem psn_for {tg iter : Expr} {body : List Stmt} {wi : TI} {g : TG} {tb : TS} {pos : Pos} (hp : PassesOwn (model X.prog X.w) X.A X.env X.xe) (hc : X.calm = true) (hi : PI X tg iter wi) (hg : PG X tg g) (hb : PSsn n X body tb)
    (hs : ∀ x, foldedSetIterable iter X.env x = pure x := by intro _; rfl) : PSn n X (.For tg iter body [] pos) (tFor wi g tb) := by
  intro pins s σ H D hn I h
  refine wpAny_For (thnN hn (hi.run pins s σ H _ I h) fun v s1 hn1 h1 => thnN hn1 h1 fun itv s2 hn2 h2 => ?_) hs
  obtain ⟨it, fp, tn, J, H2, rfl, I2, T, st2, f2, W, ⟨m0, w0⟩, turn⟩ := h2
  refine codeAny_forLoop_any (fun m s' => n ≤ s'.toks ∧ ∃ i σ' H', Inv X pins σ' H' s' ∧ tn i s'.heap ∧ (∀ b ∈ fp, H' b = none) ∧ W i m σ' H') ?_ m0 ⟨hn2, 0, σ, H2, I2, st2, fun b hb => (f2 b hb).1, w0⟩
  rintro m s3 ⟨hn3, i, σ3, H3, I3, st3, fr3, w3⟩
  have ok3 : ∀ {H' : Hp}, (∀ b ∈ fp, H' b = none) → ∀ b ∈ fp, FpOk X pins H' b := fun z b hb => ⟨z b hb, (f2 b hb).2⟩
  rcases turn i m σ3 H3 w3 with ⟨stop, qn⟩ | ⟨go, N, hN, step⟩
  · refine wpAny_passesOwn hp (thn (T.done X rfl rfl rfl hc i pins s3 σ3 H3 X.xe I3 (ok3 fr3) st3 stop) fun r s4 hr => ?_)
    obtain ⟨rfl, I4⟩ := hr
    exact wpAny_execs_nil ⟨σ3, H3, I4, qn⟩
  · refine wpAny_passesOwn hp (thnN hn3 (T.item X rfl rfl rfl hc i pins s3 σ3 H3 X.xe I3 (ok3 fr3) st3 go) fun r s4 hn4 hr => ?_)
    obtain ⟨u, rfl, h4⟩ := hr
    refine wpAny_passesOwn hp (thnN hn4 h4 fun _ s5 hn5 ⟨x, H5, I5, r5, y5, st5, fr5⟩ => ?_)
    have J5 := I5.pinned (ok3 fr5) (T.obj _ _ st5)
    refine wpAny_passesOwn hp (thnN hn5 (hg.run _ s5 σ3 H5 x u _ J5 r5 (step x H5 y5)) fun _ s6 hn6 ⟨σ6, H6, I6, q6⟩ => ?_)
    refine wpAny_passesOwn hp (thnN hn6 (hb _ s6 σ6 H6 _ hn6 I6 q6) fun f s7 hn7 q7 => ?_)
    have more : ∀ {σ7 : L2.St} {H7 : Hp}, Inv X (pins ++ pinsAt fp s5.heap) σ7 H7 s7 → N σ7 H7 → ∃ m', m' < m ∧ (n ≤ s7.toks ∧ ∃ i σ' H', Inv X pins σ' H' s7 ∧ tn i s7.heap ∧ (∀ b ∈ fp, H' b = none) ∧ W i m' σ' H') := fun {σ7 H7} I7 z => by
      obtain ⟨m', hm, w7⟩ := hN σ7 H7 z
      obtain ⟨t1, t2⟩ := turn_back T st5 I7
      exact ⟨m', hm, hn7, i + 1, σ7, H7, I7.unpinned, t1, t2, w7⟩
    cases f with
    | next => obtain ⟨σ7, H7, I7, z⟩ := q7; exact more I7 z
    | cont => obtain ⟨σ7, H7, I7, z⟩ := q7; exact more I7 z
    | brk => obtain ⟨σ7, H7, I7, z⟩ := q7; exact ⟨σ7, H7, I7.unpinned, z⟩
    | ret v => obtain ⟨x7, σ7, H7, I7, r7, z⟩ := q7; exact ⟨x7, σ7, H7, I7.unpinned, r7, z⟩
theorem ptn_not {a : Expr} {tA : TT} {pos : Pos} (ha : PTn n X a tA) : PTn n X (.UnaryOp .Not a pos) (tNot tA) := fun pins s σ H Q hn I h => isTrue_not (ha pins s σ H (fun c H1 => Q (!c) H1) hn I h)
/-- where nothing may be raised -/
theorem thnFN {α : Type} {t : Sem α} {Q Q' : α → Shared → Prop} {M : Model} {A : Around} {E : Value → Shared → Prop} {s : Shared} (hn : n ≤ s.toks) (h : wpAny M A t Q (fun _ _ => False) s) (hQ : ∀ a s', n ≤ s'.toks → Q a s' → Q' a s') : wpAny M A t Q' E s :=
  wpAny_mono (wpAny_toks_of hn h) (fun a s' z => hQ a s' z.1 z.2) fun _ _ z => False.elim z.2
end
section
variable {X : Cx} {n : Nat} {pins : List (Addr × Obj)} {σ : L2.St}
/-- the loop's own context -/
abbrev blkE (X : Cx) (scope : Scope) (s : Shared) : Env := compEnvC scope (cellsFrom (s.heap.objs.size + 1) scope.names (cloFrom X.env.cells scope.names [])) s.heap.objs.size X.env
/-- the iterator's own objects, within the block: as they were, not tracked -/
theorem blk_fp {B : Cx} {fp : List Addr} (hx : ∀ b ∈ fp, b ∈ B.ex) (hp : B.pn = []) {σ' : L2.St} {H' : Hp} {s' : Shared} (J : Inv B [] σ' H' s') (z : ∀ b ∈ fp, H' b = none) : ∀ b ∈ fp, FpOk B [] H' b := fun b hb =>
  ⟨z b hb, (J.ok.exf b (hx b hb)).1, J.ok.exfs b (hx b hb), .inl (hx b hb), fun x c e => (J.ok.exf b (hx b hb)).2 x c e, fun p hp' => by
    rw [hp] at hp'
    cases hp'⟩
/-- a turn's end: the loop's word again -/
theorem blk_turn {B : Cx} {tg : Expr} {J : It} {fp : List Addr} {it : Addr} {tn : Nat → Heap → Prop} {i : Nat} {h7 : Heap} {vs : List Nat} {σ8 : L2.St} {H' : Hp} {s' : Shared} (T : Turn B.prog B.w B.K tg J fp it tn) (st : tn i h7)
    (w8 : wipe σ8 vs = wipe σ vs) (I' : Inv B ([] ++ pinsAt fp h7) σ8 H' s') : Inv B [] (wipe σ vs) H' s' ∧ tn i s'.heap ∧ ∀ b ∈ fp, H' b = none := by
  obtain ⟨t1, t2⟩ := turn_back T st I'
  refine ⟨(I'.unpinned (pins := [])).weak (by rw [← w8, wipe_length]) fun j v e => ?_, t1, t2⟩
  rw [← w8] at e
  exact (wipe_some e).1
/-- what a comprehension with `tYes` reads of its loop -/
abbrev LcW (g : TG) (te : TE) (vs : List Nat) (σ : L2.St) (J : It) (D : Addr) (W : Nat → Nat → Hp → Prop) (Qd : Hp → Prop) : Prop := ∀ i m H, W i m H →
  (J.stop i H ∧ Qd H) ∨ (J.go i H ∧ ∃ Nx : Hp → Prop, (∀ H', Nx H' → ∃ m', m' < m ∧ W (i + 1) m' H') ∧ ∀ x H', J.yld i H x H' → g x (wipe σ vs) H' fun σ2 H2 => wipe σ2 vs = wipe σ vs ∧ tYes σ2 H2 fun b H3 =>
    if b = true then te σ2 H3 fun y H4 => ∃ acc, H4 D = some (.lst acc) ∧ acc.length < sizeLine ∧ Nx (upd H4 D (.lst (acc ++ [y]))) else Nx H3)
/-- the loop of the block, in the block's own context B -/
theorem lcn_loop {B : Cx} {elt tg iter : Expr} {scope : Scope} {pos : Pos} {g : TG} {te : TE} {vs : List Nat} {J : It} {fp : List Addr} {it D : Addr} {tn : Nat → Heap → Prop} {W : Nat → Nat → Hp → Prop} {Qd : Hp → Prop} {R : Result → Shared → Prop} {H : Hp} {s : Shared} {m0 : Nat}
    (hx : ∀ b ∈ fp, b ∈ B.ex) (hpn : B.pn = []) (hxe : B.xe = fun _ _ => False) (hc : B.calm = true) (T : Turn B.prog B.w B.K tg J fp it tn) (pg : PG B tg g) (pe : PEn n B elt te) (turn : LcW g te vs σ J D W Qd)
    (fin : ∀ H' s', Inv B [] (wipe σ vs) H' s' → Qd H' → R (.ok .next) s') (hn : n ≤ s.toks) (I : Inv B [] (wipe σ vs) H s) (st : tn 0 s.heap) (hf : ∀ b ∈ fp, H b = none) (w0 : W 0 m0 H) :
    codeAny (model B.prog B.w) B.A (.compLoop (.ListComp elt [⟨tg, iter, [], 0⟩] scope pos) 0 (.ref it) (.ref D) B.env) R s := by
  refine compLoop_any (fun m t => n ≤ t.toks ∧ ∃ i H', Inv B [] (wipe σ vs) H' t ∧ tn i t.heap ∧ (∀ b ∈ fp, H' b = none) ∧ W i m H') ?_ m0 ⟨hn, 0, H, I, st, hf, w0⟩
  rintro m t ⟨hm, i, H1, I1, st1, f1, w1⟩
  rcases turn i m H1 w1 with ⟨stop, qd⟩ | ⟨go, Nx, hNx, step⟩
  · refine thnFN hm (T.done B rfl rfl rfl hc i [] t _ H1 (fun _ _ => False) I1 (blk_fp hx hpn I1 f1) st1 stop) fun r t2 _ ⟨e, I2⟩ => ?_
    rw [e]
    exact fin H1 t2 I2 qd
  · refine thnFN hm (T.item B rfl rfl rfl hc i [] t _ H1 (fun _ _ => False) I1 (blk_fp hx hpn I1 f1) st1 go) fun r t2 hm2 ⟨u, e, more⟩ => ?_
    rw [e]
    refine thnFN hm2 more fun _ t3 hm3 ⟨x, H3, I3, rx, y3, st3, f3⟩ => ?_
    have pinned := I3.pinned (blk_fp hx hpn I3 f3) (T.obj _ _ st3)
    have h4 := pg.run _ t3 _ H3 x u _ pinned rx (step x H3 y3)
    rw [hxe] at h4
    refine thnFN hm3 h4 fun _ t4 hm4 ⟨σ4, H4, I4, w4, q4⟩ => ?_
    refine wpAny_tests_nil ?_
    have h5 := pe _ t4 σ4 H4 _ hm4 I4 (show te σ4 H4 _ from q4)
    rw [hxe] at h5
    show if true = true then _ else _
    rw [if_pos rfl]
    refine thnFN hm4 h5 fun z t5 hm5 ⟨yv, H5, I5, r5, acc, hD, hz, nx⟩ => ?_
    refine thnFN hm5 (app_ok (X := B) (E := fun _ _ => False) (Q := fun _ t6 => ∃ H6, Inv B _ σ4 H6 t6 ∧ Nx H6) I5 hD hz r5 fun t6 I6 => ⟨_, I6, nx⟩) fun _ t6 hm6 ⟨H6, I6, nx6⟩ => ?_
    obtain ⟨m', lt, w6⟩ := hNx H6 nx6
    obtain ⟨k1, k2, k3⟩ := blk_turn T st3 w4 I6
    exact ⟨m', lt, hm6, i + 1, H6, k1, k2, k3, w6⟩
theorem lcn_core {s : Shared} {H : Hp} {Q : VK} {elt tg iter : Expr} {scope : Scope} {own : List (Str × Nat)} {pos pos' : Pos} {wi : TI} {g : TG} {te : TE} {use : Option (Value → Sem Unit)} {Qf : Value → Shared → Prop}
    (hc : X.calm = true) (hN : X.N.Nodup) (hn : n ≤ s.toks) (I : Inv X pins σ H s) (hi : PI X tg iter wi) (ok : BlkOk X.N X.env.scope scope own)
    (hg : ∀ (s : Shared) (H : Hp) (C : Addr) (cl : List (Str × Addr)) (fp : List Addr), PG (X.blk s H scope (compEnvC scope cl C X.env) fp) tg g)
    (he : ∀ (s : Shared) (H : Hp) (C : Addr) (cl : List (Str × Addr)) (fp : List Addr), PEn n (X.blk s H scope (compEnvC scope cl C X.env) fp) elt te) (hs : ∀ x, foldedSetIterable iter X.env x = pure x)
    (h : tLc wi g tYes te (own.map (·.2)) σ H Q)
    (hRR : ∀ D C s' m H', Inv X pins σ H' s' → Q (.ref D) H' → s'.heap.Ns C m → FpOk X pins H' C → compPost (model X.prog X.w) X.A X.xe use Qf (.ref D) C (.ok .next) s') :
    wpAny (model X.prog X.w) X.A (comprehension (.ListComp elt [⟨tg, iter, [], 0⟩] scope pos) scope X.env pos' (newList []) false (eval iter X.env) use) Qf X.xe s := by
  have known : ∀ y ∈ scope.names, y.2 = .free → ∃ c, X.env.cells.lookup y.1 = some c := fun y hy e => (ok.free y hy e).elim (fun k => I.ok.has _ (.inl k)) fun k => I.ok.has _ (.inr k)
  refine wpAny_comprehension_free (use := use) rfl hs (closure_ok known) ok.kind (fun y hy e => by rw [ok.uniq y hy, e]) ?_
  refine thnN hn (hi.run pins s σ H _ I h) fun xv s1 hn1 hx => thnN hn1 hx fun itv s2 hn2 h2 => ?_
  obtain ⟨it, fp, tn, J, H2, rfl, I2, T, st2, f2, q⟩ := h2
  refine wpAny_newObj_type (newEnv_comp ?_) (by show 0 ≤ sizeLine; decide)
  have free2 : H2 s2.heap.objs.size = none := I2.hok.fresh (Nat.le_refl _)
  have below : ∀ b ∈ fp, b < s2.heap.objs.size := fun b hb => by
    obtain ⟨o, e, _⟩ := T.obj _ _ st2 b hb
    exact Heap.lt_size e
  have laid3 : Inv X pins σ (upd H2 s2.heap.objs.size (.lst [])) { s2 with heap := s2.heap.push { cls := .type "list", data := .seq ([] : List Value).toArray } } :=
    I2.laid (t' := s2.toks) (fun b o e => Heap.get?_push_of_some _ e) (Nat.le_refl _) ⟨Nat.zero_le _, [], 0, .nil, Heap.get?_push_size _ rfl⟩
  have st3 : tn 0 (s2.heap.push { cls := .type "list", data := .seq ([] : List Value).toArray }) := T.keep _ _ _ st2 fun b _ o e => Heap.get?_push_of_some _ e
  obtain ⟨W, ⟨m0, w0⟩, turn⟩ := q _ free2
  generalize hD : s2.heap.objs.size = D at free2 below laid3 turn w0 ⊢
  generalize hH3 : upd H2 D (.lst []) = H3 at laid3 w0
  have f3 : ∀ b ∈ fp, FpOk X pins H3 b ∧ b < ({ s2 with heap := s2.heap.push { cls := .type "list", data := .seq ([] : List Value).toArray } } : Shared).heap.objs.size := fun b hb => by
    have lt := below b hb
    refine ⟨⟨?_, (f2 b hb).2⟩, ?_⟩
    · rw [← hH3, upd_ne (Nat.ne_of_lt lt)]
      exact (f2 b hb).1
    · show b < (s2.heap.push _).objs.size
      rw [Heap.size_push, hD]
      exact Nat.lt_succ_of_lt lt
  generalize hs3 : ({ s2 with heap := s2.heap.push { cls := .type "list", data := .seq ([] : List Value).toArray } } : Shared) = s3 at laid3 f3
  have h3 : s2.heap.push { cls := .type "list", data := .seq ([] : List Value).toArray } = s3.heap := by rw [← hs3]
  have hn3 : n ≤ s3.toks := by rw [← hs3]; exact hn2
  rw [h3] at st3
  have I4 := block_start laid3 ok hN f3
  have st4 : tn 0 (pushCells (s3.heap.push { cls := .type "dict", data := .dict #[] }) scope.names) := T.keep _ _ _ st3 fun b _ o e => pushCells_keeps _ _ _ _ (Heap.get?_push_of_some _ e)
  show codeAny _ _ (.compStart (.ListComp elt [⟨tg, iter, [], 0⟩] scope pos) 0 (.ref it) (.ref D) (blkE X scope s3)) (compPost (model X.prog X.w) X.A X.xe use Qf (.ref D) s3.heap.objs.size) { s3 with heap := pushCells (s3.heap.push { cls := .type "dict", data := .dict #[] }) scope.names }
  have loop : codeAny (model X.prog X.w) X.A (.compLoop (.ListComp elt [⟨tg, iter, [], 0⟩] scope pos) 0 (.ref it) (.ref D) (blkE X scope s3)) (compPost (model X.prog X.w) X.A X.xe use Qf (.ref D) s3.heap.objs.size) { s3 with heap := pushCells (s3.heap.push { cls := .type "dict", data := .dict #[] }) scope.names } := by
    refine lcn_loop (B := X.blk s3 H3 scope (blkE X scope s3) fp) (n := n) (J := J) (Qd := Q (.ref D)) (W := W) (vs := own.map (·.2)) (σ := σ) (fun b hb => hb) rfl rfl hc T (hg _ _ _ _ _) (he _ _ _ _ _) turn ?_ hn3 I4 st4 (fun b hb => (f3 b hb).1.1) w0
    intro H' s' J' qd
    have back : Inv X pins σ H' s' := laid3.call' (ch := fp) J'.os J'.base J'.hok J'.bare fun b hb => ⟨(f3 b hb).1.2.2.2.1, (f3 b hb).1.2.1, (f3 b hb).1.2.2.2.2.1, (f3 b hb).1.2.2.2.2.2⟩
    obtain ⟨m, hm, _⟩ := J'.loc
    exact hRR D s3.heap.objs.size s' m H' back qd hm (laid3.fpOk (Nat.le_refl _) J'.free)
  exact codeAny_compStart_list loop (T.self X.A 0 _ _ _ st4 loop)
/-- [e for x in xs], e wants n tokens out -/
theorem pen_lc {elt tg iter : Expr} {scope : Scope} {own : List (Str × Nat)} {pos : Pos} {wi : TI} {g : TG} {te : TE} (hc : X.calm = true) (hN : X.N.Nodup) (hi : PI X tg iter wi) (ok : BlkOk X.N X.env.scope scope own)
    (hg : ∀ (s : Shared) (H : Hp) (C : Addr) (cl : List (Str × Addr)) (fp : List Addr), PG (X.blk s H scope (compEnvC scope cl C X.env) fp) tg g)
    (he : ∀ (s : Shared) (H : Hp) (C : Addr) (cl : List (Str × Addr)) (fp : List Addr), PEn n (X.blk s H scope (compEnvC scope cl C X.env) fp) elt te) (hs : ∀ x, foldedSetIterable iter X.env x = pure x := by intro _; rfl) :
    PEn n X (.ListComp elt [⟨tg, iter, [], 0⟩] scope pos) (tLc wi g tYes te (own.map (·.2))) := by
  intro pins s σ H Q hn I h
  rw [eval_ListComp]
  refine lcn_core hc hN hn I hi ok hg he hs h fun D C s' m H' I' q hns f => ⟨m, hns, fun h2 sb => ?_⟩
  obtain ⟨a0, a1, _, a3, a4, a5⟩ := f
  exact ⟨.ref D, H', I'.turned (t' := s'.toks) (fun b o hb e => (sb.2 b hb).trans e) a0 a1 a3 a4 a5, rfl, q⟩
/-- y = [e for x in xs] on one line, y a local -/
theorem psn_setLc {i : Nat} {y : Str} {py : Pos} {elt tg iter : Expr} {scope : Scope} {own : List (Str × Nat)} {pos spos : Pos} {wi : TI} {g : TG} {te : TE} (hc : X.calm = true) (hN : X.N.Nodup) (hy : X.N[i]? = some y) (hyl : X.env.scope.names.lookup y = some .local)
    (hsw : swapsWith (.ListComp elt [⟨tg, iter, [], 0⟩] scope pos) (some (.Name y py)) spos.line X.env = pure true) (hi : PI X tg iter wi) (ok : BlkOk X.N X.env.scope scope own)
    (hg : ∀ (s : Shared) (H : Hp) (C : Addr) (cl : List (Str × Addr)) (fp : List Addr), PG (X.blk s H scope (compEnvC scope cl C X.env) fp) tg g)
    (he : ∀ (s : Shared) (H : Hp) (C : Addr) (cl : List (Str × Addr)) (fp : List Addr), PEn n (X.blk s H scope (compEnvC scope cl C X.env) fp) elt te) (hs : ∀ x, foldedSetIterable iter X.env x = pure x := by intro _; rfl) :
    PSn n X (.Assign [.Name y py] (.ListComp elt [⟨tg, iter, [], 0⟩] scope pos) spos) (tAsg (tLc wi g tYes te (own.map (·.2))) (gName i)) := by
  intro pins s σ H D hn I h
  rw [exec_Assign_Name_used _ _ _ _ hsw]
  refine wpAny_bind (wpAny_standAt (wpAny_bind ?_))
  show wpAny _ X.A (do let _ ← comprehension (.ListComp elt [⟨tg, iter, [], 0⟩] scope pos) scope X.env (firstIterPos [⟨tg, iter, [], 0⟩] pos) (newList []) false (eval iter X.env) (some (assign (.Name y py) X.env))) _ _ s
  have h' : tLc wi g tYes te (own.map (·.2)) σ H (fun x H1 => gName i x σ H1 D.nx) := h
  refine wpAny_bind (thn (lcn_core (Qf := fun _ s' => SP X pins D .next s') hc hN hn I hi ok hg he hs h' fun L C s' m H' I' q hns f => ?_) fun _ s' hq => wpAny_pure (wpAny_pure hq))
  show wpAny _ _ (assign (.Name y py) X.env (.ref L)) _ _ _
  refine wpAny_assign_Name (store_ok2 (v := V.ref L) I' hN hy (.inl hyl) rfl (fun s2 I2 ⟨a, sb, ha⟩ => ?_) (.inr hyl))
  obtain ⟨a0, a1, _, a3, a4, a5⟩ := f
  have haC : C ≠ a := ha.elim (fun z => by rw [z]; exact a1) fun z e => a4 y a z e.symm
  exact ⟨m, hns.sameBut sb haC, fun h3 sb3 => ⟨_, H', I2.turned (t' := s2.toks) (fun b o hb e => (sb3.2 b hb).trans e) a0 a1 a3 a4 a5, q⟩⟩
end
end TH
end
section
set_option maxHeartbeats 4000000
set_option linter.all false
namespace TM
/-- is it a tilt along rows -/
def isH (c : Nat) : Bool := c == 108 || c == 114
end TM
end
section
set_option maxHeartbeats 4000000
set_option linter.all false
namespace TM
def mb (l : List Nat) : List Nat := l.filter fun c => c != 46
def dots (n : Nat) : List Nat := List.replicate n 46
def sl (s : Bool) (l : List Nat) : List Nat := if s then mb l ++ dots (l.length - (mb l).length) else dots (l.length - (mb l).length) ++ mb l
theorem mb_le (l : List Nat) : (mb l).length ≤ l.length := List.length_filter_le _ _
theorem mb_dots (n : Nat) : mb (dots n) = [] := by
  unfold mb dots
  rw [List.filter_eq_nil_iff]
  intro a ha
  rw [(List.mem_replicate.mp ha).2]
  decide
theorem mb_app (a b : List Nat) : mb (a ++ b) = mb a ++ mb b := List.filter_append ..
theorem mb_mb (l : List Nat) : mb (mb l) = mb l := by unfold mb; rw [List.filter_filter]; simp
theorem sl_len (s : Bool) (l : List Nat) : (sl s l).length = l.length := by
  have := mb_le l
  cases s <;> simp [sl, dots] <;> omega
theorem mb_sl (s : Bool) (l : List Nat) : mb (sl s l) = mb l := by
  cases s <;> simp [sl, mb_app, mb_dots, mb_mb]
theorem sl_sl (s s' : Bool) (l : List Nat) : sl s (sl s' l) = sl s l := by
  have h := sl_len s' l
  have h2 := mb_sl s' l
  unfold sl at h h2 ⊢
  rw [h, h2]
/-- where a slid line is empty -/
theorem sl_at (s : Bool) (l : List Nat) (j : Nat) (hj : j < l.length) : ((sl s l).getD j 46 = 46) ↔ (if s then (mb l).length ≤ j else j < l.length - (mb l).length) := by
  have hm : ∀ c ∈ mb l, c ≠ 46 := fun c hc => by
    have := (List.mem_filter.mp hc).2
    simpa using this
  have hle := mb_le l
  rw [List.getD_eq_getElem?_getD]
  cases s with
  | true =>
    simp only [sl, if_true]
    by_cases h : j < (mb l).length
    · rw [List.getElem?_append_left h, List.getElem?_eq_getElem h]
      have := hm _ (List.getElem_mem h)
      constructor
      · intro e
        exact absurd e this
      · intro e
        omega
    · rw [List.getElem?_append_right (by omega)]
      unfold dots
      rw [List.getElem?_replicate]
      constructor
      · intro _
        omega
      · intro _
        split <;> rfl
  | false =>
    simp only [sl, Bool.false_eq_true, if_false]
    by_cases h : j < l.length - (mb l).length
    · rw [List.getElem?_append_left (by simp [dots]; omega)]
      unfold dots
      rw [List.getElem?_replicate, if_pos h]
      exact ⟨fun _ => h, fun _ => rfl⟩
    · have hk : j - (l.length - (mb l).length) < (mb l).length := by omega
      rw [List.getElem?_append_right (by simp [dots]; omega)]
      have e : (dots (l.length - (mb l).length)).length = l.length - (mb l).length := by simp [dots]
      rw [e, List.getElem?_eq_getElem hk]
      have := hm _ (List.getElem_mem hk)
      exact ⟨fun q => absurd q this, fun q => absurd q h⟩
/-- pushed to one end -/
def Ju (s : Bool) (l : List Nat) : Prop := ∀ j, j + 1 < l.length → if s then l.getD j 46 = 46 → l.getD (j + 1) 46 = 46 else l.getD (j + 1) 46 = 46 → l.getD j 46 = 46
theorem all_dots : ∀ {l : List Nat}, (∀ j, j + 1 < l.length → l.getD j 46 = 46 → l.getD (j + 1) 46 = 46) → l.getD 0 46 = 46 → l = dots l.length
  | [], _, _ => rfl
  | [a], _, h0 => by
    have : a = 46 := h0
    subst this
    rfl
  | a :: b :: r, h, h0 => by
    have ha : a = 46 := h0
    have hb : b = 46 := h 0 (by simp) h0
    have z := all_dots (l := b :: r) (fun j hj q => h (j + 1) (by simp at hj ⊢; omega) q) hb
    subst ha
    rw [z]
    simp [dots, List.replicate_succ]
theorem ju_left : ∀ {l : List Nat}, Ju true l → sl true l = l
  | [], _ => rfl
  | a :: r, h => by
    have h' : ∀ j, j + 1 < (a :: r).length → (a :: r).getD j 46 = 46 → (a :: r).getD (j + 1) 46 = 46 := fun j hj => by simpa using h j hj
    by_cases e : a = 46
    · have z := all_dots h' (show a = 46 from e)
      rw [z]
      simp only [sl, if_true, mb_dots]
      simp [dots]
    · have z := ju_left (l := r) fun j hj => by
        have q := h' (j + 1) (by simp at hj ⊢; omega)
        simpa using q
      simp only [sl, if_true] at z ⊢
      have em : mb (a :: r) = a :: mb r := by simp [mb, List.filter_cons, e]
      have el : (a :: r).length - (mb (a :: r)).length = r.length - (mb r).length := by rw [em]; simp
      rw [el, em, List.cons_append, z]
theorem ju_rev {l : List Nat} (h : Ju false l) : Ju true l.reverse := fun j hj => by
  have hj' : j + 1 < l.length := by simpa using hj
  have z := h (l.length - 1 - (j + 1)) (by omega)
  simp only [if_true]
  simp only [Bool.false_eq_true, if_false] at z
  have e : l.length - 1 - (j + 1) + 1 = l.length - 1 - j := by omega
  rw [e] at z
  rw [List.getD_eq_getElem?_getD, List.getElem?_reverse (by omega), List.getD_eq_getElem?_getD, List.getElem?_reverse (by omega)]
  rw [List.getD_eq_getElem?_getD, List.getD_eq_getElem?_getD] at z
  exact z
theorem sl_rev (l : List Nat) : sl false l = (sl true l.reverse).reverse := by
  have e : mb l.reverse = (mb l).reverse := by unfold mb; rw [List.filter_reverse]
  simp [sl, e, dots]
theorem ju_sl {s : Bool} {l : List Nat} (h : Ju s l) : sl s l = l := by
  cases s with
  | true => exact ju_left h
  | false => rw [sl_rev, ju_left (ju_rev h), List.reverse_reverse]
theorem sl_ju (s : Bool) (l : List Nat) : Ju s (sl s l) := fun j hj => by
  rw [sl_len] at hj
  have h1 := sl_at s l j (by omega)
  have h2 := sl_at s l (j + 1) hj
  cases s with
  | true =>
    simp only [if_true] at h1 h2 ⊢
    rw [h1, h2]
    omega
  | false =>
    simp only [Bool.false_eq_true, if_false] at h1 h2 ⊢
    rw [h1, h2]
    omega
abbrev Grid := List (List Nat)
def tr (m : Nat) (g : Grid) : Grid := (List.range m).map fun j => g.map fun r => r.getD j 46
def Rect (n m : Nat) (g : Grid) : Prop := g.length = n ∧ ∀ r ∈ g, r.length = m
theorem tr_rect {n m : Nat} {g : Grid} (h : Rect n m g) : Rect m n (tr m g) := by
  refine ⟨by simp [tr], fun r hr => ?_⟩
  obtain ⟨j, _, rfl⟩ := List.mem_map.mp hr
  simp [h.1]
theorem tr_get {m j : Nat} {g : Grid} (hj : j < m) : (tr m g)[j]? = some (g.map fun r => r.getD j 46) := by
  unfold tr
  rw [List.getElem?_map, List.getElem?_range hj]
  rfl
theorem tr_tr {n m : Nat} {g : Grid} (h : Rect n m g) : tr n (tr m g) = g := by
  refine List.ext_getElem? fun i => ?_
  by_cases hi : i < n
  · rw [tr_get hi]
    have hi' : i < g.length := by rw [h.1]; exact hi
    rw [List.getElem?_eq_getElem hi']
    congr 1
    have hl : g[i].length = m := h.2 _ (List.getElem_mem hi')
    refine List.ext_getElem? fun j => ?_
    rw [List.getElem?_map]
    by_cases hj : j < m
    · rw [tr_get hj]
      show some ((g.map fun r => r.getD j 46).getD i 46) = _
      rw [List.getD_eq_getElem?_getD, List.getElem?_map, List.getElem?_eq_getElem hi']
      show some (g[i].getD j 46) = _
      rw [List.getD_eq_getElem?_getD, List.getElem?_eq_getElem (by omega)]
      rfl
    · rw [List.getElem?_eq_none (by rw [(tr_rect h).1]; omega), List.getElem?_eq_none (by omega)]
      rfl
  · rw [List.getElem?_eq_none (by rw [(tr_rect (tr_rect h)).1]; omega), List.getElem?_eq_none (by rw [h.1]; omega)]
def LT (s : Bool) (g : Grid) : Grid := g.map (sl s)
def UT (s : Bool) (n m : Nat) (g : Grid) : Grid := tr n (LT s (tr m g))
theorem lt_rect {s : Bool} {n m : Nat} {g : Grid} (h : Rect n m g) : Rect n m (LT s g) := by
  refine ⟨by simp [LT, h.1], fun r hr => ?_⟩
  obtain ⟨q, hq, rfl⟩ := List.mem_map.mp hr
  rw [sl_len]
  exact h.2 q hq
theorem ut_rect {s : Bool} {n m : Nat} {g : Grid} (h : Rect n m g) : Rect n m (UT s n m g) := tr_rect (lt_rect (tr_rect h))
theorem lt_lt (a b : Bool) (g : Grid) : LT b (LT a g) = LT b g := by
  unfold LT
  rw [List.map_map]
  refine List.map_congr_left fun r _ => ?_
  exact sl_sl b a r
theorem ut_ut {a b : Bool} {n m : Nat} {g : Grid} (h : Rect n m g) : UT b n m (UT a n m g) = UT b n m g := by
  unfold UT
  rw [tr_tr (lt_rect (tr_rect h)), lt_lt]
/-- the core: a tray pushed to one side stays pushed to it when it is tilted along the other axis -/
theorem lul {a o : Bool} {n m : Nat} {g : Grid} (h : Rect n m g) : LT a (UT o n m (LT a g)) = UT o n m (LT a g) := by
  have hy := lt_rect (s := a) h
  generalize ey : LT a g = y at hy
  have hju : ∀ r ∈ y, Ju a r := fun r hr => by
    rw [← ey] at hr
    obtain ⟨q, _, rfl⟩ := List.mem_map.mp hr
    exact sl_ju a q
  have hz := ut_rect (s := o) hy
  suffices H : ∀ r ∈ UT o n m y, Ju a r by
    unfold LT
    conv => rhs; rw [← List.map_id (UT o n m y)]
    exact List.map_congr_left fun r hr => ju_sl (H r hr)
  intro r hr
  obtain ⟨i, hi, rfl⟩ := List.mem_map.mp hr
  have hi' := List.mem_range.mp hi
  have cnt : ∀ j, j + 1 < m → if a then (mb (y.map fun r => r.getD (j + 1) 46)).length ≤ (mb (y.map fun r => r.getD j 46)).length else (mb (y.map fun r => r.getD j 46)).length ≤ (mb (y.map fun r => r.getD (j + 1) 46)).length := by
    intro j hj
    have key : ∀ (z : Grid), (∀ r ∈ z, r.length = m ∧ Ju a r) → if a then (mb (z.map fun r => r.getD (j + 1) 46)).length ≤ (mb (z.map fun r => r.getD j 46)).length else (mb (z.map fun r => r.getD j 46)).length ≤ (mb (z.map fun r => r.getD (j + 1) 46)).length := by
      intro z
      induction z with
      | nil => intro _; cases a <;> simp [mb]
      | cons r z ih =>
        intro hz
        have q1 := ih fun r' hr' => hz r' (List.mem_cons_of_mem _ hr')
        obtain ⟨hl, hJ⟩ := hz r (List.mem_cons_self ..)
        have hJ' := hJ j (by omega)
        cases a with
        | true =>
          simp only [if_true] at q1 hJ' ⊢
          simp only [mb, List.map_cons, List.filter_cons] at q1 ⊢
          by_cases e : r.getD j 46 = 46
          · rw [hJ' e, e]
            simpa using q1
          · by_cases e2 : r.getD (j + 1) 46 = 46
            · rw [e2]
              simp only [bne_self_eq_false, Bool.false_eq_true, if_false]
              rw [if_pos (by simpa using e)]
              simp only [List.length_cons]
              omega
            · rw [if_pos (by simpa using e2), if_pos (by simpa using e)]
              simp only [List.length_cons]
              omega
        | false =>
          simp only [Bool.false_eq_true, if_false] at q1 hJ' ⊢
          simp only [mb, List.map_cons, List.filter_cons] at q1 ⊢
          by_cases e : r.getD (j + 1) 46 = 46
          · rw [hJ' e, e]
            simpa using q1
          · by_cases e2 : r.getD j 46 = 46
            · rw [e2]
              simp only [bne_self_eq_false, Bool.false_eq_true, if_false]
              rw [if_pos (by simpa using e)]
              simp only [List.length_cons]
              omega
            · rw [if_pos (by simpa using e2), if_pos (by simpa using e)]
              simp only [List.length_cons]
              omega
    exact key y fun r hr => ⟨hy.2 r hr, hju r hr⟩
  have at_ : ∀ j, j < m → ((LT o (tr m y)).map fun r => r.getD i 46).getD j 46 = (sl o (y.map fun r => r.getD j 46)).getD i 46 := fun j hj => by
    rw [List.getD_eq_getElem?_getD, List.getElem?_map, LT, List.getElem?_map, tr_get hj]
    rfl
  intro j hj
  have hjm : j + 1 < m := by
    have : ((LT o (tr m y)).map fun r => r.getD i 46).length = m := by simp [LT, (tr_rect hy).1]
    omega
  rw [at_ j (by omega), at_ (j + 1) hjm]
  have s1 := sl_at o (y.map fun r => r.getD j 46) i (by simp [hy.1]; exact hi')
  have s2 := sl_at o (y.map fun r => r.getD (j + 1) 46) i (by simp [hy.1]; exact hi')
  have c := cnt j hjm
  have l1 : (y.map fun r => r.getD j 46).length = n := by simp [hy.1]
  have l2 : (y.map fun r => r.getD (j + 1) 46).length = n := by simp [hy.1]
  rw [l1] at s1
  rw [l2] at s2
  cases a <;> cases o <;> simp only [if_true, Bool.false_eq_true, if_false] at c s1 s2 ⊢ <;> rw [s1, s2] <;> omega
theorem ulu {a o : Bool} {n m : Nat} {g : Grid} (h : Rect n m g) : UT a n m (LT o (UT a n m g)) = LT o (UT a n m g) := by
  have z := lul (a := a) (o := o) (tr_rect h)
  have e1 : LT o (UT a n m g) = tr n (UT o m n (LT a (tr m g))) := by
    unfold UT
    rw [tr_tr (lt_rect (tr_rect (lt_rect (tr_rect h))))]
  have hr : Rect m n (UT o m n (LT a (tr m g))) := ut_rect (lt_rect (tr_rect h))
  rw [e1]
  show tr n (LT a (tr m (tr n (UT o m n (LT a (tr m g)))))) = _
  rw [tr_tr hr, z]
/-- a tilt -/
def tilt (n m : Nat) (g : Grid) (c : Nat) : Grid := if isH c then LT (c == 108) g else UT (c == 117) n m g
theorem tilt_rect {n m c : Nat} {g : Grid} (h : Rect n m g) : Rect n m (tilt n m g c) := by
  unfold tilt
  split
  · exact lt_rect h
  · exact ut_rect h
def tilts (n m : Nat) (t : List Nat) (g : Grid) : Grid := t.foldl (tilt n m) g
theorem tilts_rect {n m : Nat} : ∀ (t : List Nat) {g : Grid}, Rect n m g → Rect n m (tilts n m t g)
  | [], _, h => h
  | c :: t, g, h => tilts_rect t (tilt_rect (c := c) h)
theorem tilts_snoc {n m c : Nat} (t : List Nat) (g : Grid) : tilts n m (t ++ [c]) g = tilt n m (tilts n m t g) c := by simp [tilts]
end TM
end
section
set_option Elab.async false
set_option maxRecDepth 100000
set_option linter.all false
namespace TK
open PySem L2
def top (i : Nat) : Stmt := PySem.Challenge.pw_tiltheap_k18_whole_heaps_and_corners.main.body.getD i (.Pass ⟨0, 0, 0, 0⟩)
abbrev sIsNumber : Stmt := top 9
abbrev sCheckNumber : Stmt := top 11
abbrev sIsTilt : Stmt := top 18
abbrev sWordInit : Stmt := inClass (top 19) 1
abbrev sWordText : Stmt := inClass (top 19) 2
abbrev sWordCorner : Stmt := inClass (top 19) 3
abbrev sWordLen : Stmt := inClass (top 19) 6
abbrev sWordAdd : Stmt := inClass (top 19) 10
abbrev sFirstWrongIndex : Stmt := top 20
abbrev sLastAlong : Stmt := top 21
abbrev sTrayInit : Stmt := inClass (top 26) 0
abbrev sTrayOfText : Stmt := inClass (top 26) 1
abbrev sTrayRows : Stmt := inClass (top 26) 2
abbrev sTrayMarbles : Stmt := inClass (top 26) 3
abbrev sTrayHeight : Stmt := inClass (top 26) 4
abbrev sTrayWidth : Stmt := inClass (top 26) 5
abbrev sTrayRshift : Stmt := inClass (top 26) 9
abbrev sFirstWrongCell : Stmt := top 27
abbrev sIsRow : Stmt := top 28
abbrev sTilted : Stmt := top 29
abbrev sSlid : Stmt := top 30
abbrev sRowLengths : Stmt := top 32
abbrev sHeapLengths : Stmt := top 33
abbrev sTraysBehind : Stmt := top 37
abbrev sLawTaken : Stmt := top 39
abbrev sLawRows : Stmt := top 40
abbrev sLawText : Stmt := top 41
abbrev sLawTray : Stmt := top 42
abbrev sLawLies : Stmt := top 43
abbrev sLaw : Stmt := top 44
/-- a text by its signs; one sign -/
abbrev S (t : List Nat) : Str := ⟨t.toArray⟩
abbrev sg (c : Nat) : V := .str ⟨#[c]⟩
theorem S_len (t : List Nat) : (S t).length = t.length := SX.S_len t
theorem S_size (t : List Nat) : (S t).cps.size = t.length := by simp [S]
theorem S_at (t : List Nat) (i : Nat) : (S t).cps[i]? = t[i]? := by simp [S]
theorem S_list (t : List Nat) : (S t).cps.toList = t := by simp [S]
theorem S_of (z : Str) : z = S z.cps.toList := (SX.S_tl z).symm
theorem S_inj {a b : List Nat} (h : S a = S b) : a = b := SX.S_inj h
theorem join_S (a : List Nat) (ys : List (List Nat)) : Txt.join (S a) (ys.map S) = S (TL.joinL a ys) := SX.join_S a ys
theorem joinL_nil : ∀ l : List (List Nat), TL.joinL [] l = l.flatten
  | [] => rfl
  | [p] => by simp [TL.joinL]
  | p :: q :: r => by
    have := joinL_nil (q :: r)
    simp only [TL.joinL, List.nil_append, this, List.flatten_cons]
theorem flat_ones : ∀ l : List Nat, (l.map fun c => [c]).flatten = l
  | [] => rfl
  | c :: r => by simp [flat_ones r]
theorem join_signs (l : List Nat) : Txt.join (Str.ofString "") (l.map fun c => S [c]) = S l := by
  have e := join_S [] (l.map fun c => [c])
  rw [List.map_map, joinL_nil, flat_ones] at e
  exact e
theorem sum_ones (l : List Nat) : ((l.map fun c => S [c]).map (·.length)).sum = l.length := by
  induction l with
  | nil => rfl
  | cons c r ih =>
    rw [List.map_cons, List.map_cons, List.sum_cons, ih]
    show 1 + r.length = r.length + 1
    omega
theorem same_new {H : Hp} {l : Addr} {o : HO} (h : H l = none) : Same H (upd H l o) := fun b o' e => by
  rw [upd_ne (ne_of_none e h)]
  exact e
theorem _root_.L2.Same.tup {K : PySem.W.Frag} {H H' : Hp} {a : Addr} {xs : List V} (e : Same H H') (h : SqT K H a xs) : SqT K H' a xs := by
  rcases h with (h | ⟨o, h⟩) | h
  · exact .inl (.inl (e _ _ h))
  · exact .inl (.inr ⟨o, e _ _ h⟩)
  · exact .inr h
/-- a store at an address that was new -/
theorem same_put {H H1 : Hp} {l : Addr} {o : HO} (s : Same H H1) (h : H l = none) : Same H (upd H1 l o) := fun b o' e => by
  rw [upd_ne (ne_of_none e h)]
  exact s b o' e
end TK
end
section
set_option Elab.async false
set_option maxRecDepth 100000
set_option linter.all false
namespace TK
open PySem L2 TM
/-- what is written about words -/
structure TxtW (K : PySem.W.Frag) (mg : Str → Option Value) : Prop where
  len : mg "len" = none
  isi : mg "isinstance" = none
  str : mg "str" = none
  enum : mg "enumerate" = none
  AR : ∃ u, mg "ALONG_ROWS" = some u ∧ RelV (.str (S [108, 114])) u
  AC : ∃ u, mg "ALONG_COLUMNS" = some u ∧ RelV (.str (S [117, 100])) u
section
variable {P : Program} {w : World} {K : PySem.W.Frag} {mg : Str → Option Value} {base : Heap}
theorem dAR (c : Nat) : decide (c ∈ (S [108, 114]).cps.toList) = isH c := by
  rw [S_list]
  by_cases h : isH c = true
  · rw [h, decide_eq_true]
    simpa [isH] using h
  · rw [Bool.not_eq_true] at h
    rw [h, decide_eq_false]
    simpa [isH] using h
end
end TK
end
section
set_option Elab.async false
set_option maxRecDepth 100000
set_option linter.all false
namespace TK
open PySem L2 TM
/-- is it a tilt's letter -/
def isT (c : Nat) : Bool := decide (c ∈ [108, 114, 117, 100])
/-- a word's text: tilts, so many at most -/
def Good (t : List Nat) : Prop := t.length ≤ 60 ∧ ∀ c ∈ t, isT c = true
def WordAt (C : Addr) (H : Hp) (a : Addr) (t : List Nat) : Prop := ∃ dx, H a = some (.ins C dx [("_text", .str (S t))])
theorem WordAt.same {C a : Addr} {H H' : Hp} {t : List Nat} (h : WordAt C H a t) (s : Same H H') : WordAt C H' a t := by
  obtain ⟨dx, h⟩ := h
  exact ⟨dx, s _ _ h⟩
/-- the class Word as the top has made it -/
structure ClsW (K : PySem.W.Frag) (mg : Str → Option Value) (C : Addr) : Prop where
  cl : Cls K C
  nT : NoAttr K C "_text"
  mgC : mg "Word" = some (.ref C)
  mx : ∃ mc u, ClX.CRead K C mc ∧ ClX.CVal K C mc "MAX_TILTS" (.int 60) u
section
variable {P : Program} {w : World} {K : PySem.W.Frag} {mg : Str → Option Value} {base : Heap} {C fT : Addr} {fdT : FuncData}
theorem scIt : FnScope ["value"] ["value"] (defScope sIsTilt) := ⟨rfl, rfl, rfl, by decide +kernel, rfl, by decide +kernel, by decide +kernel⟩
def spIt : Sp := fun vs H Q _ => ∃ c : Nat, vs = [sg c] ∧ Q (.bl (isT c)) H
theorem ok_it {f : Addr} {fd : FuncData} (F : Fun K "is_tilt" "is_tilt" sIsTilt f fd) (T : TxtW K mg) : FnOk P w K mg base CX0 1 f fd ["value"] spIt := by
  refine F.ok scIt (fun vs H Q E h => ?_) (fun cdv A outer s H vs Q E hr h => ?_)
  · obtain ⟨t, rfl, _⟩ := h
    rfl
  · obtain ⟨c, rfl, k⟩ := h
    refine ⟨_, pss_one (ps_ret (pe_and (pe_callB call_isi (by rfl) T.isi (by decide +kernel) (pa_cons (pv 0) (pa_cons (pe_bltn (v := .ty "str") (by rfl) T.str (by decide +kernel) rfl) pa_nil)))
      (pe_and (pe_cmpR op_eq (pe_callB call_len_str (by rfl) T.len PySem.boot_len (pa_cons (pv 0) pa_nil)) pe_int (nomark _))
        (pe_one (pe_cmpR op_in_sign (pv 0) (pe_op op_add_str (C8.pe_gc rfl T.AR) (C8.pe_gc rfl T.AC)) (by rfl)))))), ?_⟩
    refine ⟨_, rfl, _, _, _, _, true, rfl, .ty _, .base (.str _), kit_ty (by decide +kernel), true, rfl, iteT ?_⟩
    refine ⟨_, rfl, _, rfl, by show 1 ≤ sizeLine; decide, rfl, true, rfl, iteT ?_⟩
    refine ⟨_, rfl, _, _, rfl, rfl, by show 4 ≤ sizeLine; decide, c, _, rfl, rfl, ?_⟩
    exact k
theorem scFwi : FnScope ["text", "index", "letter"] ["text"] (defScope sFirstWrongIndex) := ⟨rfl, rfl, rfl, by decide +kernel, rfl, by decide +kernel, by decide +kernel⟩
def spFwi : Sp := fun vs H Q _ => ∃ t : List Nat, vs = [.str (S t)] ∧ Good t ∧ ∀ H', Same H H' → Q .non H'
theorem ok_fwi {f : Addr} {fd : FuncData} (F : Fun K "_first_wrong_index" "_first_wrong_index" sFirstWrongIndex f fd) (T : TxtW K mg) (CW : ClsW K mg C) (FT : Fun K "is_tilt" "is_tilt" sIsTilt fT fdT) (bT : Binds K fdT ["value"] []) (mT : mg "is_tilt" = some (.ref fT)) :
    FnOk P w K mg base CX0 2 f fd ["text"] spFwi := by
  have GT : FnOk P w K mg base CX0 1 fT fdT ["value"] spIt := ok_it FT T
  refine F.ok scFwi (fun vs H Q E h => ?_) (fun cdv A outer s H vs Q E hr h => ?_)
  · obtain ⟨t, rfl, _⟩ := h
    rfl
  · obtain ⟨t, rfl, ⟨hl, hg⟩, k⟩ := h
    refine ⟨_, pss_cons (ps_if (pt_not (pt_val (pe_callB call_isi (by rfl) T.isi (by decide +kernel) (pa_cons (pv 0) (pa_cons (pe_bltn (v := .ty "str") (by rfl) T.str (by decide +kernel) rfl) pa_nil))))) pss_never pss_nil)
      (pss_cons (ps_for PassesOwn.never rfl (TH.pi_enumS (by rfl) T.enum (pa_cons (pv 0) pa_nil)) (pg_tup rfl (pgs_cons (pg_name (i := 1) scFwi.nd rfl (.inl rfl)) (pgs_cons (pg_name (i := 2) scFwi.nd rfl (.inl rfl)) pgs_nil)))
        (pss_one (ps_if (PW.pt (pw_or (pt_cmpR op_ge (pv 1) (ClX.pe_cval (pe_glob (v := .ref C) rfl CW.mgC rfl)) (nomark _)) (pw_or1 (pt_not (pt_val (pe_call GT hr rfl mT FT.kp bT .nil pass0 (pa_cons (pv 2) pa_nil))))))) pss_never pss_nil)))
      (pss_one (ps_ret pe_non))), ?_⟩
    refine ⟨_, rfl, _, _, _, _, true, rfl, .ty _, .base (.str _), kit_ty (by decide +kernel), true, rfl, iteF ?_⟩
    refine ⟨_, rfl, _, rfl, for_it TH.walk_enumS (fun i σ H1 => ∃ v1 v2, σ = [some (.str (S t)), v1, v2] ∧ Same H H1) ⟨none, none, rfl, Same.refl H⟩ (fun _ _ _ _ _ => True.intro) ?_ ?_⟩
    · rintro i x σ H1 H2 hi ⟨v1, v2, rfl, sm⟩ ⟨p, c, rfl, hn, rfl, hc⟩
      rw [S_at] at hc
      have hit : i < t.length := (List.getElem?_eq_some_iff.mp hc).1
      have hcm : isT c = true := hg c (List.mem_of_getElem? hc)
      refine ⟨p, _, rfl, SqT.of upd_same, rfl, ?_⟩
      obtain ⟨mc, u, cr, cv⟩ := CW.mx
      refine ⟨_, _, rfl, _, _, rfl, rfl, _, rfl, C, mc, _, u, rfl, cr, cv, _, _, rfl, rfl, _, rfl, ?_⟩
      have e1 : decide ((i : Int) ≥ (60 : Int)) = false := decide_eq_false (by omega)
      rw [e1]
      refine iteF ⟨_, rfl, c, rfl, true, by rw [hcm], iteF ⟨_, _, rfl, sm.trans (same_new hn)⟩⟩
    · rintro σ H1 ⟨v1, v2, rfl, sm⟩
      exact k _ sm
theorem scWi : FnScope ["self", "text", "wrong"] ["self", "text"] (defScope sWordInit) := ⟨rfl, rfl, rfl, by decide +kernel, rfl, by decide +kernel, by decide +kernel⟩
def spWi (C : Addr) : Sp := fun vs H Q _ => ∃ (p dx : Addr) (t : List Nat), vs = [.ref p, .str (S t)] ∧ H p = some (.ins C dx []) ∧ Good t ∧ ∀ H', WordAt C H' p t → (∀ b o, H b = some o → b ≠ p → H' b = some o) → Q .non H'
theorem ok_wi {f fW : Addr} {fd fdW : FuncData} (F : Fun K "__init__" "Word.__init__" sWordInit f fd) (CW : ClsW K mg C) (GW : FnOk P w K mg base CX0 2 fW fdW ["text"] spFwi) (kW : PySem.W.keepIn K (.ref fW) = true) (bW : Binds K fdW ["text"] []) (mW : mg "_first_wrong_index" = some (.ref fW)) :
    FnOk P w K mg base CX0 3 f fd ["self", "text"] (spWi C) := by
  refine F.ok scWi (fun vs H Q E h => ?_) (fun cdv A outer s H vs Q E hr h => ?_)
  · obtain ⟨p, dx, t, rfl, _⟩ := h
    rfl
  · obtain ⟨p, dx, t, rfl, hp, hg, k⟩ := h
    refine ⟨_, pss_cons (ps_set (i := 2) scWi.nd rfl (.inl rfl) (pe_call GW hr rfl mW kW bW .nil pass0 (pa_cons (pv 1) pa_nil)))
      (pss_cons (ps_if (pt_cmpR op_notN (pv 2) pe_non (nomark _)) pss_never pss_nil)
      (pss_one (ps_fld (pv 0) (pv 1) rfl))), ?_⟩
    refine ⟨_, rfl, t, rfl, hg, fun H1 sm => ?_⟩
    refine ⟨_, rfl, rfl, _, rfl, iteF ?_⟩
    refine ⟨_, rfl, _, rfl, p, C, dx, [], rfl, sm _ _ hp, CW.cl, CW.nT, (by show 0 < 1000; decide), ?_⟩
    exact k _ ⟨dx, upd_same⟩ fun b o e hb => by rw [upd_ne hb]; exact sm _ _ e
end
end TK
end
section
set_option Elab.async false
set_option maxRecDepth 100000
set_option linter.all false
namespace TK
open PySem L2 TM
def letters : List Nat := [97, 98, 99, 100, 101, 102, 103, 104, 105, 106, 107, 108, 109, 110, 111, 112, 113, 114, 115, 116, 117, 118, 119, 120, 121, 122]
/-- a cell's sign: empty or a marble -/
def Cell (c : Nat) : Prop := c = 46 ∨ (97 ≤ c ∧ c ≤ 122)
theorem cell_in {c : Nat} (h : Cell c) : c ∈ [46] ++ letters := by
  unfold Cell at h
  simp only [letters, List.mem_append, List.mem_cons, List.not_mem_nil, or_false]
  omega
/-- rows that make a tray -/
structure VG (n m : Nat) (g : Grid) : Prop where
  rc : Rect n m g
  n1 : 1 ≤ n
  n8 : n ≤ 8
  m1 : 1 ≤ m
  m8 : m ≤ 8
  ok : ∀ r ∈ g, ∀ c ∈ r, Cell c
  nd : (mb g.flatten).Nodup
abbrev rowV (g : Grid) : List V := g.map fun r => V.str (S r)
theorem fresh {a b : List Nat} {c : Nat} (h : (mb (a ++ c :: b)).Nodup) : c ∉ mb a := fun hc => by
  have h46 : (c != 46) = true := (List.mem_filter.mp hc).2
  have e : mb (c :: b) = c :: mb b := by
    unfold mb
    rw [List.filter_cons, if_pos h46]
  rw [mb_app, e] at h
  exact (List.nodup_append.mp h).2.2 c hc c List.mem_cons_self rfl
/-- what comes ahead of the cell in column j of row i -/
def ahead (g : Grid) (r : List Nat) (i j : Nat) : List Nat := (g.take i).flatten ++ r.take j
theorem ahead_step {g : Grid} {r : List Nat} {i j c : Nat} (hc : r[j]? = some c) : ahead g r i (j + 1) = ahead g r i j ++ [c] := by
  unfold ahead
  rw [List.take_add_one, hc, List.append_assoc]
  rfl
theorem ahead_row {g : Grid} {r : List Nat} {i : Nat} (hr : g[i]? = some r) : (g.take (i + 1)).flatten = ahead g r i r.length := by
  unfold ahead
  rw [List.take_add_one, hr, List.take_length]
  simp
theorem ahead_all {g : Grid} {r : List Nat} {i j c : Nat} (hr : g[i]? = some r) (hc : r[j]? = some c) : ∃ b, g.flatten = ahead g r i j ++ c :: b := by
  have hi := (List.getElem?_eq_some_iff.mp hr).1
  have hj := (List.getElem?_eq_some_iff.mp hc).1
  have e1 : g = g.take i ++ r :: g.drop (i + 1) := by
    have := (List.getElem?_eq_some_iff.mp hr).2
    rw [← this]
    simp
  have e2 : r = r.take j ++ c :: r.drop (j + 1) := by
    have := (List.getElem?_eq_some_iff.mp hc).2
    rw [← this]
    simp
  refine ⟨r.drop (j + 1) ++ (g.drop (i + 1)).flatten, ?_⟩
  unfold ahead
  conv => lhs; rw [e1, List.flatten_append, List.flatten_cons, e2]
  simp
theorem mb_step {a : List Nat} {c : Nat} (h : c ≠ 46) : mb (a ++ [c]) = mb a ++ [c] := by
  rw [mb_app]
  simp [mb, h]
theorem mb_dot {a : List Nat} : mb (a ++ [46]) = mb a := by
  rw [mb_app]
  simp [mb]
/-- what is written about trays; t0: the text EMPTY's own token -/
structure TxtT (K : PySem.W.Frag) (mg : Str → Option Value) (t0 : Tok) : Prop where
  EM : mg "EMPTY" = some (.str (S [46]) t0)
  LE : ∃ u, mg "LETTERS" = some u ∧ RelV (.str (S letters)) u
  MS : ∃ u, mg "MAX_SIDE" = some u ∧ RelV (.int 8) u
  set : mg "set" = none
  zip : mg "zip" = none
  tup : mg "tuple" = none
theorem TxtT.em {K : PySem.W.Frag} {mg : Str → Option Value} {t0 : Tok} (T : TxtT K mg t0) : ∃ u, mg "EMPTY" = some u ∧ RelV (.str (S [46])) u := ⟨_, T.EM, ⟨_, rfl⟩⟩
section
variable {P : Program} {w : World} {K : PySem.W.Frag} {mg : Str → Option Value} {base : Heap} {t0 : Tok} {fR : Addr} {fdR : FuncData}
theorem scIr : FnScope ["row"] ["row"] (defScope sIsRow) := ⟨rfl, rfl, rfl, by decide +kernel, rfl, by decide +kernel, by decide +kernel⟩
def spIr : Sp := fun vs H Q _ => ∃ r : List Nat, vs = [.str (S r)] ∧ 1 ≤ r.length ∧ r.length ≤ 8 ∧ Q (.bl true) H
theorem ok_ir {f : Addr} {fd : FuncData} (F : Fun K "_is_row" "_is_row" sIsRow f fd) (T : TxtW K mg) (U : TxtT K mg t0) : FnOk P w K mg base CX0 1 f fd ["row"] spIr := by
  refine F.ok scIr (fun vs H Q E h => ?_) (fun cdv A outer s H vs Q E hr h => ?_)
  · obtain ⟨t, rfl, _⟩ := h
    rfl
  · obtain ⟨r, rfl, h1, h8, k⟩ := h
    refine ⟨_, pss_one (ps_ret (pe_and (pe_callB call_isi (by rfl) T.isi (by decide +kernel) (pa_cons (pv 0) (pa_cons (pe_bltn (v := .ty "str") (by rfl) T.str (by decide +kernel) rfl) pa_nil)))
      (pe_one (pe_chain op_le op_le pe_int (pe_callB call_len_str (by rfl) T.len PySem.boot_len (pa_cons (pv 0) pa_nil)) (C8.pe_gc rfl U.MS))))), ?_⟩
    refine ⟨_, rfl, _, _, _, _, true, rfl, .ty _, .base (.str _), kit_ty (by decide +kernel), true, rfl, iteT ?_⟩
    have hs : (S r).length ≤ sizeLine := by
      rw [S_len]
      show _ ≤ 16777216
      omega
    refine ⟨_, rfl, _, rfl, hs, _, _, rfl, rfl, _, rfl, ?_⟩
    have e1 : decide ((1 : Int) ≤ ((S r).length : Int)) = true := decide_eq_true (by rw [S_len]; omega)
    have e2 : decide (((S r).length : Int) ≤ (8 : Int)) = true := decide_eq_true (by rw [S_len]; omega)
    rw [e1]
    refine iteT ⟨_, _, rfl, rfl, ?_⟩
    show Q (V.bl (decide (((S r).length : Int) ≤ (8 : Int)))) H
    rw [e2]
    exact k
/-- the marbles of l are in the set at p -/
def Seen (P : Program) (w : World) (H : Hp) (p : Addr) (l : List Nat) (k : Nat) : Prop := ∃ (Z : Key → Bool) (n : Nat), H p = some (SetK P w p Z n) ∧ n ≤ k ∧ ∀ c : Nat, Z (.inr (S [c])) = decide (c ∈ mb l)
theorem one_inj {c d : Nat} : (Sum.inr (S [c]) : Key) = .inr (S [d]) ↔ c = d := ⟨fun h => by
  have := S_inj (Sum.inr.inj h)
  simpa using this, fun h => by rw [h]⟩
theorem scFc : FnScope ["rows", "seen", "number", "row", "column", "cell"] ["rows"] (defScope sFirstWrongCell) := ⟨rfl, rfl, rfl, by decide +kernel, rfl, by decide +kernel, by decide +kernel⟩
def spFc (K : PySem.W.Frag) : Sp := fun vs H Q _ => ∃ (a : Addr) (n m : Nat) (g : Grid), vs = [.ref a] ∧ SqT K H a (rowV g) ∧ VG n m g ∧ ∀ H', Same H H' → Q .non H'
theorem ok_fc {f : Addr} {fd : FuncData} (F : Fun K "_first_wrong_cell" "_first_wrong_cell" sFirstWrongCell f fd) (T : TxtW K mg) (U : TxtT K mg t0) (FR : Fun K "_is_row" "_is_row" sIsRow fR fdR) (bR : Binds K fdR ["row"] []) (mR : mg "_is_row" = some (.ref fR)) :
    FnOk P w K mg base CX0 2 f fd ["rows"] (spFc K) := by
  have GR : FnOk P w K mg base CX0 1 fR fdR ["row"] spIr := ok_ir FR T U
  refine F.ok scFc (fun vs H Q E h => ?_) (fun cdv A outer s H vs Q E hr h => ?_)
  · obtain ⟨a, n, m, g, rfl, _⟩ := h
    rfl
  · obtain ⟨a, n, m, g, rfl, hS, G, k⟩ := h
    refine ⟨_, pss_cons (ps_if (pt_not (pt_truth (pv 0) (by intro _; rfl))) pss_never pss_nil)
      (pss_cons (ps_set (i := 1) scFc.nd rfl (.inl rfl) (pe_callTy0 cr_set0K (by rfl) U.set (by decide +kernel)))
      (pss_cons (ps_for PassesOwn.never rfl (TH.pi_enumT (by rfl) T.enum (pa_cons (pv 0) pa_nil)) (pg_tup rfl (pgs_cons (pg_name (i := 2) scFc.nd rfl (.inl rfl)) (pgs_cons (pg_name (i := 3) scFc.nd rfl (.inl rfl)) pgs_nil)))
        (pss_cons (ps_if (PW.pt (pw_or (pt_cmpR op_ge (pv 2) (C8.pe_gc rfl U.MS) (nomark _)) (pw_or (pt_not (pt_val (pe_call GR hr rfl mR FR.kp bR .nil pass0 (pa_cons (pv 3) pa_nil))))
            (pw_or1 (pt_cmpR op_ne (pe_callB call_len_str (by rfl) T.len PySem.boot_len (pa_cons (pv 3) pa_nil)) (pe_callB call_len_str (by rfl) T.len PySem.boot_len (pa_cons (pe_ix ix_tup (pv 0) pe_int (fun _ _ => rfl)) pa_nil)) (nomark _)))))) pss_never pss_nil)
        (pss_one (ps_for PassesOwn.never rfl (TH.pi_enumS (by rfl) T.enum (pa_cons (pv 3) pa_nil)) (pg_tup rfl (pgs_cons (pg_name (i := 4) scFc.nd rfl (.inl rfl)) (pgs_cons (pg_name (i := 5) scFc.nd rfl (.inl rfl)) pgs_nil)))
          (pss_cons (ps_if (PW.pt (pw_or (pt_cmpR or_sinK (pv 5) (pv 1) (by rfl)) (pw_or1 (pt_cmpR op_notIn_sign (pv 5) (pe_op op_add_str (C8.pe_gc rfl U.em) (C8.pe_gc rfl U.LE)) (by rfl))))) pss_never pss_nil)
          (pss_one (ps_if (pt_cmpR op_ne (pv 5) (C8.pe_gc rfl U.em) (nomark _)) (pss_one (ps_expr (pe_saddK (pv 1) (pa_cons (pv 5) pa_nil)))) pss_nil)))))))
      (pss_one (ps_ret pe_non)))), ?_⟩
    have hg0 : (rowV g).isEmpty = false := by
      have := G.rc.1
      have := G.n1
      cases g with
      | nil => simp at *; omega
      | cons _ _ => rfl
    refine ⟨_, rfl, true, .inr (.inl ⟨_, hS, by rw [hg0]; rfl⟩), iteF ?_⟩
    refine ⟨rfl, fun p hp => ?_⟩
    refine ⟨_, rfl, a, rowV g, rfl, (same_new hp).tup hS, for_it TH.walk_enumT (fun i σ H1 => ∃ v2 v3 v4 v5, σ = [some (.ref a), some (.ref p), v2, v3, v4, v5] ∧ Same H H1 ∧ Seen P w H1 p (g.take i).flatten (i * 8))
      ⟨none, none, none, none, rfl, same_new hp, _, 0, upd_same, Nat.zero_le _, fun c => by simp [mb]⟩ (fun i σ H1 _ ⟨_, _, _, _, _, sm, _⟩ => sm.tup hS) ?_ ?_⟩
    · rintro i x σ H1 H2 hi ⟨v2, v3, v4, v5, rfl, sm, se⟩ ⟨q, y, rfl, hq, rfl, hy⟩
      obtain ⟨r, hr', rfl⟩ : ∃ r, g[i]? = some r ∧ y = V.str (S r) := by
        rw [List.getElem?_map] at hy
        cases e : g[i]? with
        | none => rw [e] at hy; cases hy
        | some r => rw [e] at hy; exact ⟨r, rfl, (Option.some.inj hy).symm⟩
      have hin : i < n := by
        have := (List.getElem?_eq_some_iff.mp hr').1
        rw [G.rc.1] at this
        exact this
      have hrm : r ∈ g := List.mem_of_getElem? hr'
      have hrl : r.length = m := G.rc.2 r hrm
      have n8 := G.n8
      have m1 := G.m1
      have m8 := G.m8
      refine ⟨_, _, rfl, SqT.of upd_same, rfl, _, _, rfl, _, _, rfl, rfl, ?_⟩
      have e1 : decide ((i : Int) ≥ (8 : Int)) = false := decide_eq_false (by omega)
      refine ⟨_, rfl, _, _, rfl, rfl, _, rfl, ?_⟩
      rw [e1]
      refine iteF ⟨_, rfl, r, rfl, by omega, by omega, true, rfl, iteF ?_⟩
      have sm2 : Same H (upd H1 q (.tup [.int (i : Nat), .str (S r)])) := sm.trans (same_new hq)
      have hs : (S r).length ≤ sizeLine := by
        rw [S_len]
        show _ ≤ 16777216
        omega
      obtain ⟨r0, hr0, hr0l⟩ : ∃ r0, g[0]? = some r0 ∧ r0.length = m := by
        have h0 : 0 < g.length := by rw [G.rc.1]; exact G.n1
        exact ⟨g[0], List.getElem?_eq_getElem h0, G.rc.2 _ (List.getElem_mem h0)⟩
      have hs0 : (S r0).length ≤ sizeLine := by
        rw [S_len]
        show _ ≤ 16777216
        omega
      refine ⟨_, rfl, _, rfl, hs, _, rfl, a, _, _, _, rfl, rfl, sm2.tup hS, atI_nat (j := 0) (v := V.str (S r0)) (by rw [List.getElem?_map, hr0]; all_goals rfl), _, rfl, hs0, rfl, _, rfl, ?_⟩
      have e2 : (!decide (V.int ((S r).length : Int) = V.int ((S r0).length : Int))) = false := by
        rw [S_len, S_len, hrl, hr0l]
        simp
      rw [e2]
      refine iteF ?_
      have se2 : Seen P w (upd H1 q (.tup [.int (i : Nat), .str (S r)])) p (g.take i).flatten (i * 8) := by
        obtain ⟨Z, n', h1, h2, h3⟩ := se
        exact ⟨Z, n', by rw [upd_ne (ne_of_none h1 hq)]; exact h1, h2, h3⟩
      refine ⟨_, rfl, S r, rfl, for_it TH.walk_enumS (fun j σ H2 => ∃ v4 v5, σ = [some (.ref a), some (.ref p), some (.int (i : Nat)), some (.str (S r)), v4, v5] ∧ Same H H2 ∧ Seen P w H2 p (ahead g r i j) (i * 8 + j))
        ⟨v4, v5, rfl, sm2, by unfold ahead; rw [List.take_zero, List.append_nil]; exact se2⟩ (fun _ _ _ _ _ => True.intro) ?_ ?_⟩
      · rintro j x σ H2 H3 hj ⟨v4, v5, rfl, sm, Z, k', hZ, hk', hz⟩ ⟨q', c, rfl, hq', rfl, hc⟩
        rw [S_at] at hc
        have hjm : j < m := by
          have := (List.getElem?_eq_some_iff.mp hc).1
          omega
        have hcell : Cell c := G.ok r hrm c (List.mem_of_getElem? hc)
        obtain ⟨b, hb⟩ := ahead_all hr' hc
        have hnew : c ∉ mb (ahead g r i j) := fresh (by rw [← hb]; exact G.nd)
        have hZ2 : upd H2 q' (.tup [.int (j : Nat), .str ⟨#[c]⟩]) p = some (SetK P w p Z k') := by rw [upd_ne (ne_of_none hZ hq')]; exact hZ
        refine ⟨_, _, rfl, SqT.of upd_same, rfl, _, _, rfl, _, _, rfl, rfl, ?_⟩
        have e3 : Z (.inr (S [c])) = false := by rw [hz c]; exact decide_eq_false hnew
        refine ⟨_, rfl, _, rfl, .inr (S [c]), p, Z, k', rfl, rfl, hZ2, _, rfl, ?_⟩
        rw [show (if false = true then !Z (.inr (S [c])) else Z (.inr (S [c]))) = false from e3]
        refine iteF ⟨_, rfl, _, _, rfl, rfl, by show 27 ≤ sizeLine; decide, c, _, rfl, rfl, _, rfl, ?_⟩
        have e4 : decide (c ∈ ((S [46] ++ S letters) : Str).cps.toList) = true := by
          rw [SX.S_cat]
          exact decide_eq_true (by rw [S_list]; exact cell_in hcell)
        rw [e4]
        refine iteF ⟨_, rfl, rfl, _, rfl, ?_⟩
        by_cases h46 : c = 46
        · subst h46
          refine iteF ⟨_, _, rfl, sm.trans (same_new hq'), Z, k', hZ2, by omega, fun d => ?_⟩
          rw [ahead_step hc, mb_dot]
          exact hz d
        · rw [show (!decide (sg c = V.str (S [46]))) = true by simp [h46]]
          refine iteT ⟨_, rfl, ⟨p, Z, k', rfl, hZ2⟩, _, rfl, p, .inr (S [c]), Z, k', rfl, rfl, hZ2, ?_, ?_⟩
          · show _ < 4096
            omega
          · refine ⟨_, _, rfl, same_put (sm.trans (same_new hq')) hp, _, _, upd_same, ?_, fun d => ?_⟩
            · rw [if_neg (by rw [e3]; exact Bool.false_ne_true)]
              omega
            · rw [ahead_step hc, mb_step h46, hz d]
              by_cases hd : d = c
              · subst hd; simp
              · rw [show decide ((Sum.inr (S [d]) : Key) = .inr (S [c])) = false from decide_eq_false fun z => hd (one_inj.mp z), Bool.or_false]
                simp [hd]
      · rintro σ H2 ⟨v4, v5, rfl, sm, se⟩
        refine ⟨_, _, _, _, rfl, sm, ?_⟩
        rw [ahead_row hr']
        rw [S_size] at se
        obtain ⟨Z, k', h1, h2, h3⟩ := se
        exact ⟨Z, k', h1, by omega, h3⟩
    · rintro σ H1 ⟨v2, v3, v4, v5, rfl, sm, se⟩
      exact k _ sm
end
end TK
end
section
set_option Elab.async false
set_option maxRecDepth 100000
set_option linter.all false
namespace TK
open PySem L2 TM
structure ClsT (K : PySem.W.Frag) (mg : Str → Option Value) (D : Addr) : Prop where
  cl : Cls K D
  nR : NoAttr K D "_rows"
  mgC : mg "Tray" = some (.ref D)
def TrayAt (K : PySem.W.Frag) (D : Addr) (H : Hp) (p : Addr) (g : Grid) : Prop := ∃ dx a, H p = some (.ins D dx [("_rows", .ref a)]) ∧ SqT K H a (rowV g)
theorem TrayAt.same {K : PySem.W.Frag} {D p : Addr} {H H' : Hp} {g : Grid} (h : TrayAt K D H p g) (s : Same H H') : TrayAt K D H' p g := by
  obtain ⟨dx, a, h, t⟩ := h
  exact ⟨dx, a, s _ _ h, s.tup t⟩
theorem VG.len {n m : Nat} {g : Grid} (G : VG n m g) : g.length ≤ 8 := by rw [G.rc.1]; exact G.n8
theorem VG.row {n m : Nat} {g : Grid} (G : VG n m g) {r : List Nat} (h : r ∈ g) : r.length ≤ 8 := by rw [G.rc.2 r h]; exact G.m8
theorem VG.ne {n m : Nat} {g : Grid} (G : VG n m g) : g ≠ [] := fun e => by
  have := G.n1
  have := G.rc.1
  subst e
  simp at *
  omega
theorem joinL_len (sep : List Nat) (k : Nat) : ∀ g : Grid, (∀ r ∈ g, r.length ≤ k) → (TL.joinL sep g).length ≤ g.length * (k + sep.length)
  | [], _ => Nat.zero_le _
  | [p], h => by
    have := h p List.mem_cons_self
    show p.length ≤ 1 * _
    omega
  | p :: q :: r, h => by
    have h1 := joinL_len sep k (q :: r) fun z hz => h z (List.mem_cons_of_mem _ hz)
    have h2 := h p List.mem_cons_self
    simp only [TL.joinL, List.length_append, List.length_cons, Nat.add_mul, Nat.mul_add] at *
    omega
theorem lf_not {n m : Nat} {g : Grid} (G : VG n m g) : ∀ r ∈ g, 10 ∉ r := fun r hr h10 => by
  have := G.ok r hr 10 h10
  unfold Cell at this
  omega
theorem split_back {n m : Nat} {g : Grid} (G : VG n m g) : Txt.split (S (TL.joinL [10] g)) (S [10]) = g.map S := by
  rw [SX.split_S (by simp) (by rfl), SX.spl_join G.ne (lf_not G)]
section
variable {P : Program} {w : World} {K : PySem.W.Frag} {mg : Str → Option Value} {base : Heap} {D fF : Addr} {fdF : FuncData}
theorem scTi : FnScope ["self", "rows", "wrong", "row", "column"] ((["self"] : List Str) ++ (["rows"] : List Str)) (defScope sTrayInit) := ⟨rfl, rfl, rfl, by decide +kernel, rfl, by decide +kernel, by decide +kernel⟩
def spTi (K : PySem.W.Frag) (D : Addr) : Sp := fun vs H Q _ => ∃ (p dx a : Addr) (n m : Nat) (g : Grid), vs = [.ref p, .ref a] ∧ H p = some (.ins D dx []) ∧ SqT K H a (rowV g) ∧ VG n m g ∧ ∀ H', TrayAt K D H' p g → (∀ b o, H b = some o → b ≠ p → H' b = some o) → Q .non H'
theorem seq_but {K : PySem.W.Frag} {H H' : Hp} {p a : Addr} {o : HO} {xs : List V} (h : SqT K H a xs) (hp : H p = some o) (ho : ∀ u xs, o ≠ .frz u (.tup xs) ∧ o ≠ .tup xs) (kp : ∀ b o, H b = some o → b ≠ p → H' b = some o) : SqT K H' a xs := by
  rcases h with (h | ⟨u, h⟩) | h
  · exact .inl (.inl (kp _ _ h fun e => by subst e; exact (ho ⟨.none, none, .plain, #[]⟩ xs).2 (Option.some.inj (hp.symm.trans h))))
  · exact .inl (.inr ⟨u, kp _ _ h fun e => by subst e; exact (ho u xs).1 (Option.some.inj (hp.symm.trans h))⟩)
  · exact .inr h
theorem ok_ti {f : Addr} {fd : FuncData} (F : Fun K "__init__" "Tray.__init__" sTrayInit f fd) (CT : ClsT K mg D) (GF : FnOk P w K mg base CX0 2 fF fdF ["rows"] (spFc K)) (kF : PySem.W.keepIn K (.ref fF) = true) (bF : Binds K fdF ["rows"] []) (mF : mg "_first_wrong_cell" = some (.ref fF)) :
    FnR P w K mg base CX0 3 f (fun vs H Q E => ∃ ws rest, vs = ws ++ rest ∧ ws.length = 1 ∧ rest.length ≤ sizeLine ∧ ∀ p, H p = Option.none → spTi K D (ws ++ [V.ref p]) (upd H p (.tup rest)) Q E) := by
  obtain ⟨oc, od, kV, doc, pm, an, cdv, ct, osl, rfl, lk, hcd⟩ := F.ex
  refine StX.fn_star (ps := ["self"]) (pv := "rows") lk hcd scTi StX.cxUp_none (StX.bind_star1 (B := fun us => bindArgs (PySem.W.fnOf "__init__" "Tray.__init__" (defArgs sTrayInit) (defBody sTrayInit) (defScope sTrayInit) .none kV doc pm an cdv ct) ⟨us, []⟩) (p1 := "self") (pv := "rows") (fun _ => rfl) fun _ _ _ => rfl) fun A outer s H vs Q E hr h => ?_
  obtain ⟨p, dx, a, n, m, g, rfl, hp, hS, G, k⟩ := h
  refine ⟨_, pss_cons (ps_set (i := 2) scTi.nd rfl (.inl rfl) (pe_call GF hr rfl mF kF bF .nil pass0 (pa_cons (pv 1) pa_nil)))
    (pss_cons (ps_if (pt_cmpR op_notN (pv 2) pe_non (nomark _)) pss_never pss_nil)
    (pss_one (ps_fld (pv 0) (pv 1) rfl))), ?_⟩
  refine ⟨_, rfl, a, n, m, g, rfl, hS, G, fun H1 sm => ?_⟩
  refine ⟨_, rfl, rfl, _, rfl, iteF ?_⟩
  refine ⟨_, rfl, _, rfl, p, D, dx, [], rfl, sm _ _ hp, CT.cl, CT.nR, (by show 0 < 1000; decide), ?_⟩
  refine k _ ⟨dx, a, upd_same, ?_⟩ fun b o e hb => by rw [upd_ne hb]; exact sm _ _ e
  exact seq_but (sm.tup hS) (sm _ _ hp) (fun _ _ => ⟨by simp, by simp⟩) fun b o e hb => by rw [upd_ne hb]; exact e
theorem scOt : FnScope ["cls", "text", "rows"] ["cls", "text"] (defScope sTrayOfText) := ⟨rfl, rfl, rfl, by decide +kernel, rfl, by decide +kernel, by decide +kernel⟩
def spOt (K : PySem.W.Frag) (D : Addr) : Sp := fun vs H Q _ => ∃ (n m : Nat) (g : Grid), vs = [.ref D, .str (S (TL.joinL [10] g))] ∧ VG n m g ∧ ∀ H' p, Same H H' → TrayAt K D H' p g → Q (.ref p) H'
theorem ok_ot {f fI : Addr} {fd : FuncData} (F : Fun K "of_text" "Tray.of_text" sTrayOfText f fd) (T : TxtW K mg) (M : Mk K D fI)
    (GI : FnR P w K mg base CX0 3 fI (fun vs H Q E => ∃ ws rest, vs = ws ++ rest ∧ ws.length = 1 ∧ rest.length ≤ sizeLine ∧ ∀ p, H p = Option.none → spTi K D (ws ++ [V.ref p]) (upd H p (.tup rest)) Q E)) :
    FnOk P w K mg base CX0 5 f fd ["cls", "text"] (spOt K D) := by
  refine F.ok scOt (fun vs H Q E h => ?_) (fun cdv A outer s H vs Q E hr h => ?_)
  · obtain ⟨n, m, g, rfl, _⟩ := h
    rfl
  · obtain ⟨n, m, g, rfl, G, k⟩ := h
    refine ⟨_, pss_cons (ps_if (pt_not (pt_val (pe_callB call_isi (by rfl) T.isi (by decide +kernel) (pa_cons (pv 1) (pa_cons (pe_bltn (v := .ty "str") (by rfl) T.str (by decide +kernel) rfl) pa_nil))))) pss_never pss_nil)
      (pss_cons (ps_set (i := 2) scOt.nd rfl (.inl rfl) (pe_split (pv 1) pe_str))
      (pss_one (ps_ret (TH.pe_makeSv M GI hr (pv 0) pass0 (pv 2))))), ?_⟩
    refine ⟨_, rfl, _, _, _, _, true, rfl, .ty _, .base (.str _), kit_ty (by decide +kernel), true, rfl, iteF ?_⟩
    have hl : (S (TL.joinL [10] g)).length + 2 ≤ sizeLine := by
      have h1 := joinL_len [10] 8 g fun r hr => G.row hr
      have h2 := G.len
      rw [S_len]
      show _ ≤ 16777216
      have : g.length * (8 + [10].length) = g.length * 9 := rfl
      omega
    refine ⟨_, rfl, ⟨_, rfl⟩, _, _, rfl, rfl, rfl, hl, fun l hl => ?_⟩
    have e : (Txt.split (S (TL.joinL [10] g)) (Str.ofString "\n")).map V.str = rowV g := by
      have := split_back G
      rw [show Str.ofString "\n" = S [10] from rfl, this, List.map_map]
      rfl
    rw [e]
    refine ⟨_, rfl, rfl, _, rfl, l, rowV g, rfl, .inr (SqL.of upd_same), fun x dx nx ndx nex => ?_⟩
    refine ⟨[.ref x], rowV g, rfl, rfl, ?_, fun p hp => ?_⟩
    · have := G.len
      rw [List.length_map]
      show _ ≤ 16777216
      omega
    have hpx : x ≠ p := fun z => by rw [← z, upd_same] at hp; cases hp
    refine ⟨x, dx, p, n, m, g, rfl, by rw [upd_ne hpx, upd_same], SqT.of upd_same, G, fun H' ht kp => ⟨rfl, ?_⟩⟩
    refine k _ _ (fun b o e => ?_) ht
    have hbl : b ≠ l := ne_of_none e hl
    have e1 : upd H l (.lst (rowV g)) b = some o := by rw [upd_ne hbl]; exact e
    have hbx : b ≠ x := ne_of_none e1 nx
    have hbd : b ≠ dx := ne_of_none e1 ndx
    have e2 : (upd (upd (upd H l (.lst (rowV g))) dx (.own x)) x (.ins D dx [])) b = some o := by rw [upd_ne hbx, upd_ne hbd]; exact e1
    exact kp b o (by rw [upd_ne (ne_of_none e2 hp)]; exact e2) hbx
end
end TK
end
section
set_option Elab.async false
set_option maxRecDepth 100000
set_option linter.all false
namespace TH
open PySem PySem.Spec PyProof.Rows L2
section
variable {J J1 : It} {n n1 : Nat} {G G1 : Hp → Prop} {Y Y1 : Nat → Hp → V → Hp → Prop}
/-- the inner walk -/
theorem in_it (w : Walk J1 n1 G1 Y1) {g1 : TG} {tt1 : TT} {te : TE} {vs1 : List Nat} {σ2 : L2.St} {H4 : Hp} {D : Addr} {Qe : Hp → Prop} (Pj : Nat → Hp → Prop) (h0 : Pj 0 H4) (hG : ∀ j H, j ≤ n1 → Pj j H → G1 H)
    (hs : ∀ j x H H', j < n1 → Pj j H → Y1 j H x H' → g1 x (wipe σ2 vs1) H' fun σ3 H5 => wipe σ3 vs1 = wipe σ2 vs1 ∧ tt1 σ3 H5 fun b H6 =>
      if b = true then te σ3 H6 fun y H7 => ∃ acc, H7 D = some (.lst acc) ∧ acc.length < sizeLine ∧ Pj (j + 1) (upd H7 D (.lst (acc ++ [y]))) else Pj (j + 1) H6) (hd : ∀ H, Pj n1 H → Qe H) :
    ∃ W1 : Nat → Nat → Hp → Prop, (∃ m, W1 0 m H4) ∧ ∀ j k H, W1 j k H →
      (J1.stop j H ∧ Qe H) ∨ (J1.go j H ∧ ∃ Nx1 : Hp → Prop, (∀ H', Nx1 H' → ∃ k', k' < k ∧ W1 (j + 1) k' H') ∧ ∀ x H', J1.yld j H x H' → g1 x (wipe σ2 vs1) H' fun σ3 H5 => wipe σ3 vs1 = wipe σ2 vs1 ∧ tt1 σ3 H5 fun b H6 =>
        if b = true then te σ3 H6 fun y H7 => ∃ acc, H7 D = some (.lst acc) ∧ acc.length < sizeLine ∧ Nx1 (upd H7 D (.lst (acc ++ [y]))) else Nx1 H6) := by
  refine ⟨fun i m H => m = n1 - i ∧ i ≤ n1 ∧ Pj i H, ⟨n1, by simp, Nat.zero_le _, h0⟩, ?_⟩
  rintro i m H ⟨rfl, hi, p⟩
  have q := hG i H hi p
  by_cases hlt : i < n1
  · exact .inr ⟨w.goes i H hlt q, Pj (i + 1), fun H' p' => ⟨n1 - (i + 1), by omega, rfl, hlt, p'⟩, fun x H' y => hs i x H H' hlt p (w.yields i H x H' hlt q y)⟩
  · have e : i = n1 := by omega
    subst e
    exact .inl ⟨w.stops H q, hd H p⟩
/-- the outer walk -/
theorem lc2_it (w : Walk J n G Y) {g g1 : TG} {tt tt1 : TT} {wi1 : TI} {te : TE} {vs vs1 : List Nat} {σ : L2.St} {H1 : Hp} {D : Addr} {Qd : Hp → Prop} (Pv : Nat → Hp → Prop) (h0 : Pv 0 (upd H1 D (.lst []))) (hG : ∀ i H, i ≤ n → Pv i H → G H)
    (hs : ∀ i x H H', i < n → Pv i H → Y i H x H' → g x (wipe σ vs) H' fun σ2 H2 => wipe σ2 vs = wipe σ vs ∧ tt σ2 H2 fun b H3 =>
      if b = true then wi1 σ2 H3 fun J1 H4 => ∃ W1 : Nat → Nat → Hp → Prop, (∃ m, W1 0 m H4) ∧ ∀ j k H, W1 j k H →
        (J1.stop j H ∧ Pv (i + 1) H) ∨ (J1.go j H ∧ ∃ Nx1 : Hp → Prop, (∀ H', Nx1 H' → ∃ k', k' < k ∧ W1 (j + 1) k' H') ∧ ∀ x H', J1.yld j H x H' → g1 x (wipe σ2 vs1) H' fun σ3 H5 => wipe σ3 vs1 = wipe σ2 vs1 ∧ tt1 σ3 H5 fun b H6 =>
          if b = true then te σ3 H6 fun y H7 => ∃ acc, H7 D = some (.lst acc) ∧ acc.length < sizeLine ∧ Nx1 (upd H7 D (.lst (acc ++ [y]))) else Nx1 H6)
      else Pv (i + 1) H3) (hd : ∀ H, Pv n H → Qd H) :
    ∃ W : Nat → Nat → Hp → Prop, (∃ m, W 0 m (upd H1 D (.lst []))) ∧ ∀ i m H, W i m H →
      (J.stop i H ∧ Qd H) ∨ (J.go i H ∧ ∃ Nx : Hp → Prop, (∀ H', Nx H' → ∃ m', m' < m ∧ W (i + 1) m' H') ∧ ∀ x H', J.yld i H x H' → g x (wipe σ vs) H' fun σ2 H2 => wipe σ2 vs = wipe σ vs ∧ tt σ2 H2 fun b H3 =>
        if b = true then wi1 σ2 H3 fun J1 H4 => ∃ W1 : Nat → Nat → Hp → Prop, (∃ m, W1 0 m H4) ∧ ∀ j k H, W1 j k H →
          (J1.stop j H ∧ Nx H) ∨ (J1.go j H ∧ ∃ Nx1 : Hp → Prop, (∀ H', Nx1 H' → ∃ k', k' < k ∧ W1 (j + 1) k' H') ∧ ∀ x H', J1.yld j H x H' → g1 x (wipe σ2 vs1) H' fun σ3 H5 => wipe σ3 vs1 = wipe σ2 vs1 ∧ tt1 σ3 H5 fun b H6 =>
            if b = true then te σ3 H6 fun y H7 => ∃ acc, H7 D = some (.lst acc) ∧ acc.length < sizeLine ∧ Nx1 (upd H7 D (.lst (acc ++ [y]))) else Nx1 H6)
        else Nx H3) := by
  refine ⟨fun i m H => m = n - i ∧ i ≤ n ∧ Pv i H, ⟨n, by simp, Nat.zero_le _, h0⟩, ?_⟩
  rintro i m H ⟨rfl, hi, p⟩
  have q := hG i H hi p
  by_cases hlt : i < n
  · exact .inr ⟨w.goes i H hlt q, Pv (i + 1), fun H' p' => ⟨n - (i + 1), by omega, rfl, hlt, p'⟩, fun x H' y => hs i x H H' hlt p (w.yields i H x H' hlt q y)⟩
  · have e : i = n := by omega
    subst e
    exact .inl ⟨w.stops H q, hd H p⟩
end
end TH
end
section
set_option Elab.async false
set_option maxRecDepth 100000
set_option linter.all false
namespace TK
open PySem L2 TM
open PySem.Spec PyProof.Rows TH
section
variable {X : Cx} {n : Nat} {t0 : Tok}
theorem mt_ljustF : MtR X "str.ljust" (fun x xs H Q => ∃ (a : Str) (i : Int) (c : Nat), x = .str a ∧ xs = [.int i, .str ⟨#[c]⟩] ∧ PadOk i = true ∧ Q (.str (Txt.ljustF a i c)) H) := by
  intro pins s σ H x xs v us Q I rx rs h
  obtain ⟨a, i, c, rfl, rfl, hp, q⟩ := h
  obtain ⟨t, rfl⟩ := rx
  obtain ⟨u1, u2, rfl, r1, r2⟩ := vals2 rs
  obtain ⟨t1, rfl⟩ := (show ∃ t, u1 = Value.int i t from r1)
  obtain ⟨t2, rfl⟩ := (show ∃ t, u2 = Value.str ⟨#[c]⟩ t from r2)
  exact ljust_fill hp rfl fun t' k => ⟨.str (Txt.ljustF a i c), H, I.tok k, ⟨t', rfl⟩, q⟩
theorem mt_rjustF : MtR X "str.rjust" (fun x xs H Q => ∃ (a : Str) (i : Int) (c : Nat), x = .str a ∧ xs = [.int i, .str ⟨#[c]⟩] ∧ PadOk i = true ∧ Q (.str (Txt.rjustF a i c)) H) := by
  intro pins s σ H x xs v us Q I rx rs h
  obtain ⟨a, i, c, rfl, rfl, hp, q⟩ := h
  obtain ⟨t, rfl⟩ := rx
  obtain ⟨u1, u2, rfl, r1, r2⟩ := vals2 rs
  obtain ⟨t1, rfl⟩ := (show ∃ t, u1 = Value.int i t from r1)
  obtain ⟨t2, rfl⟩ := (show ∃ t, u2 = Value.str ⟨#[c]⟩ t from r2)
  exact rjust_fill hp rfl fun t' k => ⟨.str (Txt.rjustF a i c), H, I.tok k, ⟨t', rfl⟩, q⟩
/-- o.replace(EMPTY, ''): the signs that are left -/
def tStrike (y : Str) (to : TE) : TE := fun σ H Q => to σ H fun x H1 => ∃ a : Str, x = .str a ∧ a.length + (a.length + 1) * 0 ≤ 16777216 ∧ Q (.str (Txt.replace a y Str.empty)) H1
theorem pen_strike {o : Expr} {to : TE} {x : Str} {y : Str} {k : Nat} {p c apos pos : Pos} (ho : PE X o to) (hg : Gl X x) (hm : X.mg x = some (.str y t0)) (h0 : t0 ≠ 0) (ht : t0 < n) (hy : (y == Str.empty) = false) (hd : (x == ("__debug__" : Str)) = false := by decide)
    (hst : starEach [.Name x p, .Constant (.str Str.empty) k c] X.env = [(false, eval (.Name x p) X.env), (false, eval (.Constant (.str Str.empty) k c) X.env)] := by rfl)
    (hbase : attributeBase o "replace" X.env (eval o X.env) = eval o X.env := by rfl) (hline : (apos.endLine == pos.line) = true := by rfl) :
    PEn n X (.Call (.Attribute o "replace" apos) [.Name x p, .Constant (.str Str.empty) k c] [] pos) (tStrike y to) := by
  intro pins s σ H Q hn I h
  refine PySem.Call_method2 hbase hst hline (thnN hn (ho.run pins s σ H _ I h) fun v s1 hn1 ⟨x1, H1, I1, r1, a, e, hb, q⟩ => ?_)
  subst e
  obtain ⟨ta, rfl⟩ := r1
  refine ⟨"str", _, PySem.F.plainAttrs_str, PySem.F.slot_str_replace, PySem.F.type_str_replace, typeIs_str _ _ _, (fun _ e => nomatch e), Calls.callWith_builtin rfl (Calls.evalArgs_plain (Calls.spliced_cons ?_))⟩
  refine ld_glob I1 hg hm ?_ hd
  refine Calls.spliced_cons (Calls.Constant_str (Calls.spliced_nil ?_))
  have hs : s1.toks ≠ 0 := fun e => by
    rw [e] at hn1
    exact Nat.not_lt_zero _ (Nat.lt_of_lt_of_le ht hn1)
  exact PySem.SC.replace h0 hs (fun e => by rw [e] at ht; exact Nat.lt_irrefl _ (Nat.lt_of_lt_of_le ht hn1)) hy hb fun t' j => ⟨.str (Txt.replace a y Str.empty), H1, I1.tok j, ⟨t', rfl⟩, q⟩
end
theorem strike_mb (l : List Nat) : Txt.replace (S l) (S [46]) Str.empty = S (mb l) := by
  have e := PyProof.Rows.replace_strikes (S l) 46
  rw [S_of (Txt.replace (S l) (S [46]) Str.empty)]
  refine congrArg S ?_
  rw [show (S [46] : Str) = ⟨#[46]⟩ from rfl, show (Str.empty : Str) = ⟨#[]⟩ from rfl, e, S_list]
  rfl
theorem ljust_sl (l : List Nat) : Txt.ljustF (S (mb l)) (l.length : Int) 46 = S (sl true l) := by
  have hle := mb_le l
  unfold Txt.ljustF sl dots
  rw [S_len]
  split
  · rename_i h
    have e : l.length - (mb l).length = 0 := by omega
    rw [if_pos rfl, e]
    simp
  · rw [if_pos rfl]
    unfold Builtin.Str.padded
    simp
theorem rjust_sl (l : List Nat) : Txt.rjustF (S (mb l)) (l.length : Int) 46 = S (sl false l) := by
  have hle := mb_le l
  unfold Txt.rjustF sl dots
  rw [S_len]
  split
  · rename_i h
    have e : l.length - (mb l).length = 0 := by omega
    rw [if_neg Bool.false_ne_true, e]
    simp
  · rw [if_neg Bool.false_ne_true]
    unfold Builtin.Str.padded
    simp
section
variable {P : Program} {w : World} {K : PySem.W.Frag} {mg : Str → Option Value} {base : Heap} {t0 : Tok} {n : Nat}
theorem scSl : FnScope ["line", "to_beginning", "marbles"] ["line", "to_beginning"] (defScope sSlid) := ⟨rfl, rfl, rfl, by decide +kernel, rfl, by decide +kernel, by decide +kernel⟩
def spSl : Sp := fun vs H Q _ => ∃ (l : List Nat) (b : Bool), vs = [.str (S l), .bl b] ∧ l.length ≤ 8 ∧ Q (.str (S (sl b l))) H
theorem ok_sl {f : Addr} {fd : FuncData} (F : Fun K "_slid" "_slid" sSlid f fd) (T : TxtW K mg) (U : TxtT K mg t0) (b : Binds K fd ["line", "to_beginning"] []) (h0 : t0 ≠ 0) (ht : t0 < n) : FnRn n P w K mg base CX0 1 f spSl := by
  refine fn_n F b scSl (fun vs H Q E h => ?_) fun cdv A outer s H vs Q E hr h => ?_
  · obtain ⟨l, b, rfl, _⟩ := h
    rfl
  · obtain ⟨l, b, rfl, h8, k⟩ := h
    have hlen : (S l).length ≤ sizeLine := by
      rw [S_len]
      show _ ≤ 16777216
      omega
    have hpad : PadOk (((S l).length : Nat) : Int) = true := by
      rw [S_len]
      exact padOk_of (by omega) (by omega)
    refine ⟨_, pssn_cons (psn_set (i := 2) scSl.nd rfl (.inl rfl) (pen_strike (pv 0) rfl U.EM h0 ht (by decide +kernel)))
      (pssn_cons (PS.up (ps_if (pt_val (pv 1)) (pss_one (ps_ret (pe_bm PySem.F.plainAttrs_str PySem.F.slot_str_ljust PySem.F.type_str_ljust mt_ljustF (pv 2) (pa_cons (pe_callB call_len_str (by rfl) T.len PySem.boot_len (pa_cons (pv 0) pa_nil)) (pa_cons (C8.pe_gc rfl U.em) pa_nil))))) pss_nil))
      (pssn_one (PS.up (ps_ret (pe_bm PySem.F.plainAttrs_str PySem.F.slot_str_rjust PySem.F.type_str_rjust mt_rjustF (pv 2) (pa_cons (pe_callB call_len_str (by rfl) T.len PySem.boot_len (pa_cons (pv 0) pa_nil)) (pa_cons (C8.pe_gc rfl U.em) pa_nil))))))), ?_⟩
    refine ⟨_, rfl, S l, rfl, ?_, ?_⟩
    · rw [S_len]
      omega
    rw [strike_mb]
    refine ⟨_, rfl, b, rfl, ?_⟩
    cases b with
    | true =>
      refine iteT ⟨_, rfl, rfl, _, rfl, _, rfl, hlen, _, _, 46, rfl, rfl, hpad, ?_⟩
      rw [S_len, ljust_sl]
      exact k
    | false =>
      refine iteF ⟨_, rfl, rfl, _, rfl, _, rfl, hlen, _, _, 46, rfl, rfl, hpad, ?_⟩
      rw [S_len, rjust_sl]
      exact k
end
end TK
end
section
set_option Elab.async false
set_option maxRecDepth 100000
set_option linter.all false
namespace TK
open PySem L2 TM
open PySem.Spec PyProof.Rows TH
theorem at_map {α β : Type} {l : List α} {f : α → β} {i : Nat} {y : β} (h : (l.map f)[i]? = some y) : ∃ r, l[i]? = some r ∧ y = f r := by
  rw [List.getElem?_map] at h
  cases e : l[i]? with
  | none => rw [e] at h; cases h
  | some r => rw [e] at h; exact ⟨r, rfl, (Option.some.inj h).symm⟩
theorem take_map_snoc {α β : Type} {l : List α} {f : α → β} {i : Nat} {r : α} (h : l[i]? = some r) : (l.take (i + 1)).map f = (l.take i).map f ++ [f r] := by
  rw [List.take_add_one, h, List.map_append]
  rfl
/-- what zip hands out: a column -/
theorem col_of {g : Grid} {n m i : Nat} {cs : List Nat} (hr : Rect n m g) (hi : i < m) (hl : cs.length = (g.map S).length) (h : ∀ (k : Nat) (y : Str), (g.map S)[k]? = some y → ∃ c, y.cps[i]? = some c ∧ cs[k]? = some c) : (tr m g)[i]? = some cs := by
  rw [tr_get hi]
  refine congrArg some (List.ext_getElem? fun k => ?_)
  rw [List.getElem?_map]
  cases e : g[k]? with
  | none =>
    have : g.length ≤ k := List.getElem?_eq_none_iff.mp e
    rw [List.length_map] at hl
    rw [List.getElem?_eq_none_iff.mpr (by omega)]
    rfl
  | some r =>
    obtain ⟨c, h1, h2⟩ := h k (S r) (by rw [List.getElem?_map, e]; all_goals rfl)
    rw [S_at] at h1
    rw [h2]
    show some (r.getD i 46) = some c
    rw [List.getD_eq_getElem?_getD, h1]
    rfl
theorem dL (c d : Nat) : decide (sg c = V.str (S [d])) = (c == d) := by
  by_cases h : c = d
  · subst h; simp
  · simp [h]
/-- o.join(e), its reading by K -/
def rJn (K : PySem.W.Frag) : V → List V → Hp → VK → Prop := fun x xs H Q => ∃ a p, ∃ ys : List Str, x = .str a ∧ xs = [.ref p] ∧ (SqL K H p (ys.map V.str) ∨ SqT K H p (ys.map V.str)) ∧ (ys.map (·.length)).sum + ys.length * a.length ≤ 16777216 ∧ Q (.str (Txt.join a ys)) H
theorem pe_joinK {X : Cx} {K : PySem.W.Frag} {o e : Expr} {to te : TE} {apos pos : Pos} (hK : X.K = K) (ho : PE X o to) (he : PE X e te) (hs : starEach [e] X.env = [(false, eval e X.env)] := by rfl) (hbase : attributeBase o "join" X.env (eval o X.env) = eval o X.env := by rfl) (hline : (apos.endLine == pos.line) = true := by rfl) :
    PE X (.Call (.Attribute o "join" apos) [e] [] pos) (tM1 (rJn K) to te) := by
  subst hK
  exact pe_join ho he hs hbase hline
section
variable {P : Program} {w : World} {K : PySem.W.Frag} {mg : Str → Option Value} {base : Heap} {t0 : Tok} {n : Nat} {fS : Addr}
abbrev NTd : List Str := ["rows", "tilt", "columns", "row", "column"]
theorem scTd : FnScope NTd ["rows", "tilt"] (defScope sTilted) := ⟨rfl, rfl, rfl, by decide +kernel, rfl, by decide +kernel, by decide +kernel⟩
def spTd (K : PySem.W.Frag) : Sp := fun vs H Q _ => ∃ (a c h w : Nat) (g : Grid), vs = [.ref a, sg c] ∧ SqT K H a (rowV g) ∧ Rect h w g ∧ 1 ≤ h ∧ h ≤ 8 ∧ 1 ≤ w ∧ w ≤ 8 ∧ ∀ H' b, Same H H' → SqT K H' b (rowV (tilt h w g c)) → Q (.ref b) H'
theorem ok_td {f : Addr} {fd : FuncData} (F : Fun K "_tilted" "_tilted" sTilted f fd) (T : TxtW K mg) (U : TxtT K mg t0) (b : Binds K fd ["rows", "tilt"] []) (GS : FnRn n P w K mg base CX0 1 fS spSl) (kS : PySem.W.keepIn K (.ref fS) = true) (mS : mg "_slid" = some (.ref fS)) : FnRn n P w K mg base CX0 2 f (spTd K) := by
  refine fn_n F b scTd (fun vs H Q E h => ?_) fun cdv A outer s H vs Q E hr h => ?_
  · obtain ⟨a, c, h, w, g, rfl, _⟩ := h
    rfl
  · obtain ⟨a, c, h, w, g, rfl, hS, hr', h1, h8, w1, w8, k⟩ := h
    refine ⟨_, pssn_cons (psn_if (PT.up (pt_cmpR op_in_sign (pv 1) (C8.pe_gc rfl T.AR) (by rfl)))
        (pssn_one (psn_ret (pen_callTy call_tuple_of (by rfl) U.tup (by decide +kernel) (pan_cons (pen_lc (own := [("row", 3)]) (g := gName 3) rfl scTd.nd (pi_tup (pv 0)) (blkOk_by (N := NTd) (sc := defScope sTilted) (by decide +kernel)) (fun _ _ _ _ _ => pg_name (i := 3) scTd.nd rfl (.inl rfl))
          (fun _ _ _ _ _ => pen_call GS hr rfl mS kS pass0 (pan_cons (PE.up (pv 3)) (pan_cons (PE.up (pe_cmpR op_eq (pv 1) pe_str (nomark _))) pan_nil)))) pan_nil)))) (PSs.up pss_nil))
      (pssn_cons (psn_setLc (i := 2) (own := [("column", 4)]) (g := gName 4) rfl scTd.nd rfl rfl (sw_true rfl rfl rfl (by decide +kernel)) (pi_zips (by rfl) U.zip (pv 0)) (blkOk_by (N := NTd) (sc := defScope sTilted) (by decide +kernel)) (fun _ _ _ _ _ => pg_name (i := 4) scTd.nd rfl (.inl rfl))
          (fun _ _ _ _ _ => pen_call GS hr rfl mS kS pass0 (pan_cons (PE.up (pe_joinK (K := K) rfl pe_str (pv 4))) (pan_cons (PE.up (pe_cmpR op_eq (pv 1) pe_str (nomark _))) pan_nil))))
      (pssn_one (PS.up (ps_ret (pe_callTy call_tuple_of (by rfl) U.tup (by decide +kernel) (pa_cons (pe_lc (own := [("row", 3)]) (g := gName 3) (tt := tYes) rfl scTd.nd (pi_zips (by rfl) U.zip (pv 2)) (blkOk_by (N := NTd) (sc := defScope sTilted) (by decide +kernel)) (fun _ _ _ _ _ => pg_name (i := 3) scTd.nd rfl (.inl rfl)) (fun _ _ _ _ _ => pts_nil)
          (fun _ _ _ _ _ => pe_joinK (K := K) rfl pe_str (pv 3))) pa_nil)))))), ?_⟩
    have hrl : ∀ r ∈ g, r.length ≤ 8 := fun r hr => by rw [hr'.2 r hr]; exact w8
    refine ⟨_, rfl, c, S [108, 114], rfl, rfl, _, rfl, ?_⟩
    rw [dAR]
    by_cases hc : isH c = true
    · rw [hc]
      have et : tilt h w g c = TM.LT (c == 108) g := if_pos hc
      refine iteT ⟨_, rfl, a, rfl, ⟨_, hS⟩, fun D hD => lc_tup (K := K) (a := a) (xs := rowV g) (fun i H1 => Same H H1 ∧ H1 D = some (.lst ((g.take i).map fun r => V.str (S (sl (c == 108) r)))))
        ⟨same_new hD, upd_same⟩ (fun i H1 _ ⟨sm, _⟩ => sm.tup hS) ?_ ?_⟩
      · rintro i x H1 hi ⟨sm, hL⟩
        obtain ⟨r, hri, rfl⟩ := at_map hi
        have hrm := List.mem_of_getElem? hri
        refine ⟨rfl, ?_⟩
        refine ⟨_, rfl, _, rfl, rfl, r, c == 108, ?_, hrl r hrm, _, hL, ?_, ?_⟩
        · show [V.str (S r), V.bl (decide (sg c = V.str (S [108])))] = _
          rw [dL]
        · rw [List.length_map, List.length_take]
          show _ < 16777216
          have := hr'.1
          omega
        · refine ⟨same_put sm hD, ?_⟩
          rw [upd_same, take_map_snoc hri]
      · rintro H1 ⟨sm, hL⟩
        rw [List.length_map, List.take_length] at hL
        refine ⟨D, _, rfl, .inl ⟨SqL.of hL, fun l hl => ?_⟩⟩
        refine k _ l (sm.trans (same_new hl)) ?_
        rw [et]
        unfold TM.LT rowV
        rw [List.map_map]
        exact SqT.of upd_same
    · rw [Bool.not_eq_true] at hc
      rw [hc]
      have et : tilt h w g c = UT (c == 117) h w g := if_neg (by rw [hc]; exact Bool.false_ne_true)
      refine iteF ?_
      have hm : ∀ x ∈ g.map S, x.cps.size = w := fun x hx => by
        obtain ⟨r, hr, rfl⟩ := List.mem_map.mp hx
        rw [S_size]
        exact hr'.2 r hr
      have hS' : SqT K H a ((g.map S).map V.str) := by
        rw [List.map_map]
        exact hS
      refine ⟨_, rfl, a, g.map S, w, rfl, .inl hS', ?_, ?_, hm, fun D hD => lc_it walk_zips (fun i H1 => Same H H1 ∧ H1 D = some (.lst (((tr w g).take i).map fun r => V.str (S (sl (c == 117) r)))))
        ⟨same_new hD, upd_same⟩ (fun _ _ _ _ => True.intro) ?_ ?_⟩
      · rw [List.length_map, hr'.1]; omega
      · rw [List.length_map, hr'.1]; omega
      · rintro i x H1 H2 hi ⟨sm, hL⟩ ⟨T, cs, rfl, hT, rfl, hl, hcs⟩
        have hcol := col_of hr' hi hl hcs
        have hlc : cs.length = h := by rw [hl, List.length_map, hr'.1]
        have hL2 : upd H1 T (.tup (cs.map fun c => V.str ⟨#[c]⟩)) D = some (.lst (((tr w g).take i).map fun r => V.str (S (sl (c == 117) r)))) := by
          rw [upd_ne (ne_of_none hL hT)]
          exact hL
        refine ⟨rfl, ?_⟩
        refine ⟨⟨_, rfl⟩, _, rfl, _, T, cs.map fun c => S [c], rfl, rfl, .inr ?_, ?_, _, rfl, rfl, cs, c == 117, ?_, by omega, _, hL2, ?_, ?_⟩
        · rw [List.map_map]
          exact SqT.of upd_same
        · rw [sum_ones, List.length_map]
          show _ + _ * 0 ≤ _
          omega
        · show [V.str (Txt.join (Str.ofString "") (cs.map fun c => S [c])), V.bl (decide (sg c = V.str (S [117])))] = _
          rw [dL, join_signs]
        · rw [List.length_map, List.length_take]
          show _ < 16777216
          omega
        · refine ⟨same_put (sm.trans (same_new hT)) hD, ?_⟩
          rw [upd_same, take_map_snoc hcol]
      · rintro H1 ⟨sm, hL⟩
        have hrt := tr_rect hr'
        have hlt := lt_rect (s := c == 117) hrt
        rw [show (tr w g).take w = tr w g from List.take_of_length_le (by rw [hrt.1]; exact Nat.le_refl _)] at hL
        have hm2 : ∀ x ∈ (TM.LT (c == 117) (tr w g)).map S, x.cps.size = h := fun x hx => by
          obtain ⟨r, hr, rfl⟩ := List.mem_map.mp hx
          rw [S_size]
          exact hlt.2 r hr
        have hL' : SqL K H1 D (((TM.LT (c == 117) (tr w g)).map S).map V.str) := by
          unfold TM.LT
          rw [List.map_map, List.map_map]
          exact SqL.of hL
        refine ⟨_, rfl, D, (TM.LT (c == 117) (tr w g)).map S, h, rfl, .inr hL', ?_, ?_, hm2, fun D2 hD2 => lc_it walk_zips (fun i H2 => Same H H2 ∧ H2 D2 = some (.lst (((UT (c == 117) h w g).take i).map fun r => V.str (S r))))
          ⟨sm.trans (same_new hD2), upd_same⟩ (fun _ _ _ _ => True.intro) ?_ ?_⟩
        · rw [List.length_map, hlt.1]; omega
        · rw [List.length_map, hlt.1]; omega
        · rintro i x H2 H3 hi ⟨sm2, hL2⟩ ⟨T, cs, rfl, hT, rfl, hl, hcs⟩
          have hcol := col_of hlt hi hl hcs
          have hlc : cs.length = w := by rw [hl, List.length_map, hlt.1]
          have hL3 : upd H2 T (.tup (cs.map fun c => V.str ⟨#[c]⟩)) D2 = some (.lst (((UT (c == 117) h w g).take i).map fun r => V.str (S r))) := by
            rw [upd_ne (ne_of_none hL2 hT)]
            exact hL2
          refine ⟨rfl, ?_⟩
          refine ⟨⟨_, rfl⟩, _, rfl, _, T, cs.map fun c => S [c], rfl, rfl, .inr ?_, ?_, _, hL3, ?_, ?_⟩
          · rw [List.map_map]
            exact SqT.of upd_same
          · rw [sum_ones, List.length_map]
            show _ + _ * 0 ≤ _
            omega
          · rw [List.length_map, List.length_take]
            show _ < 16777216
            omega
          · refine ⟨same_put (sm2.trans (same_new hT)) (sm.free hD2), ?_⟩
            rw [upd_same, take_map_snoc (l := UT (c == 117) h w g) hcol, join_signs]
        · rintro H2 ⟨sm2, hL2⟩
          rw [show (UT (c == 117) h w g).take h = UT (c == 117) h w g from List.take_of_length_le (by rw [(ut_rect hr').1]; exact Nat.le_refl _)] at hL2
          refine ⟨D2, _, rfl, .inl ⟨SqL.of hL2, fun l hl => ?_⟩⟩
          refine k _ l (sm2.trans (same_new hl)) ?_
          rw [et]
          exact SqT.of upd_same
end
end TK
end
section
set_option Elab.async false
set_option maxRecDepth 100000
set_option linter.all false
namespace TK
open PySem L2 TM
open PySem.Spec PyProof.Rows TH
theorem mb_flat : ∀ g : Grid, mb g.flatten = (g.map mb).flatten
  | [] => rfl
  | r :: g => by rw [List.flatten_cons, mb_app, mb_flat g]; rfl
theorem flat_cons {f : Nat → Nat} {h : Nat → List Nat} : ∀ l : List Nat, ((l.map fun j => f j :: h j).flatten).Perm (l.map f ++ (l.map h).flatten)
  | [] => List.Perm.refl _
  | a :: l => by
    have ih := flat_cons (f := f) (h := h) l
    simp only [List.map_cons, List.flatten_cons, List.cons_append]
    refine List.Perm.cons _ ((List.Perm.append_left _ ih).trans ?_)
    rw [← List.append_assoc, ← List.append_assoc]
    exact List.Perm.append_right _ List.perm_append_comm
theorem flat_none : ∀ l : List Nat, ((l.map fun _ => ([] : List Nat)).flatten) = []
  | [] => rfl
  | _ :: l => by simp [flat_none l]
theorem get_all {m : Nat} {r : List Nat} (h : r.length = m) : (List.range m).map (fun j => r.getD j 46) = r := by
  subst h
  refine List.ext_getElem? fun k => ?_
  rw [List.getElem?_map]
  by_cases hk : k < r.length
  · rw [List.getElem?_range hk, List.getElem?_eq_getElem hk]
    simp [hk]
  · rw [List.getElem?_eq_none_iff.mpr (by simpa using hk), List.getElem?_eq_none_iff.mpr (by omega)]
    rfl
theorem tr_perm {m : Nat} : ∀ {g : Grid}, (∀ r ∈ g, r.length = m) → ((tr m g).flatten).Perm g.flatten
  | [], _ => by
    unfold tr
    rw [show ((List.range m).map fun j => ([] : Grid).map fun r => r.getD j 46) = (List.range m).map fun _ => [] from rfl, flat_none]
    exact List.Perm.refl _
  | r :: g, h => by
    have ih := tr_perm (g := g) fun z hz => h z (List.mem_cons_of_mem _ hz)
    unfold tr at ih ⊢
    refine (flat_cons (f := fun j => r.getD j 46) (h := fun j => g.map fun r => r.getD j 46) (List.range m)).trans ?_
    rw [get_all (h r List.mem_cons_self), List.flatten_cons]
    exact List.Perm.append_left _ ih
theorem lt_mb (s : Bool) (g : Grid) : mb (TM.LT s g).flatten = mb g.flatten := by
  rw [mb_flat, mb_flat]
  unfold TM.LT
  rw [List.map_map]
  congr 1
  exact List.map_congr_left fun r _ => mb_sl s r
/-- as many marbles, the same ones; and signs that are cells -/
structure Like (g g' : Grid) : Prop where
  pm : (mb g'.flatten).Perm (mb g.flatten)
  ok : (∀ c ∈ g.flatten, Cell c) → ∀ c ∈ g'.flatten, Cell c
theorem Like.trans {a b c : Grid} (x : Like a b) (y : Like b c) : Like a c := ⟨y.pm.trans x.pm, fun h => y.ok (x.ok h)⟩
theorem cell_of {l l' : List Nat} (e : mb l' = mb l) (h : ∀ c ∈ l, Cell c) : ∀ c ∈ l', Cell c := fun c hc => by
  by_cases h46 : c = 46
  · exact .inl h46
  · have : c ∈ mb l' := List.mem_filter.mpr ⟨hc, by simp [h46]⟩
    rw [e] at this
    exact h c (List.mem_filter.mp this).1
theorem like_lt (s : Bool) (g : Grid) : Like g (TM.LT s g) := ⟨by rw [lt_mb], cell_of (lt_mb s g)⟩
theorem like_tr {n m : Nat} {g : Grid} (h : Rect n m g) : Like g (tr m g) :=
  have p := tr_perm (m := m) h.2
  ⟨p.filter _, fun k c hc => k c (p.mem_iff.mp hc)⟩
theorem like_tilt {n m c : Nat} {g : Grid} (h : Rect n m g) : Like g (tilt n m g c) := by
  unfold tilt
  split
  · exact like_lt _ g
  · unfold UT
    exact ((like_tr h).trans (like_lt _ _)).trans (like_tr (lt_rect (tr_rect h)))
theorem VG.tilt {n m c : Nat} {g : Grid} (G : VG n m g) : VG n m (TM.tilt n m g c) := by
  have L := like_tilt (c := c) G.rc
  refine ⟨tilt_rect G.rc, G.n1, G.n8, G.m1, G.m8, fun r hr d hd => ?_, L.pm.nodup_iff.mpr G.nd⟩
  exact L.ok (fun d hd => by
    obtain ⟨r, hr, hd⟩ := List.mem_flatten.mp hd
    exact G.ok r hr d hd) d (List.mem_flatten.mpr ⟨r, hr, hd⟩)
theorem VG.tilts {n m : Nat} : ∀ (t : List Nat) {g : Grid}, VG n m g → VG n m (TM.tilts n m t g)
  | [], _, G => G
  | c :: t, g, G => VG.tilts t (G.tilt (c := c))
section
variable {P : Program} {w : World} {K : PySem.W.Frag} {mg : Str → Option Value} {base : Heap} {t0 : Tok} {n : Nat} {C D pT gT fD fI : Addr} {fdG : FuncData}
theorem scRs : FnScope ["self", "other", "rows", "tilt"] ["self", "other"] (defScope sTrayRshift) := ⟨rfl, rfl, rfl, by decide +kernel, rfl, by decide +kernel, by decide +kernel⟩
def spRs (K : PySem.W.Frag) (C D : Addr) : Sp := fun vs H Q _ => ∃ (p q : Addr) (h w : Nat) (g : Grid) (t : List Nat), vs = [.ref p, .ref q] ∧ TrayAt K D H p g ∧ VG h w g ∧ WordAt C H q t ∧ ∀ H' r, Same H H' → TrayAt K D H' r (tilts h w t g) → Q (.ref r) H'
theorem ok_rs {f : Addr} {fd : FuncData} (F : Fun K "__rshift__" "Tray.__rshift__" sTrayRshift f fd) (T : TxtW K mg) (CW : ClsW K mg C) (CT : ClsT K mg D) (IC : C8.InsC K C) (b : Binds K fd ["self", "other"] [])
    (PT : PropOf K C "text" pT gT) (GT : FnOk P w K mg base CX0 1 gT fdG ["self"] (getSp C "_text")) (bT : Binds K fdG ["self"] [])
    (GD : FnRn n P w K mg base CX0 2 fD (spTd K)) (kD : PySem.W.keepIn K (.ref fD) = true) (mD : mg "_tilted" = some (.ref fD)) (M : Mk K D fI)
    (GI : FnR P w K mg base CX0 3 fI (fun vs H Q E => ∃ ws rest, vs = ws ++ rest ∧ ws.length = 1 ∧ rest.length ≤ sizeLine ∧ ∀ p, H p = Option.none → spTi K D (ws ++ [V.ref p]) (upd H p (.tup rest)) Q E)) :
    FnRn n P w K mg base CX0 5 f (spRs K C D) := by
  refine fn_n F b scRs (fun vs H Q E h => ?_) fun cdv A outer s H vs Q E hr h => ?_
  · obtain ⟨p, q, h, w, g, t, rfl, _⟩ := h
    rfl
  · obtain ⟨p, q, h, w, g, t, rfl, ⟨dx, a, hp, hS⟩, G, ⟨dy, hq⟩, k⟩ := h
    refine ⟨_, pssn_cons (PS.up (ps_if (pt_not (pt_val (pe_callB (C8.call_isC IC) (by rfl) T.isi (by decide +kernel) (pa_cons (pv 1) (pa_cons (pe_glob (v := .ref C) rfl CW.mgC rfl) pa_nil))))) pss_never pss_nil))
      (pssn_cons (PS.up (ps_set (i := 2) scRs.nd rfl (.inl rfl) (pe_fld (pv 0) rfl)))
      (pssn_cons (psn_for PassesOwn.never rfl (pi_str (pe_prop (pv 1) CW.cl PT GT (hr.mono (by decide)) bT .nil pass0 rfl)) (pg_name (i := 3) scRs.nd rfl (.inl rfl))
        (pssn_one (psn_set (i := 2) scRs.nd rfl (.inl rfl) (pen_call GD (hr.mono (by decide)) rfl mD kD pass0 (pan_cons (PE.up (pv 2)) (pan_cons (PE.up (pv 3)) pan_nil))))))
      (pssn_one (PS.up (ps_ret (pe_makeS M GI hr rfl CT.mgC pass0 (pv 2))))))), ?_⟩
    refine ⟨_, rfl, q, dy, _, rfl, hq, true, rfl, iteF ?_⟩
    refine ⟨_, rfl, p, D, dx, _, _, rfl, hp, CT.cl, CT.nR, rfl, ?_⟩
    refine ⟨_, rfl, q, dy, _, rfl, hq, q, dy, _, _, rfl, hq, rfl, S t, rfl, for_it (walk_str (z := S t)) (fun i σ H1 => ∃ b v, σ = [some (.ref p), some (.ref q), some (.ref b), v] ∧ Same H H1 ∧ SqT K H1 b (rowV (tilts h w (t.take i) g)))
      ⟨a, none, rfl, Same.refl H, hS⟩ (fun _ _ _ _ _ => True.intro) ?_ ?_⟩
    · rintro i x σ H1 H2 hi ⟨b, v, rfl, sm, hb⟩ ⟨rfl, c, hc, rfl⟩
      rw [S_at] at hc
      have et : tilts h w (t.take (i + 1)) g = TM.tilt h w (tilts h w (t.take i) g) c := by
        rw [List.take_add_one, hc]
        exact tilts_snoc _ _
      have G2 := VG.tilts (t.take i) G
      refine ⟨_, rfl, _, rfl, b, c, h, w, _, rfl, hb, G2.rc, G.n1, G.n8, G.m1, G.m8, fun H3 b3 sm3 hb3 => ?_⟩
      rw [et]
      exact ⟨b3, _, rfl, sm.trans sm3, hb3⟩
    · rintro σ H1 ⟨b, v, rfl, sm, hb⟩
      rw [S_size, List.take_length] at hb
      have G2 := VG.tilts t G
      refine ⟨_, rfl, b, _, rfl, .inl hb, fun x dx nx ndx nex => ?_⟩
      refine ⟨[.ref x], rowV (tilts h w t g), rfl, rfl, ?_, fun p hp => ?_⟩
      · have := G2.len
        rw [List.length_map]
        show _ ≤ 16777216
        omega
      have hpx : x ≠ p := fun z => by rw [← z, upd_same] at hp; cases hp
      refine ⟨x, dx, p, h, w, _, rfl, by rw [upd_ne hpx, upd_same], SqT.of upd_same, G2, fun H' ht kp => ⟨rfl, ?_⟩⟩
      refine k _ _ (sm.trans fun b o e => ?_) ht
      have hbx : b ≠ x := ne_of_none e nx
      have hbd : b ≠ dx := ne_of_none e ndx
      have e2 : (upd (upd H1 dx (.own x)) x (.ins D dx [])) b = some o := by rw [upd_ne hbx, upd_ne hbd]; exact e
      exact kp b o (by rw [upd_ne (ne_of_none e2 hp)]; exact e2) hbx
end
end TK
end
section
set_option Elab.async false
set_option maxRecDepth 100000
set_option linter.all false
namespace TK
open PySem L2 TM
structure TxtL (K : PySem.W.Frag) (mg : Str → Option Value) : Prop where
  int : mg "int" = none
  range : mg "range" = none
  min : mg "min" = none
/-- the script's list at a, where the drawing stands at r -/
def RowAt (K : PySem.W.Frag) (a : Addr) (ns : List Int) (H : Hp) (r : Addr) : Prop := ∃ i seed rest : Int, H r = some (.lst [.ref a, .int i, .int seed, .int rest]) ∧ 0 ≤ i ∧ SqL K H a (ns.map V.int)
def But (r : Addr) (H H' : Hp) : Prop := ∀ b o, H b = some o → b ≠ r → H' b = some o
theorem But.refl (r : Addr) (H : Hp) : But r H H := fun _ _ h _ => h
theorem But.trans {r : Addr} {H H1 H2 : Hp} (a : But r H H1) (b : But r H1 H2) : But r H H2 := fun c o h n => b c o (a c o h n) n
theorem But.same {r : Addr} {H H' : Hp} (s : Same H H') : But r H H' := fun b o h _ => s b o h
theorem RowAt.same {K : PySem.W.Frag} {a r : Addr} {ns : List Int} {H H' : Hp} (R : RowAt K a ns H r) (s : Same H H') : RowAt K a ns H' r := by
  obtain ⟨i, d, e, h, hi, q⟩ := R
  exact ⟨i, d, e, s _ _ h, hi, s.seq q⟩
theorem row_seq {K : PySem.W.Frag} {a r : Addr} {ns : List Int} {H : Hp} {i d e : Int} {o : HO} (h : H r = some (.lst [.ref a, .int i, .int d, .int e])) (q : SqL K H a (ns.map V.int)) : SqL K (upd H r o) a (ns.map V.int) := by
  have hne : ∀ {u : HO}, H a = some u → (∀ xs, u = .lst xs → xs ≠ [.ref a, .int i, .int d, .int e]) → a ≠ r := fun hu hn e' => by
    subst e'
    exact hn _ (Option.some.inj (hu.symm.trans h)) rfl
  rcases q with (q | ⟨u, q⟩) | q
  · refine .inl (.inl ?_)
    rw [upd_ne (hne q fun xs e => by
      cases e
      intro z
      cases ns with
      | nil => simp at z
      | cons n r => simp at z)]
    exact q
  · refine .inl (.inr ⟨u, ?_⟩)
    rw [upd_ne (hne q fun xs e => by cases e)]
    exact q
  · exact .inr q
theorem fmod_in {k m : Int} (h : 1 ≤ m) : 0 ≤ k.fmod m ∧ k.fmod m < m := by
  rw [Int.fmod_eq_emod_of_nonneg _ (by omega)]
  exact ⟨Int.emod_nonneg _ (by omega), Int.emod_lt_of_pos _ (by omega)⟩
section
variable {P : Program} {w : World} {K : PySem.W.Frag} {mg : Str → Option Value} {base : Heap}
theorem scTk : FnScope ["_law_row", "_law_many", "_law_found", "_law_cell"] ["_law_row", "_law_many"] (defScope sLawTaken) := ⟨rfl, rfl, rfl, by decide +kernel, rfl, by decide +kernel, by decide +kernel⟩
def spTk (K : PySem.W.Frag) (a : Addr) (ns : List Int) : Sp := fun vs H Q _ => ∃ (r : Addr) (m : Int), vs = [.ref r, .int m] ∧ RowAt K a ns H r ∧ 1 ≤ m ∧ m ≤ 1000000000 ∧ ∀ H' (k : Nat), (k : Int) < m → RowAt K a ns H' r → But r H H' → Q (.int k) H'
theorem ok_tk {a : Addr} {ns : List Int} {f : Addr} {fd : FuncData} (F : Fun K "_law_taken" "_law_taken" sLawTaken f fd) (T : TxtW K mg) (L : TxtL K mg) : FnOk P w K mg base CX0 1 f fd ["_law_row", "_law_many"] (spTk K a ns) := by
  refine F.ok scTk (fun vs H Q E h => ?_) (fun cdv A outer s H vs Q E hr h => ?_)
  · obtain ⟨r, m, rfl, _⟩ := h
    rfl
  · obtain ⟨r, m, rfl, ⟨i, d, e, hR, hi, hS⟩, m1, m2, k⟩ := h
    have nd := scTk.nd
    refine ⟨_, pss_cons (ps_if (pt_cmpR op_gt (pe_ix ix_list (pv 0) pe_int (fun _ _ => rfl)) pe_int (nomark _))
        (pss_cons (ps_set (i := 2) nd rfl (.inl rfl) (pe_op op_modN (pe_callTy call_int1 (by rfl) L.int (by decide +kernel) (pa_cons (pe_ix ix_list (pv 0) pe_int (fun _ _ => rfl)) pa_nil)) (pv 1)))
        (pss_cons (ps_asg (pe_op op_fdivN (pe_ix ix_list (pv 0) pe_int (fun _ _ => rfl)) (pv 1)) (pg_sub (pv 0) pe_int set_list))
        (pss_one (ps_ret (pv 2))))) pss_nil)
      (C8.pss_cut (ps_asg (pe_op op_add (pe_ix ix_list (pv 0) pe_int (fun _ _ => rfl)) pe_int) (pg_sub (pv 0) pe_int set_list))
      (pss_cons (ps_if (pt_cmpR op_gt (pe_ix ix_list (pv 0) pe_int (fun _ _ => rfl)) (pe_callB call_len_seq (by rfl) T.len PySem.boot_len (pa_cons (pe_ix ix_list (pv 0) pe_int (fun _ _ => rfl)) pa_nil)) (nomark _))
        (pss_cons (ps_asg (pe_op op_modN (pe_callTy call_int1 (by rfl) L.int (by decide +kernel) (pa_cons (pe_op op_add (pe_op op_mul (pe_ix ix_list (pv 0) pe_int (fun _ _ => rfl)) pe_int) pe_int) pa_nil)) pe_int) (pg_sub (pv 0) pe_int set_list))
        (pss_one (ps_ret (pe_op op_modN (pe_callTy call_int1 (by rfl) L.int (by decide +kernel) (pa_cons (pe_op op_fdivN (pe_ix ix_list (pv 0) pe_int (fun _ _ => rfl)) pe_int) pa_nil)) (pv 1))))) pss_nil)
      (pss_cons (ps_set (i := 3) nd rfl (.inl rfl) (pe_ix ix_list (pe_ix ix_list (pv 0) pe_int (fun _ _ => rfl)) (pe_op op_sub (pe_ix ix_list (pv 0) pe_int (fun _ _ => rfl)) pe_int) (fun _ _ => rfl)))
      (C8.pss_cut (ps_asg (pe_op op_modN (pe_callTy call_int1 (by rfl) L.int (by decide +kernel) (pa_cons (pe_op op_add (pe_op op_add (pe_op op_mul (pe_ix ix_list (pv 0) pe_int (fun _ _ => rfl)) pe_int) (pv 3)) pe_int) pa_nil)) pe_int) (pg_sub (pv 0) pe_int set_list))
      (C8.pss_cut (ps_if (pt_cmpR op_ge (pv 3) (pe_op op_pow pe_int pe_int) (nomark _)) (pss_one (ps_asg (pe_op op_fdivN (pv 3) (pv 1)) (pg_sub (pv 0) pe_int set_list))) pss_nil)
      (pss_one (ps_ret (pe_op op_modN (pe_callTy call_int1 (by rfl) L.int (by decide +kernel) (pa_cons (pv 3) pa_nil)) (pv 1))))))))), ?_⟩
    have m0 : m ≠ 0 := by omega
    have mb : m ≠ 0 ∧ m.natAbs < 1073741824 := ⟨m0, by omega⟩
    have row : ∀ {H1 : Hp} {i d e : Int}, H1 r = some (.lst [.ref a, .int i, .int d, .int e]) → 0 ≤ i → SqL K H1 a (ns.map V.int) → RowAt K a ns H1 r := fun h1 h2 h3 => ⟨_, _, _, h1, h2, h3⟩
    have but : ∀ {H1 : Hp} {o : HO}, But r H H1 → But r H (upd H1 r o) := fun b c o h n => by rw [upd_ne n]; exact b c o h n
    refine ⟨_, rfl, r, _, _, _, rfl, rfl, SqL.of hR, rfl, _, _, rfl, rfl, _, rfl, ?_⟩
    by_cases he : e > 0
    · rw [decide_eq_true he]
      refine iteT ⟨_, rfl, r, _, _, _, rfl, rfl, SqL.of hR, rfl, .inl ⟨_, rfl, _, rfl, _, _, rfl, rfl, m0, ?_⟩⟩
      refine ⟨_, rfl, r, _, _, _, rfl, rfl, SqL.of hR, rfl, _, rfl, _, _, rfl, rfl, mb, _, rfl, r, _, _, 3, rfl, rfl, hR, rfl, ?_⟩
      refine ⟨_, rfl, ?_⟩
      have hk := fmod_in (k := e) m1
      have := k (upd H r (.lst [.ref a, .int i, .int d, .int (e.fdiv m)])) (e.fmod m).toNat (by omega) (row upd_same hi (row_seq hR hS)) (but (But.refl r H))
      rw [Int.toNat_of_nonneg hk.1] at this
      exact this
    · rw [decide_eq_false he]
      refine iteF ?_
      refine ⟨fun σ H1 => σ = [some (.ref r), some (.int m), none, none] ∧ H1 r = some (.lst [.ref a, .int (i + 1), .int d, .int e]) ∧ SqL K H1 a (ns.map V.int) ∧ But r H H1, ?_, ?_⟩
      · refine ⟨_, rfl, r, _, _, _, rfl, rfl, SqL.of hR, rfl, _, _, rfl, rfl, _, rfl, r, _, _, 1, rfl, rfl, hR, rfl, ?_⟩
        exact ⟨rfl, upd_same, row_seq hR hS, but (But.refl r H)⟩
      rintro σ H1 ⟨rfl, hR1, hS1, b1⟩
      refine ⟨_, rfl, r, _, _, _, rfl, rfl, SqL.of hR1, rfl, _, rfl, r, _, _, _, rfl, rfl, SqL.of hR1, rfl, a, _, rfl, .inl hS1, _, _, rfl, rfl, _, rfl, ?_⟩
      rw [List.length_map]
      by_cases hl : i + 1 > (ns.length : Int)
      · rw [decide_eq_true hl]
        refine iteT ⟨_, rfl, r, _, _, _, rfl, rfl, SqL.of hR1, rfl, _, _, rfl, rfl, .inr (by decide), _, _, rfl, rfl, .inl ⟨_, rfl, _, _, rfl, rfl, (by show (2147483647 : Int) ≠ 0; decide), _, rfl, r, _, _, 2, rfl, rfl, hR1, rfl, ?_⟩⟩
        refine ⟨_, rfl, r, _, _, _, rfl, rfl, SqL.of upd_same, rfl, _, _, rfl, rfl, (by show (7 : Int) ≠ 0 ∧ (7 : Int).natAbs < 1073741824; decide), .inl ⟨_, rfl, _, rfl, _, _, rfl, rfl, m0, ?_⟩⟩
        have hk := fmod_in (k := ((d * 48271 + 11).fmod 2147483647).fdiv 7) m1
        have := k (upd H1 r (.lst [.ref a, .int (i + 1), .int ((d * 48271 + 11).fmod 2147483647), .int e])) (((d * 48271 + 11).fmod 2147483647).fdiv 7 |>.fmod m).toNat (by omega) (row upd_same (by omega) (row_seq hR1 hS1)) (but b1)
        rw [Int.toNat_of_nonneg hk.1] at this
        exact this
      · rw [decide_eq_false hl]
        refine iteF ?_
        obtain ⟨c, hc⟩ : ∃ c, ns[i.toNat]? = some c := ⟨_, List.getElem?_eq_getElem (by omega)⟩
        refine ⟨_, rfl, r, _, _, _, rfl, rfl, SqL.of hR1, rfl, _, rfl, r, _, _, _, rfl, rfl, SqL.of hR1, rfl, _, _, rfl, rfl, a, _, _, .int c, rfl, rfl, hS1, ?_, ?_⟩
        · rw [show i + 1 - 1 = ((i.toNat : Nat) : Int) by omega]
          exact atI_nat (by rw [List.getElem?_map, hc]; all_goals rfl)
        refine ⟨fun σ H2 => ∃ d' : Int, σ = [some (.ref r), some (.int m), none, some (.int c)] ∧ H2 r = some (.lst [.ref a, .int (i + 1), .int d', .int e]) ∧ SqL K H2 a (ns.map V.int) ∧ But r H H2, ?_, ?_⟩
        · refine ⟨_, rfl, r, _, _, _, rfl, rfl, SqL.of hR1, rfl, _, _, rfl, rfl, .inr (by decide), _, rfl, _, _, rfl, rfl, _, _, rfl, rfl, .inl ⟨_, rfl, _, _, rfl, rfl, (by show (2147483647 : Int) ≠ 0; decide), _, rfl, r, _, _, 2, rfl, rfl, hR1, rfl, ?_⟩⟩
          exact ⟨_, rfl, upd_same, row_seq hR1 hS1, but b1⟩
        rintro σ H2 ⟨d', rfl, hR2, hS2, b2⟩
        refine ⟨fun σ H3 => ∃ e' : Int, σ = [some (.ref r), some (.int m), none, some (.int c)] ∧ H3 r = some (.lst [.ref a, .int (i + 1), .int d', .int e']) ∧ SqL K H3 a (ns.map V.int) ∧ But r H H3, ?_, ?_⟩
        · refine ⟨_, rfl, _, _, rfl, rfl, ⟨by decide, by decide, by decide⟩, _, _, rfl, rfl, _, rfl, ?_⟩
          refine ite2 (fun _ => ?_) fun _ => ?_
          · refine ⟨_, rfl, _, rfl, _, _, rfl, rfl, mb, _, rfl, r, _, _, 3, rfl, rfl, hR2, rfl, ?_⟩
            exact ⟨_, rfl, upd_same, row_seq hR2 hS2, but b2⟩
          · exact ⟨e, rfl, hR2, hS2, b2⟩
        rintro σ H3 ⟨e', rfl, hR3, hS3, b3⟩
        refine ⟨_, rfl, .inl ⟨_, rfl, _, rfl, _, _, rfl, rfl, m0, ?_⟩⟩
        have hk := fmod_in (k := c) m1
        have := k H3 (c.fmod m).toNat (by omega) (row hR3 (by omega) hS3) b3
        rw [Int.toNat_of_nonneg hk.1] at this
        exact this
end
end TK
end
section
set_option Elab.async false
set_option maxRecDepth 100000
set_option linter.all false
namespace TK
open PySem L2 TM
/-- the letters of a way -/
def lets (k : Nat) : List Nat := match k with
  | 0 => [108, 114, 117, 100]
  | 1 => [108, 117]
  | 2 => [114, 100, 108, 117]
  | _ => [108, 114]
theorem lets_ok : ∀ k, ∀ c ∈ lets k, isT c = true
  | 0 => by decide
  | 1 => by decide
  | 2 => by decide
  | _ + 3 => by show ∀ c ∈ [108, 114], isT c = true; decide
theorem lets_1 : ∀ k, 1 ≤ (lets k).length ∧ (lets k).length ≤ 4
  | 0 => by decide
  | 1 => by decide
  | 2 => by decide
  | _ + 3 => ⟨(by show 1 ≤ 2; decide), (by show 2 ≤ 4; decide)⟩
theorem way_text {k : Nat} (h : k < 4) : ([V.str (S [108, 114, 117, 100]), V.str (S [108, 117]), V.str (S [114, 100, 108, 117]), V.str (S [108, 114])] : List V)[k]? = some (.str (S (lets k))) := by
  match k, h with
  | 0, _ => rfl
  | 1, _ => rfl
  | 2, _ => rfl
  | 3, _ => rfl
theorem way_len {k : Nat} (h : k < 4) : ([V.int 4, V.int 2, V.int 4, V.int 2] : List V)[k]? = some (.int ((lets k).length : Nat)) := by
  match k, h with
  | 0, _ => rfl
  | 1, _ => rfl
  | 2, _ => rfl
  | 3, _ => rfl
section
variable {P : Program} {w : World} {K : PySem.W.Frag} {mg : Str → Option Value} {base : Heap} {a : Addr} {ns : List Int} {fT : Addr} {fdT : FuncData}
abbrev NTx : List Str := ["_law_row", "_law_most", "_law_text_here", "_law_way", "_law_k"]
theorem scTx : FnScope NTx ["_law_row", "_law_most"] (defScope sLawText) := ⟨rfl, rfl, rfl, by decide +kernel, rfl, by decide +kernel, by decide +kernel⟩
def spTx (K : PySem.W.Frag) (a : Addr) (ns : List Int) : Sp := fun vs H Q _ => ∃ (r : Addr) (m : Nat), vs = [.ref r, .int m] ∧ RowAt K a ns H r ∧ m ≤ 60 ∧ ∀ H' t, Good t → t.length ≤ m → RowAt K a ns H' r → But r H H' → Q (.str (S t)) H'
theorem ok_tx {f : Addr} {fd : FuncData} (F : Fun K "_law_text" "_law_text" sLawText f fd) (L : TxtL K mg) (GT : FnOk P w K mg base CX0 1 fT fdT ["_law_row", "_law_many"] (spTk K a ns)) (kT : PySem.W.keepIn K (.ref fT) = true) (bT : Binds K fdT ["_law_row", "_law_many"] []) (mT : mg "_law_taken" = some (.ref fT)) :
    FnOk P w K mg base CX0 2 f fd ["_law_row", "_law_most"] (spTx K a ns) := by
  refine F.ok scTx (fun vs H Q E h => ?_) (fun cdv A outer s H vs Q E hr h => ?_)
  · obtain ⟨r, m, rfl, _⟩ := h
    rfl
  · obtain ⟨r, m, rfl, hR, hm, k⟩ := h
    have nd := scTx.nd
    refine ⟨_, pss_cons (ps_par (i := 2) (j := 3) rfl nd rfl rfl (by decide) rfl rfl (pa_cons pe_str (pa_cons (pe_call GT hr rfl mT kT bT .nil pass0 (pa_cons (pv 0) (pa_cons pe_int pa_nil))) pa_nil)) (by rfl))
      (pss_cons (ps_for PassesOwn.never rfl (pi_range1 (by rfl) L.range (pa_cons (pe_call GT hr rfl mT kT bT .nil pass0 (pa_cons (pv 0) (pa_cons (pe_op op_add (pv 1) pe_int) pa_nil))) pa_nil)) (pg_name (i := 4) nd rfl (.inl rfl))
        (pss_one (ps_set (i := 2) nd rfl (.inl rfl) (pe_op op_add_str (pv 2)
          (pe_ix ix_str (pe_ix ix_list (pe_lst (pa_cons pe_str (pa_cons pe_str (pa_cons pe_str (pa_cons pe_str pa_nil))))) (pv 3) (fun _ _ => rfl))
            (pe_call GT hr rfl mT kT bT .nil pass0 (pa_cons (pv 0) (pa_cons (pe_ix ix_list (pe_lst (pa_cons pe_int (pa_cons pe_int (pa_cons pe_int (pa_cons pe_int pa_nil))))) (pv 3) (fun _ _ => rfl)) pa_nil))) (fun _ _ => rfl))))))
      (pss_one (ps_ret (pv 2)))), ?_⟩
    refine ⟨_, rfl, r, 4, rfl, hR, by decide, by decide, fun H1 way hw R1 b1 => ?_⟩
    refine ⟨_, _, rfl, ?_⟩
    refine ⟨_, rfl, _, rfl, _, _, rfl, rfl, r, (m : Int) + 1, rfl, R1, by omega, by omega, fun H2 j hj R2 b2 => ?_⟩
    refine ⟨(j : Int), rfl, by omega, by omega, for_range (lo := 0) (n := (j : Int).toNat) (fun i σ H3 => ∃ t v, σ = [some (.ref r), some (.int m), some (.str (S t)), some (.int way), v] ∧ t.length = i ∧ (∀ c ∈ t, isT c = true) ∧ RowAt K a ns H3 r ∧ But r H H3)
      ⟨[], none, rfl, rfl, by simp, R2, b1.trans b2⟩ ?_ ?_⟩
    · rintro i σ H3 hi ⟨t, v, rfl, ht, hg, R3, b3⟩
      have hw4 : way < 4 := by omega
      refine ⟨_, rfl, (by show 4 ≤ sizeLine; decide), fun p hp => ?_⟩
      have sm : Same H3 (upd H3 p (.lst [V.str (S [108, 114, 117, 100]), V.str (S [108, 117]), V.str (S [114, 100, 108, 117]), V.str (S [108, 114])])) := same_new hp
      refine ⟨_, rfl, p, _, _, _, rfl, rfl, SqL.of upd_same, atI_nat (way_text hw4), ?_⟩
      refine ⟨_, rfl, (by show 4 ≤ sizeLine; decide), fun q hq => ?_⟩
      refine ⟨_, rfl, q, _, _, _, rfl, rfl, SqL.of upd_same, atI_nat (way_len hw4), ?_⟩
      have R4 := (R3.same sm).same (same_new (o := .lst [V.int 4, V.int 2, V.int 4, V.int 2]) hq)
      refine ⟨r, _, rfl, R4, ?_, ?_, fun H5 d hd R5 b5 => ?_⟩
      · have := (lets_1 way).1; omega
      · have := (lets_1 way).2; omega
      have hd' : d < (lets way).length := by omega
      obtain ⟨c, hc⟩ : ∃ c, (lets way)[d]? = some c := ⟨_, List.getElem?_eq_getElem hd'⟩
      have h4 := (lets_1 way).2
      refine ⟨S (lets way), (d : Int), c, rfl, rfl, ?_, ?_, ?_⟩
      · rw [S_len]
        show _ ≤ 16777216
        omega
      · rw [S_list]
        exact atI_nat hc
      refine ⟨_, _, rfl, rfl, ?_, ?_⟩
      · rw [S_len, ht]
        show i + 1 ≤ 16777216
        omega
      refine ⟨t ++ [c], some (.int (0 + (i : Int))), ?_, ?_, ?_, R5, ?_⟩
      · rw [← show S t ++ ⟨#[c]⟩ = S (t ++ [c]) from SX.S_cat t [c]]
        rfl
      · simp [ht]
      · intro x hx
        rcases List.mem_append.mp hx with hx | hx
        · exact hg x hx
        · rw [List.mem_singleton.mp hx]
          exact lets_ok way c (List.mem_of_getElem? hc)
      · exact ((b3.trans (.same sm)).trans (.same (same_new hq))).trans b5
    · rintro σ H3 ⟨t, v, rfl, ht, hg, R3, b3⟩
      exact ⟨_, rfl, k _ t ⟨by omega, hg⟩ (by omega) R3 b3⟩
end
end TK
end
section
set_option Elab.async false
set_option maxRecDepth 100000
set_option linter.all false
namespace TK
open PySem L2 TM
abbrev intV (l : List Nat) : List V := l.map fun j => V.int (j : Nat)
theorem range_snoc {p : Nat → Bool} (i : Nat) : (List.range (i + 1)).filter p = (List.range i).filter p ++ (if p i then [i] else []) := by
  rw [List.range_succ, List.filter_append]
  congr 1
  by_cases h : p i <;> simp [h]
section
variable {P : Program} {w : World} {K : PySem.W.Frag} {mg : Str → Option Value} {base : Heap}
end
end TK
end
section
set_option Elab.async false
set_option maxRecDepth 100000
set_option linter.all false
namespace TK
open PySem L2 TM
/-- the cells in rows of w -/
def chunk (h w : Nat) (cs : List Nat) : Grid := (List.range h).map fun i => (cs.drop (i * w)).take w
theorem chunk_flat (w : Nat) (cs : List Nat) : ∀ h, (chunk h w cs).flatten = cs.take (h * w)
  | 0 => by simp [chunk]
  | h + 1 => by
    have ih := chunk_flat w cs h
    unfold chunk at ih ⊢
    rw [List.range_succ, List.map_append, List.flatten_append, ih, List.map_singleton, List.flatten_cons, List.flatten_nil, List.append_nil, Nat.succ_mul]
    exact (List.take_add).symm
theorem chunk_rect {h w : Nat} {cs : List Nat} (hl : cs.length = h * w) : Rect h w (chunk h w cs) := by
  refine ⟨by simp [chunk], fun r hr => ?_⟩
  obtain ⟨i, hi, rfl⟩ := List.mem_map.mp hr
  have hi := List.mem_range.mp hi
  rw [List.length_take, List.length_drop, hl]
  have : (i + 1) * w ≤ h * w := Nat.mul_le_mul_right _ hi
  rw [Nat.succ_mul] at this
  omega
/-- k marbles lie, a, b, .. of them -/
structure Lay (k : Nat) (cs : List Nat) : Prop where
  len : (mb cs).length = k
  nd : (mb cs).Nodup
  ab : ∀ c ∈ mb cs, 97 ≤ c ∧ c < 97 + k
theorem Lay.none (n : Nat) : Lay 0 (List.replicate n 46) := by
  have e : mb (List.replicate n 46) = [] := mb_dots n
  exact ⟨by rw [e]; rfl, by rw [e]; exact List.nodup_nil, by rw [e]; intro c hc; cases hc⟩
theorem Lay.cell {k : Nat} {cs : List Nat} (L : Lay k cs) (hk : k ≤ 26) : ∀ c ∈ cs, Cell c := fun c hc => by
  by_cases h : c = 46
  · exact .inl h
  · have := L.ab c (List.mem_filter.mpr ⟨hc, by simp [h]⟩)
    exact .inr ⟨this.1, by omega⟩
theorem Lay.put {k p : Nat} {cs : List Nat} (L : Lay k cs) (hp : cs[p]? = some 46) : Lay (k + 1) (cs.set p (97 + k)) := by
  have hi := (List.getElem?_eq_some_iff.mp hp).1
  have e1 : cs = cs.take p ++ 46 :: cs.drop (p + 1) := by
    have := (List.getElem?_eq_some_iff.mp hp).2
    rw [← this]
    simp
  have e2 : cs.set p (97 + k) = cs.take p ++ (97 + k) :: cs.drop (p + 1) := List.set_eq_take_append_cons_drop ▸ by rw [if_pos hi]
  have m1 : mb cs = mb (cs.take p) ++ mb (cs.drop (p + 1)) := by
    conv => lhs; rw [e1, mb_app]
    simp [mb]
  have m2 : mb (cs.set p (97 + k)) = mb (cs.take p) ++ (97 + k) :: mb (cs.drop (p + 1)) := by
    rw [e2, mb_app]
    have : (97 + k != 46) = true := by simp; omega
    simp [mb, this]
  have pm : (mb (cs.set p (97 + k))).Perm ((97 + k) :: mb cs) := by
    rw [m1, m2]
    exact List.perm_middle
  have fresh : 97 + k ∉ mb cs := fun h => by
    have := L.ab _ h
    omega
  refine ⟨by rw [pm.length_eq, List.length_cons, L.len], pm.nodup_iff.mpr (List.nodup_cons.mpr ⟨fresh, L.nd⟩), fun c hc => ?_⟩
  rcases List.mem_cons.mp (pm.mem_iff.mp hc) with e | e
  · subst e; omega
  · have := L.ab c e
    omega
/-- the free places -/
def frees (cs : List Nat) (n : Nat) : List Nat := (List.range n).filter fun j => cs.getD j 0 == 46
theorem frees_le (cs : List Nat) (n : Nat) : (frees cs n).length ≤ n := by
  have := List.length_filter_le (fun j => cs.getD j 0 == 46) (List.range n)
  rw [List.length_range] at this
  exact this
theorem frees_at {cs : List Nat} {d p : Nat} (h : (frees cs cs.length)[d]? = some p) : cs[p]? = some 46 := by
  have hm := List.mem_filter.mp (List.mem_of_getElem? h)
  have hp := List.mem_range.mp hm.1
  have h2 := hm.2
  rw [List.getD_eq_getElem?_getD, List.getElem?_eq_getElem hp] at h2
  rw [List.getElem?_eq_getElem hp]
  simpa using h2
theorem frees_pos {k : Nat} {cs : List Nat} (L : Lay k cs) (hk : k < cs.length) : 0 < (frees cs cs.length).length := by
  refine Nat.pos_of_ne_zero fun h0 => ?_
  have e : frees cs cs.length = [] := List.length_eq_zero_iff.mp h0
  have all : ∀ c ∈ cs, (c != 46) = true := fun c hc => by
    obtain ⟨j, hj, rfl⟩ := List.mem_iff_getElem.mp hc
    by_cases q : cs[j] = 46
    · have : j ∈ frees cs cs.length := List.mem_filter.mpr ⟨List.mem_range.mpr hj, by rw [List.getD_eq_getElem?_getD, List.getElem?_eq_getElem hj]; simp [q]⟩
      rw [e] at this
      cases this
    · simp [q]
  have : mb cs = cs := List.filter_eq_self.mpr all
  have := L.len
  rw [‹mb cs = cs›] at this
  omega
theorem lay_VG {h w k : Nat} {cs : List Nat} (L : Lay k cs) (hk : k ≤ 26) (hl : cs.length = h * w) (h1 : 1 ≤ h) (h8 : h ≤ 8) (w1 : 1 ≤ w) (w8 : w ≤ 8) : VG h w (chunk h w cs) := by
  have ef : (chunk h w cs).flatten = cs := by rw [chunk_flat, ← hl, List.take_length]
  refine ⟨chunk_rect hl, h1, h8, w1, w8, fun r hr c hc => ?_, by rw [ef]; exact L.nd⟩
  exact L.cell hk c (by rw [← ef]; exact List.mem_flatten.mpr ⟨r, hr, hc⟩)
end TK
end
section
set_option Elab.async false
set_option maxRecDepth 100000
set_option linter.all false
namespace TK
open PySem L2 TM
theorem ix_listK {X : Cx} {K : PySem.W.Frag} (h : X.K = K) : IxR X (rIxL K) := by
  subst h
  exact ix_list
theorem sl_listK {X : Cx} {K : PySem.W.Frag} (h : X.K = K) : SlR X (rSlL K) := by
  subst h
  exact sl_list
theorem but_put {r l : Addr} {H0 H : Hp} {o : HO} (b : But r H0 H) (h : H0 l = none) : But r H0 (upd H l o) := fun c u e n => by
  rw [upd_ne (ne_of_none e h)]
  exact b c u e n
theorem but_none {r l : Addr} {H0 H : Hp} {x : HO} (b : But r H0 H) (hr : H r = some x) (h : H l = none) : H0 l = none := by
  cases e : H0 l with
  | none => rfl
  | some o =>
    have := b l o e (fun q => by subst q; rw [hr] at h; cases h)
    rw [h] at this
    cases this
theorem RowAt.ne {K : PySem.W.Frag} {a r l : Addr} {ns : List Int} {H : Hp} (R : RowAt K a ns H r) (h : H l = none) : l ≠ r := by
  obtain ⟨_, _, _, e, _⟩ := R
  exact (ne_of_none e h).symm
theorem RowAt.none {K : PySem.W.Frag} {a r l : Addr} {ns : List Int} {H0 H : Hp} (R : RowAt K a ns H r) (b : But r H0 H) (h : H l = none) : H0 l = none := by
  obtain ⟨_, _, _, e, _⟩ := R
  exact but_none b e h
/-- a store at a list that is not the drawing's -/
theorem RowAt.put {K : PySem.W.Frag} {a r l : Addr} {ns : List Int} {H : Hp} {xs ys : List V} (R : RowAt K a ns H r) (hl : H l = some (.lst xs)) (hn : l ≠ r) (hs : ∃ c t, xs = sg c :: t) : RowAt K a ns (upd H l (.lst ys)) r := by
  obtain ⟨i, d, e, h, hi, q⟩ := R
  refine ⟨i, d, e, by rw [upd_ne hn.symm]; exact h, hi, ?_⟩
  obtain ⟨c, t, rfl⟩ := hs
  rcases q with (q | ⟨u, q⟩) | q
  · refine .inl (.inl ?_)
    rw [upd_ne (fun e' => by
      subst e'
      have := Option.some.inj (q.symm.trans hl)
      cases ns with
      | nil => cases this
      | cons n r => cases this)]
    exact q
  · refine .inl (.inr ⟨u, ?_⟩)
    rw [upd_ne (fun e' => by
      subst e'
      have := Option.some.inj (q.symm.trans hl)
      cases this)]
    exact q
  · exact .inr q
def side (k : Nat) : Nat := match k with
  | 0 => 3
  | 1 => 5
  | _ => 8
theorem side_at {k : Nat} (h : k < 3) : ([V.int 3, V.int 5, V.int 8] : List V)[k]? = some (.int (side k : Nat)) := by
  match k, h with
  | 0, _ => rfl
  | 1, _ => rfl
  | 2, _ => rfl
theorem side_1 : ∀ k, 1 ≤ side k ∧ side k ≤ 8
  | 0 => by decide
  | 1 => by decide
  | _ + 2 => by show 1 ≤ 8 ∧ 8 ≤ 8; decide
theorem rep_dots (k : Nat) : (List.replicate k [V.str (S [46])]).flatten = (List.replicate k 46).map sg := by
  induction k with
  | zero => rfl
  | succ k ih =>
    rw [List.replicate_succ, List.flatten_cons, ih, List.replicate_succ, List.map_cons]
    rfl
section
variable {P : Program} {w : World} {K : PySem.W.Frag} {mg : Str → Option Value} {base : Heap} {a : Addr} {ns : List Int} {fT : Addr} {fdT : FuncData}
abbrev NRw : List Str := ["_law_row", "_law_most", "_law_height", "_law_width", "_law_cells", "_law_names", "_law_k", "_law_free", "_law_place"]
theorem scRw : FnScope NRw ["_law_row", "_law_most"] (defScope sLawRows) := ⟨rfl, rfl, rfl, by decide +kernel, rfl, by decide +kernel, by decide +kernel⟩
def spRw (K : PySem.W.Frag) (a : Addr) (ns : List Int) : Sp := fun vs H Q _ => ∃ (r : Addr) (m : Nat), vs = [.ref r, .int m] ∧ RowAt K a ns H r ∧ m ≤ 26 ∧ ∀ H' l h w g, VG h w g → H' l = some (.lst (rowV g)) → RowAt K a ns H' r → But r H H' → Q (.ref l) H'
/-- .. and the marbles are the first m at most -/
def spRwN (K : PySem.W.Frag) (a : Addr) (ns : List Int) : Sp := fun vs H Q _ => ∃ (r : Addr) (m : Nat), vs = [.ref r, .int m] ∧ RowAt K a ns H r ∧ m ≤ 26 ∧ ∀ H' l h w g, VG h w g → (∀ c ∈ mb g.flatten, c < 97 + m) → H' l = some (.lst (rowV g)) → RowAt K a ns H' r → But r H H' → Q (.ref l) H'
theorem ok_rwN {f : Addr} {fd : FuncData} (F : Fun K "_law_rows" "_law_rows" sLawRows f fd) (T : TxtW K mg) (L : TxtL K mg) (GT : FnOk P w K mg base CX0 1 fT fdT ["_law_row", "_law_many"] (spTk K a ns)) (kT : PySem.W.keepIn K (.ref fT) = true) (bT : Binds K fdT ["_law_row", "_law_many"] []) (mT : mg "_law_taken" = some (.ref fT)) :
    FnOk P w K mg base CX0 2 f fd ["_law_row", "_law_most"] (spRwN K a ns) := by
  refine F.ok scRw (fun vs H Q E h => ?_) (fun cdv A outer s H vs Q E hr h => ?_)
  · obtain ⟨r, m, rfl, _⟩ := h
    rfl
  · obtain ⟨r, m, rfl, hR, hm, k⟩ := h
    have nd := scRw.nd
    refine ⟨_, C8.pss_cut (ps_set (i := 2) nd rfl (.inl rfl) (pe_op op_add pe_int (pe_call GT hr rfl mT kT bT .nil pass0 (pa_cons (pv 0) (pa_cons (pe_ix ix_list (pe_lst (pa_cons pe_int (pa_cons pe_int (pa_cons pe_int pa_nil)))) (pe_call GT hr rfl mT kT bT .nil pass0 (pa_cons (pv 0) (pa_cons pe_int pa_nil))) (fun _ _ => rfl)) pa_nil)))))
      (C8.pss_cut (ps_set (i := 3) nd rfl (.inr rfl) (pe_op op_add pe_int (pe_call GT hr rfl mT kT bT .nil pass0 (pa_cons (pv 0) (pa_cons (pe_ix ix_list (pe_lst (pa_cons pe_int (pa_cons pe_int (pa_cons pe_int pa_nil)))) (pe_call GT hr rfl mT kT bT .nil pass0 (pa_cons (pv 0) (pa_cons pe_int pa_nil))) (fun _ _ => rfl)) pa_nil)))))
      (C8.pss_cut (ps_set (i := 4) nd rfl (.inr rfl) (pe_op op_rep (pe_lst (pa_cons pe_str pa_nil)) (pe_op op_mul (pv 2) (pv 3))))
      (pss_cons (ps_set (i := 5) nd rfl (.inl rfl) pe_str)
      (pss_cons (ps_for PassesOwn.never rfl (pi_range1 (by rfl) L.range (pa_cons (pe_callB (call_min2 rfl) (by rfl) L.min (by decide +kernel) (pa_cons (pe_op op_mul (pv 2) (pv 3)) (pa_cons (pe_call GT hr rfl mT kT bT .nil pass0 (pa_cons (pv 0) (pa_cons (pe_op op_add (pv 1) pe_int) pa_nil))) pa_nil))) pa_nil)) (pg_name (i := 6) nd rfl (.inl rfl))
        (C8.pss_cut (ps_setLc (i := 7) (own := [("_law_place", 8)]) (g := gName 8) rfl nd rfl rfl (sw_true rfl rfl rfl (by decide +kernel)) (pi_range1 (by rfl) L.range (pa_cons (pe_op op_mul (pv 2) (pv 3)) pa_nil)) (blkOk_by (N := NRw) (sc := defScope sLawRows) (by decide +kernel)) (fun _ _ _ _ _ => pg_name (i := 8) nd rfl (.inl rfl))
            (fun _ _ _ _ _ => pts_one (pt_cmpR op_eq (pe_ix (ix_listK (K := K) rfl) (pv 4) (pv 8) (fun _ _ => rfl)) pe_str (nomark _))) (fun _ _ _ _ _ => pv 8))
        (pss_one (ps_asg (pe_ix ix_str (pv 5) (pv 6) (fun _ _ => rfl)) (pg_sub (pv 4) (pe_ix ix_list (pv 7) (pe_call GT hr rfl mT kT bT .nil pass0 (pa_cons (pv 0) (pa_cons (pe_callB call_len_seq (by rfl) T.len PySem.boot_len (pa_cons (pv 7) pa_nil)) pa_nil))) (fun _ _ => rfl)) set_list)))))
      (pss_one (ps_ret (pe_lc (own := [("_law_k", 6)]) (g := gName 6) (tt := tYes) rfl nd (pi_range1 (by rfl) L.range (pa_cons (pv 2) pa_nil)) (blkOk_by (N := NRw) (sc := defScope sLawRows) (by decide +kernel)) (fun _ _ _ _ _ => pg_name (i := 6) nd rfl (.inl rfl)) (fun _ _ _ _ _ => pts_nil)
        (fun _ _ _ _ _ => pe_joinK (K := K) rfl pe_str (pe_slice (sl_listK (K := K) rfl) (pv 4) (po_some (pe_op op_mul (pv 6) (pv 3))) (po_some (pe_op op_add (pe_op op_mul (pv 6) (pv 3)) (pv 3)))))))))))), ?_⟩
    refine ⟨fun σ H1 => ∃ h : Nat, σ = [some (.ref r), some (.int m), some (.int h), none, none, none, none, none, none] ∧ 1 ≤ h ∧ h ≤ 8 ∧ RowAt K a ns H1 r ∧ But r H H1, ?_, ?_⟩
    · refine ⟨_, rfl, (by show 3 ≤ sizeLine; decide), fun p hp => ⟨_, rfl, r, 3, rfl, hR.same (same_new hp), by decide, by decide, fun HA d hd RA bA => ?_⟩⟩
      have hd3 : d < 3 := by omega
      have s1 := side_1 d
      refine ⟨p, _, _, _, rfl, rfl, SqL.of (bA p _ upd_same (hR.ne hp)), atI_nat (side_at hd3), r, _, rfl, RA, by omega, by omega, fun HB e he RB bB => ?_⟩
      exact ⟨_, _, rfl, rfl, e + 1, by rw [show ((e + 1 : Nat) : Int) = 1 + (e : Int) by omega]; rfl, by omega, by omega, RB, (((But.refl r H).trans (.same (same_new hp))).trans bA).trans bB⟩
    rintro σ H1 ⟨h, rfl, h1, h8, R1, b1⟩
    refine ⟨fun σ H2 => ∃ w : Nat, σ = [some (.ref r), some (.int m), some (.int h), some (.int w), none, none, none, none, none] ∧ 1 ≤ w ∧ w ≤ 8 ∧ RowAt K a ns H2 r ∧ But r H H2, ?_, ?_⟩
    · refine ⟨_, rfl, (by show 3 ≤ sizeLine; decide), fun p hp => ⟨_, rfl, r, 3, rfl, R1.same (same_new hp), by decide, by decide, fun HA d hd RA bA => ?_⟩⟩
      have hd3 : d < 3 := by omega
      have s1 := side_1 d
      refine ⟨p, _, _, _, rfl, rfl, SqL.of (bA p _ upd_same (R1.ne hp)), atI_nat (side_at hd3), r, _, rfl, RA, by omega, by omega, fun HB e he RB bB => ?_⟩
      exact ⟨_, _, rfl, rfl, e + 1, by rw [show ((e + 1 : Nat) : Int) = 1 + (e : Int) by omega]; rfl, by omega, by omega, RB, ((b1.trans (.same (same_new hp))).trans bA).trans bB⟩
    rintro σ H2 ⟨w, rfl, w1, w8, R2, b2⟩
    have hw : h * w ≤ 64 := Nat.mul_le_mul h8 w8
    have hw1 : 1 ≤ h * w := Nat.mul_le_mul h1 w1
    have ehw : (h : Int) * (w : Int) = ((h * w : Nat) : Int) := by simp
    have bh : ((-(2 ^ 64) < (h : Int) ∧ (h : Int) < 2 ^ 64) ∨ (-(2 ^ 64) < (w : Int) ∧ (w : Int) < 2 ^ 64)) := .inl ⟨by omega, by omega⟩
    refine ⟨fun σ H3 => ∃ l, σ = [some (.ref r), some (.int m), some (.int h), some (.int w), some (.ref l), none, none, none, none] ∧ H l = none ∧ l ≠ r ∧ H3 l = some (.lst ((List.replicate (h * w) 46).map sg)) ∧ RowAt K a ns H3 r ∧ But r H H3, ?_, ?_⟩
    · refine ⟨(by show 1 ≤ sizeLine; decide), fun p hp => ⟨_, rfl, _, rfl, _, _, rfl, rfl, bh, ?_⟩⟩
      refine ⟨p, ((h * w : Nat) : Int), _, rfl, congrArg V.int ehw, upd_same, by omega, by omega, ?_, fun q hq => ?_⟩
      · show 1 * ((h * w : Nat) : Int).toNat ≤ 16777216
        rw [Int.toNat_natCast]
        omega
      · rw [Int.toNat_natCast]
        have R3 := R2.same (same_new (o := .lst [V.str (S [46])]) hp)
        have b3 := b2.trans (.same (same_new (o := .lst [V.str (S [46])]) hp))
        refine ⟨q, rfl, R3.none b3 hq, R3.ne hq, ?_, R3.same (same_new hq), b3.trans (.same (same_new hq))⟩
        rw [upd_same, ← rep_dots]
        rfl
    rintro σ H3 ⟨l, rfl, hl0, hlr, hL, R3, b3⟩
    refine ⟨_, rfl, _, rfl, _, _, rfl, rfl, bh, _, rfl, _, rfl, _, _, rfl, rfl, r, (m : Int) + 1, rfl, R3, by omega, by omega, fun H4 kk hkk R4 b4 => ?_⟩
    have hmin : ∃ N : Nat, (if (kk : Int) < (h : Int) * (w : Int) then (kk : Int) else (h : Int) * (w : Int)) = (N : Int) ∧ N ≤ 26 ∧ N ≤ h * w ∧ N ≤ m := by
      rw [ehw]
      by_cases hc : (kk : Int) < ((h * w : Nat) : Int)
      · rw [if_pos hc]
        exact ⟨kk, rfl, by omega, by omega, by omega⟩
      · rw [if_neg hc]
        exact ⟨h * w, rfl, by omega, Nat.le_refl _, by omega⟩
    obtain ⟨N, eN, N26, Nhw, Nm⟩ := hmin
    refine ⟨_, _, rfl, ?_⟩
    refine ⟨(N : Int), congrArg (fun z => [V.int z]) eN, by omega, by omega, for_range (lo := 0) (n := ((N : Nat) : Int).toNat) (fun i σ H5 => ∃ cs v6 v7 v8, σ = [some (.ref r), some (.int m), some (.int h), some (.int w), some (.ref l), some (.str (S letters)), v6, v7, v8] ∧ Lay i cs ∧ cs.length = h * w ∧ H5 l = some (.lst (cs.map sg)) ∧ RowAt K a ns H5 r ∧ But r H H5)
      ⟨_, none, none, none, rfl, Lay.none (h * w), List.length_replicate, b4 _ _ hL hlr, R4, b3.trans b4⟩ ?_ ?_⟩
    · rintro i σ H5 hi ⟨cs, v6, v7, v8, rfl, La, hcs, hL5, R5, b5⟩
      rw [Int.toNat_natCast] at hi
      rw [Int.zero_add]
      refine ⟨fun σ H6 => ∃ D v8, σ = [some (.ref r), some (.int m), some (.int h), some (.int w), some (.ref l), some (.str (S letters)), some (.int (i : Nat)), some (.ref D), v8] ∧ D ≠ r ∧ D ≠ l ∧ H6 D = some (.lst (intV (frees cs cs.length))) ∧ H6 l = some (.lst (cs.map sg)) ∧ RowAt K a ns H6 r ∧ But r H H6, ?_, ?_⟩
      · refine ⟨_, rfl, _, rfl, _, _, rfl, rfl, bh, ?_⟩
        refine ⟨((h * w : Nat) : Int), congrArg (fun z => [V.int z]) ehw, by omega, by omega, fun D hD => lc_range (lo := 0) (n := (((h * w : Nat) : Int)).toNat) (fun j H6 => Same H5 H6 ∧ H6 D = some (.lst (intV ((List.range j).filter fun x => cs.getD x 0 == 46))))
          ⟨same_new hD, upd_same⟩ ?_ ?_⟩
        · rintro j H6 hj ⟨sm, hD6⟩
          rw [Int.toNat_natCast] at hj
          rw [Int.zero_add]
          obtain ⟨d, hd⟩ : ∃ d, cs[j]? = some d := ⟨_, List.getElem?_eq_getElem (by omega)⟩
          refine ⟨rfl, _, rfl, _, rfl, l, _, _, sg d, rfl, rfl, SqL.of (sm _ _ hL5), atI_nat (by rw [List.getElem?_map, hd]; all_goals rfl), rfl, _, rfl, ?_⟩
          rw [show decide (sg d = V.str (Str.ofString ".")) = (d == 46) from dL d 46]
          have eg : cs.getD j 0 = d := by rw [List.getD_eq_getElem?_getD, hd]; rfl
          have es := range_snoc (p := fun x => cs.getD x 0 == 46) j
          by_cases hx : (d == 46) = true
          · rw [hx]
            refine iteT ⟨_, rfl, _, hD6, ?_, same_put sm hD, ?_⟩
            · rw [List.length_map]
              have := List.length_filter_le (fun x => cs.getD x 0 == 46) (List.range j)
              rw [List.length_range] at this
              show _ < 16777216
              omega
            · rw [upd_same, es, if_pos (by rw [eg]; exact hx)]
              simp [intV]
          · rw [Bool.not_eq_true] at hx
            rw [hx]
            refine iteF ⟨sm, ?_⟩
            rw [hD6, es, if_neg (by rw [eg, hx]; exact Bool.false_ne_true), List.append_nil]
        · rintro H6 ⟨sm, hD6⟩
          rw [Int.toNat_natCast, ← hcs] at hD6
          exact ⟨D, _, rfl, R5.ne hD, (ne_of_none hL5 hD).symm, hD6, sm _ _ hL5, R5.same sm, b5.trans (.same sm)⟩
      rintro σ H6 ⟨D, v8', rfl, hDr, hDl, hD6, hL6, R6, b6⟩
      have hpos := frees_pos La (by omega)
      have hfl := frees_le cs cs.length
      have hle : letters[i]? = some (97 + i) := by
        have : i < 26 := by omega
        have all : ∀ i : Fin 26, letters[i.1]? = some (97 + i.1) := by decide
        exact all ⟨i, this⟩
      refine ⟨_, rfl, _, rfl, S letters, (i : Int), 97 + i, rfl, rfl, (by show 26 ≤ sizeLine; decide), by rw [S_list]; exact atI_nat hle, ?_⟩
      refine ⟨_, rfl, _, rfl, _, rfl, _, rfl, D, _, rfl, .inl (SqL.of hD6), ?_⟩
      refine ⟨r, _, rfl, R6, ?_, ?_, fun H7 d hd R7 b7 => ?_⟩
      · rw [List.length_map]; omega
      · rw [List.length_map]; omega
      rw [List.length_map] at hd
      obtain ⟨p, hp⟩ : ∃ p, (frees cs cs.length)[d]? = some p := ⟨_, List.getElem?_eq_getElem (by omega)⟩
      have hcp := frees_at hp
      have hpl : p < cs.length := (List.getElem?_eq_some_iff.mp hcp).1
      have hL7 := b7 _ _ hL6 hlr
      refine ⟨D, _, _, .int (p : Nat), rfl, rfl, SqL.of (b7 _ _ hD6 hDr), atI_nat (by rw [List.getElem?_map, hp]; all_goals rfl), l, _, _, p, rfl, rfl, hL7, ?_, ?_⟩
      · rw [List.length_map]
        unfold ixN
        rw [if_pos (by omega), if_pos (by omega), Int.toNat_natCast]
      · have hs : ∃ c t, cs.map sg = sg c :: t := by
          cases cs with
          | nil => simp at hpl
          | cons c t => exact ⟨c, t.map sg, rfl⟩
        refine ⟨cs.set p (97 + i), _, _, _, rfl, La.put hcp, by rw [List.length_set]; exact hcs, ?_, R7.put hL7 hlr hs, but_put (b6.trans b7) hl0⟩
        rw [upd_same, List.map_set]
    · rintro σ H5 ⟨cs, v6, v7, v8, rfl, La, hcs, hL5, R5, b5⟩
      rw [Int.toNat_natCast] at La
      have La' := La
      have goal := lay_VG La' N26 hcs h1 h8 w1 w8
      refine ⟨_, rfl, (h : Int), rfl, by omega, by omega, fun D hD => lc_range (lo := 0) (n := ((h : Nat) : Int).toNat) (fun i H6 => Same H5 H6 ∧ H6 D = some (.lst ((List.range i).map fun j => V.str (S ((cs.drop (j * w)).take w)))))
          ⟨same_new hD, upd_same⟩ ?_ ?_⟩
      · rintro i H6 hi ⟨sm, hD6⟩
        rw [Int.toNat_natCast] at hi
        rw [Int.zero_add]
        have hiw : i * w + w ≤ h * w := by
          have : (i + 1) * w ≤ h * w := Nat.mul_le_mul_right _ hi
          rw [Nat.succ_mul] at this
          exact this
        have eiw : (i : Int) * (w : Int) = ((i * w : Nat) : Int) := by simp
        have bi : ((-(2 ^ 64) < (i : Int) ∧ (i : Int) < 2 ^ 64) ∨ (-(2 ^ 64) < (w : Int) ∧ (w : Int) < 2 ^ 64)) := .inr ⟨by omega, by omega⟩
        have ecut : cutV (cs.map sg) (some ((i : Int) * (w : Int))) (some ((i : Int) * (w : Int) + (w : Int))) = ((cs.drop (i * w)).take w).map sg := by
          rw [eiw, show ((i * w : Nat) : Int) + (w : Int) = ((i * w + w : Nat) : Int) by omega]
          unfold cutV
          rw [HT.sIx_nat, HT.sIx_nat, List.length_map, hcs, Nat.min_eq_left hiw, Nat.min_eq_left (by omega : i * w ≤ h * w), show i * w + w - i * w = w by omega, List.map_take, List.map_drop]
        refine ⟨rfl, ⟨_, rfl⟩, _, rfl, _, rfl, _, rfl, _, _, rfl, rfl, bi, _, rfl, _, rfl, _, rfl, _, _, rfl, rfl, bi, _, rfl, _, _, rfl, rfl, _, rfl, l, _, rfl, SqL.of (sm _ _ hL5), fun q hq => ?_⟩
        rw [ecut]
        have hD7 : (upd H6 q (.lst (((cs.drop (i * w)).take w).map sg))) D = some (.lst ((List.range i).map fun j => V.str (S ((cs.drop (j * w)).take w)))) := by
          rw [upd_ne (ne_of_none hD6 hq)]
          exact hD6
        refine ⟨_, q, ((cs.drop (i * w)).take w).map fun c => S [c], rfl, rfl, .inl ?_, ?_, _, hD7, ?_, ?_⟩
        · rw [List.map_map]
          exact SqL.of upd_same
        · rw [sum_ones, List.length_map, List.length_take, List.length_drop]
          show _ + _ * 0 ≤ _
          omega
        · rw [List.length_map, List.length_range]
          show _ < 16777216
          omega
        · refine ⟨same_put (sm.trans (same_new hq)) hD, ?_⟩
          rw [upd_same, join_signs, List.range_succ, List.map_append]
          rfl
      · rintro H6 ⟨sm, hD6⟩
        rw [Int.toNat_natCast] at hD6
        refine k _ D h w _ goal (fun c hc => ?_) ?_ (R5.same sm) (b5.trans (.same sm))
        · rw [show (chunk h w cs).flatten = cs by rw [chunk_flat, ← hcs, List.take_length]] at hc
          have := La'.ab c hc
          omega
        rw [hD6]
        unfold rowV chunk
        rw [List.map_map]
        rfl
theorem ok_rw {f : Addr} {fd : FuncData} (F : Fun K "_law_rows" "_law_rows" sLawRows f fd) (T : TxtW K mg) (L : TxtL K mg) (GT : FnOk P w K mg base CX0 1 fT fdT ["_law_row", "_law_many"] (spTk K a ns)) (kT : PySem.W.keepIn K (.ref fT) = true) (bT : Binds K fdT ["_law_row", "_law_many"] []) (mT : mg "_law_taken" = some (.ref fT)) :
    FnOk P w K mg base CX0 2 f fd ["_law_row", "_law_most"] (spRw K a ns) := (ok_rwN F T L GT kT bT mT).imp fun vs H Q E ⟨r, m, e, hR, hm, k⟩ => ⟨r, m, e, hR, hm, fun H' l h w g hV _ => k H' l h w g hV⟩
end
end TK
end
section
set_option Elab.async false
set_option maxRecDepth 100000
set_option linter.all false
namespace TK
open PySem L2 TM
open PySem.Spec PyProof.Rows TH
theorem op_twoN {X : Cx} {CX : CXT} {j n : Nat} {C D g : Addr} {sp : Sp} {E : XK} {op : Operator} (hCD : C ≠ D) (hc : PySem.W.selfFirst X.K C = true) (N : NoOp X.K D op.info.2) (hs : PySem.W.findIn X.K (.ref C) (PySem.dunder op.info.2) = some (some (.ref g))) (hf : PySem.W.isFn X.K (.ref g) = true)
    (F : FnRn n X.prog X.w X.K X.mg X.base CX j g sp) (hr : Room j X.A) (hx : Passes CX X E) : OpRn n X (binaryOp op) (rTwo C D sp E) := by
  intro pins s σ H x y v u Q hn I rx ry h
  obtain ⟨a, dx, fs, b, dy, gs, rfl, rfl, ha, hb, q⟩ := h
  cases (show v = Value.ref a from rx)
  cases (show u = Value.ref b from ry)
  obtain ⟨mA, O, _⟩ := ins_get I.hok ha
  obtain ⟨od, J, _⟩ := O.look
  obtain ⟨mB, O', _⟩ := ins_get I.hok hb
  obtain ⟨od', J', _⟩ := O'.look
  refine binop_two I.kIn J J'.type hCD hc N hs hf ?_
  refine wpAny_mono (wpAny_call (run_fnRn (us := [.ref a, .ref b]) (vs := [.ref a, .ref b]) hn F hr hx I (.cons rfl (.cons rfl .nil)) q)) (fun w s' z => ?_) fun _ _ x => x
  obtain ⟨z', H', I', rz, qz⟩ := z
  exact SlX.cmpback rz ⟨z', H', I', rz, qz⟩
theorem row_sum (k : Nat) : ∀ g : Grid, (∀ r ∈ g, r.length ≤ k) → ((g.map S).map (·.length)).sum ≤ g.length * k
  | [], _ => by simp
  | x :: g, h => by
    have h1 := row_sum k g fun r hr => h r (List.mem_cons_of_mem _ hr)
    have h2 := h x List.mem_cons_self
    rw [List.map_cons, List.map_cons, List.sum_cons, S_len, List.length_cons, Nat.succ_mul]
    omega
end TK
end
section
set_option Elab.async false
set_option maxRecDepth 100000
set_option linter.all false
namespace TP
open PySem L2 TM TK TH
open PySem.Spec PyProof.Rows
def srt (l : List Nat) : List Nat := l.mergeSort (fun a b => decide (a ≤ b))
theorem srt_perm (l : List Nat) : (srt l).Perm l := List.mergeSort_perm _ _
theorem srt_up (l : List Nat) : (srt l).Pairwise (· ≤ ·) := by
  have := List.pairwise_mergeSort (le := fun a b : Nat => decide (a ≤ b)) (fun a b c h1 h2 => by simp at *; omega) (fun a b => by simp; omega) l
  exact this.imp fun h => by simpa using h
theorem rise : ∀ (zs : List Nat) (p : Nat), risingS (S [p]) (zs.map fun c => S [c]) = true → (p :: zs).Pairwise (· ≤ ·)
  | [], p, _ => by simp
  | x :: r, p, h => by
    have h' : (!ltCps [x] [p] && risingS (S [x]) (r.map fun c => S [c])) = true := h
    rw [Bool.and_eq_true] at h'
    have hpx : p ≤ x := by
      have := h'.1
      simp [ltCps] at this
      omega
    have ih := rise r x h'.2
    refine List.pairwise_cons.mpr ⟨fun y hy => ?_, ih⟩
    rcases List.mem_cons.mp hy with e | e
    · omega
    · have := (List.pairwise_cons.mp ih).1 y e
      omega
theorem sort_uniq {ys : List Str} {l : List Nat} (p : ys.Perm (l.map fun c => S [c])) (s : sortedS ys = true) : ys = (srt l).map fun c => S [c] := by
  obtain ⟨zs, rfl⟩ : ∃ zs : List Nat, ys = zs.map fun c => S [c] := by
    have : ∀ y ∈ ys, ∃ c, y = S [c] := fun y hy => by
      obtain ⟨c, _, rfl⟩ := List.mem_map.mp (p.mem_iff.mp hy)
      exact ⟨c, rfl⟩
    clear p s
    induction ys with
    | nil => exact ⟨[], rfl⟩
    | cons y ys ih =>
      obtain ⟨c, rfl⟩ := this y List.mem_cons_self
      obtain ⟨zs, rfl⟩ := ih fun y hy => this y (List.mem_cons_of_mem _ hy)
      exact ⟨c :: zs, rfl⟩
  have pz : zs.Perm l := by
    have := p.map fun y : Str => y.cps.getD 0 0
    have e : ((fun y : Str => y.cps.getD 0 0) ∘ fun c : Nat => S [c]) = id := funext fun c => rfl
    rw [List.map_map, List.map_map, e, List.map_id, List.map_id] at this
    exact this
  have up : zs.Pairwise (· ≤ ·) := by
    cases zs with
    | nil => exact List.Pairwise.nil
    | cons z zs => exact rise zs z s
  have : zs = srt l := List.Perm.eq_of_pairwise (le := (· ≤ ·)) (fun a b _ _ h1 h2 => by omega) up (srt_up l) (pz.trans (srt_perm l).symm)
  rw [this]
section
variable {P : Program} {w : World} {K : PySem.W.Frag} {mg : Str → Option Value} {base : Heap} {D : Addr} {t0 : Tok}
structure TxtM (K : PySem.W.Frag) (mg : Str → Option Value) : Prop where
  em : ∃ u, mg "EMPTY" = some u ∧ RelV (.str (S [46])) u
  srt : mg "sorted" = none
  len : mg "len" = none
abbrev NMb : List Str := ["self", "row", "cell"]
theorem scMb : FnScope NMb ["self"] (defScope sTrayMarbles) := ⟨rfl, rfl, rfl, by decide +kernel, rfl, by decide +kernel, by decide +kernel⟩
def spMb (K : PySem.W.Frag) (D : Addr) : Sp := fun vs H Q _ => ∃ (p : Addr) (h w : Nat) (g : Grid), vs = [.ref p] ∧ TrayAt K D H p g ∧ VG h w g ∧ ∀ H', Same H H' → Q (.str (S (srt (mb g.flatten)))) H'
theorem nodup_le : ∀ (n : Nat) (l : List Nat), l.Nodup → (∀ c ∈ l, 97 ≤ c ∧ c < 97 + n) → l.length ≤ n
  | 0, l, _, h => by
    cases l with
    | nil => exact Nat.le_refl _
    | cons c l =>
      have := h c List.mem_cons_self
      omega
  | n + 1, l, nd, h => by
    by_cases q : (97 + n) ∈ l
    · have e := List.length_erase_of_mem q
      have ih := nodup_le n (l.erase (97 + n)) (nd.erase _) fun c hc => by
        have := (List.Nodup.mem_erase_iff nd).mp hc
        have h2 := h c this.2
        have := this.1
        omega
      omega
    · have ih := nodup_le n l nd fun c hc => by
        have h2 := h c hc
        have : c ≠ 97 + n := fun z => q (by rw [← z]; exact hc)
        omega
      omega
theorem mb_26 {h w : Nat} {g : Grid} (V : VG h w g) : (mb g.flatten).length ≤ 26 := by
  have sub : ∀ c ∈ mb g.flatten, 97 ≤ c ∧ c < 123 := fun c hc => by
    have := List.mem_filter.mp hc
    obtain ⟨r, hr, hcr⟩ := List.mem_flatten.mp this.1
    have h2 := V.ok r hr c hcr
    rcases h2 with h2 | h2
    · subst h2; simp at this
    · exact ⟨by omega, by omega⟩
  exact nodup_le 26 _ V.nd sub
theorem ok_mb {f : Addr} {fd : FuncData} (F : Fun K "marbles" "Tray.marbles" sTrayMarbles f fd) (T : TxtM K mg) (CT : ClsT K mg D) : FnOk P w K mg base CX0 1 f fd ["self"] (spMb K D) := by
  refine F.ok scMb (fun vs H Q E h => ?_) (fun cdv A outer s H vs Q E hr h => ?_)
  · obtain ⟨p, h, w, g, rfl, _⟩ := h
    rfl
  · obtain ⟨p, h, w, g, rfl, ⟨dx, a, hp, hS⟩, hV, k⟩ := h
    have nd := scMb.nd
    refine ⟨_, pss_one (ps_ret (pe_join pe_str (pe_callB cr_sortedS (by rfl) T.srt (by decide +kernel) (pa_cons (pe_lc2 (own := [("row", 1), ("cell", 2)]) (vs1 := [2]) (g := gName 1) (g1 := gName 2) (tt := tYes) rfl nd (pi_tup (pe_fld (pv 0) rfl)) (blkOk_by (N := NMb) (sc := defScope sTrayMarbles) (by decide +kernel)) (by decide)
      (fun _ _ _ _ _ => pg_name (i := 1) nd rfl (.inl rfl)) (fun _ _ _ _ _ => pts_nil) (fun _ _ _ _ _ => pi_str (pv 1)) (fun _ _ _ _ _ => pg_name (i := 2) nd rfl (.inl rfl)) (fun _ _ _ _ _ => pts_one (pt_cmpR op_ne (pv 2) (C8.pe_gc rfl T.em) (nomark _))) (fun _ _ _ _ _ => pv 2)) pa_nil)))), ?_⟩
    refine ⟨⟨_, rfl⟩, _, rfl, p, D, dx, _, _, rfl, hp, CT.cl, CT.nR, rfl, a, rfl, ⟨_, hS⟩, fun E2 hE2 => lc2_it walk_tup (fun i H1 => Same H H1 ∧ H1 E2 = some (.lst ((mb (g.take i).flatten).map sg)))
      ⟨same_new hE2, upd_same⟩ (fun i H1 _ ⟨sm, _⟩ => sm.tup hS) ?_ ?_⟩
    · rintro i x Hz H1 hi ⟨sm, hL⟩ ⟨rfl, hx⟩
      obtain ⟨r, hri, rfl⟩ := at_map hx
      have et : ((g.take (i + 1)).flatten) = (g.take i).flatten ++ r := by
        rw [List.take_add_one, hri, List.flatten_append]
        simp
      refine ⟨rfl, _, rfl, S r, rfl, in_it (walk_str (z := S r)) (fun j H2 => Same H H2 ∧ H2 E2 = some (.lst ((mb (g.take i).flatten ++ mb (r.take j)).map sg))) ⟨sm, by rw [hL]; simp [mb]⟩ (fun _ _ _ _ => True.intro) ?_ ?_⟩
      · rintro j x Hz H2 hj ⟨sm2, hL2⟩ ⟨rfl, c, hc, rfl⟩
        rw [S_at] at hc
        have et2 : mb (r.take (j + 1)) = mb (r.take j) ++ if c = 46 then [] else [c] := by
          rw [List.take_add_one, hc]
          show mb (r.take j ++ [c]) = _
          rw [mb_app]
          by_cases q : c = 46
          · subst q; rfl
          · rw [if_neg q]; simp [mb, q]
        have hlen : (mb (g.take i).flatten ++ mb (r.take j)).length ≤ 1000 := by
          have h1 := mb_le (g.take i).flatten
          have h2 := mb_le (r.take j)
          have h3 : (g.take i).flatten.length ≤ g.flatten.length := by
            have : (g.take i).flatten ++ (g.drop i).flatten = g.flatten := by rw [← List.flatten_append, List.take_append_drop]
            rw [← this, List.length_append]
            omega
          have h4 : g.flatten.length = h * w := by
            rw [List.length_flatten]
            have : g.map List.length = List.replicate h w := List.eq_replicate_iff.mpr ⟨by rw [List.length_map]; exact hV.rc.1, fun x hx => by
              obtain ⟨l, hl, rfl⟩ := List.mem_map.mp hx
              exact hV.rc.2 l hl⟩
            rw [this]
            simp
          have h5 : h * w ≤ 64 := Nat.mul_le_mul hV.n8 hV.m8
          have h6 := hV.row (List.mem_of_getElem? hri)
          rw [List.length_take] at h2
          rw [List.length_append]
          omega
        refine ⟨rfl, _, rfl, rfl, _, rfl, ?_⟩
        rw [show (!decide (V.str (⟨#[c]⟩ : Str) = V.str (S [46]))) = !(c == 46) from congrArg _ (dL c 46)]
        by_cases q : c = 46
        · rw [beq_iff_eq.mpr q]
          refine iteF ⟨sm2, ?_⟩
          rw [hL2, et2, if_pos q, List.append_nil]
        · rw [beq_eq_false_iff_ne.mpr q]
          refine iteT ⟨_, rfl, _, hL2, ?_, same_put sm2 hE2, ?_⟩
          · rw [List.length_map]
            show _ < 16777216
            omega
          · rw [upd_same, et2, if_neg q, ← List.append_assoc, List.map_append (l₂ := [c])]
            rfl
      · rintro H2 ⟨sm2, hL2⟩
        rw [S_size, List.take_length] at hL2
        refine ⟨sm2, ?_⟩
        rw [hL2, et, mb_app]
    · rintro H1 ⟨sm, hL⟩
      rw [List.length_map, List.take_length] at hL
      have h26 := mb_26 hV
      refine ⟨E2, (mb g.flatten).map fun c => S [c], rfl, ?_, ?_, fun ys z pm st hz => ?_⟩
      · rw [List.map_map]
        exact SqL.of hL
      · rw [List.length_map]
        omega
      · have e := sort_uniq pm st
        subst e
        have l26 : (srt (mb g.flatten)).length ≤ 26 := by rw [(srt_perm _).length_eq]; exact h26
        refine ⟨_, z, (srt (mb g.flatten)).map fun c => S [c], rfl, rfl, .inl (SqL.of upd_same), ?_, ?_⟩
        · rw [sum_ones, List.length_map]
          show _ + _ * 0 ≤ _
          omega
        · rw [join_signs]
          exact k _ (sm.trans (same_new hz))
theorem scHt : FnScope ["self"] ["self"] (defScope sTrayHeight) := ⟨rfl, rfl, rfl, by decide +kernel, rfl, by decide +kernel, by decide +kernel⟩
theorem scWd : FnScope ["self"] ["self"] (defScope sTrayWidth) := ⟨rfl, rfl, rfl, by decide +kernel, rfl, by decide +kernel, by decide +kernel⟩
def spHt (K : PySem.W.Frag) (D : Addr) : Sp := fun vs H Q _ => ∃ (p : Addr) (h w : Nat) (g : Grid), vs = [.ref p] ∧ TrayAt K D H p g ∧ VG h w g ∧ Q (.int (h : Nat)) H
def spWd (K : PySem.W.Frag) (D : Addr) : Sp := fun vs H Q _ => ∃ (p : Addr) (h w : Nat) (g : Grid), vs = [.ref p] ∧ TrayAt K D H p g ∧ VG h w g ∧ Q (.int (w : Nat)) H
theorem row0 {h w : Nat} {g : Grid} (G : VG h w g) : ∃ r0, atI (rowV g) ((0 : Nat) : Int) = some (V.str (S r0)) ∧ r0.length = w ∧ r0 ∈ g := by
  have hg : 0 < g.length := by rw [G.rc.1]; exact G.n1
  have e : g[0]? = some g[0] := List.getElem?_eq_getElem hg
  exact ⟨g[0], atI_nat (by rw [List.getElem?_map, e]; all_goals rfl), G.rc.2 _ (List.getElem_mem hg), List.getElem_mem hg⟩
theorem ok_ht {f : Addr} {fd : FuncData} (F : Fun K "height" "Tray.height" sTrayHeight f fd) (T : TxtM K mg) (CT : ClsT K mg D) : FnOk P w K mg base CX0 1 f fd ["self"] (spHt K D) := by
  refine F.ok scHt (fun vs H Q E h => ?_) (fun cdv A outer s H vs Q E hr h => ?_)
  · obtain ⟨p, h, w, g, rfl, _⟩ := h
    rfl
  · obtain ⟨p, h, w, g, rfl, ⟨dx, a, hp, hS⟩, hV, k⟩ := h
    refine ⟨_, pss_one (ps_ret (pe_callB call_len_seq (by rfl) T.len PySem.boot_len (pa_cons (pe_fld (pv 0) rfl) pa_nil))), ?_⟩
    refine ⟨_, rfl, p, D, dx, _, _, rfl, hp, CT.cl, CT.nR, rfl, a, _, rfl, .inr hS, ?_⟩
    rw [List.length_map, hV.rc.1]
    exact k
theorem ok_wd {f : Addr} {fd : FuncData} (F : Fun K "width" "Tray.width" sTrayWidth f fd) (T : TxtM K mg) (CT : ClsT K mg D) : FnOk P w K mg base CX0 1 f fd ["self"] (spWd K D) := by
  refine F.ok scWd (fun vs H Q E h => ?_) (fun cdv A outer s H vs Q E hr h => ?_)
  · obtain ⟨p, h, w, g, rfl, _⟩ := h
    rfl
  · obtain ⟨p, h, w, g, rfl, ⟨dx, a, hp, hS⟩, hV, k⟩ := h
    obtain ⟨r0, e0, l0, m0⟩ := row0 hV
    refine ⟨_, pss_one (ps_ret (pe_callB call_len_str (by rfl) T.len PySem.boot_len (pa_cons (pe_ix ix_tup (pe_fld (pv 0) rfl) pe_int (fun _ _ => rfl)) pa_nil))), ?_⟩
    have := hV.row m0
    refine ⟨_, rfl, p, D, dx, _, _, rfl, hp, CT.cl, CT.nR, rfl, a, _, _, _, rfl, rfl, hS, e0, _, rfl, by rw [S_len]; show _ ≤ 16777216; omega, ?_⟩
    rw [S_len, l0]
    exact k
end
end TP
end
namespace TX
end TX
namespace TX
end TX
namespace TX
end TX
namespace TK
end TK
namespace TX
end TX
section
set_option Elab.async false
set_option maxRecDepth 100000
set_option linter.all false
namespace TA
open TK
open PySem PySem.Spec PyProof.Rows L2 LamX TX
theorem same_new {H : Hp} {l : Addr} {o : HO} (h : H l = none) : Same H (upd H l o) := fun b o' e => by
  rw [upd_ne (ne_of_none e h)]
  exact e
theorem pe_bmK {X : Cx} {K : PySem.W.Frag} {o e : Expr} {es : List Expr} {to : TE} {t : TA} {name : Str} {apos cpos : Pos} {Ty id : String} {r : V → List V → Hp → VK → Prop} (h : X.K = K) (pa : PlainAttrs Ty) (slot : Slot Ty name id) (hty : typeOf (.builtin id) = pure (.type "method_descriptor")) (hm : MtR X id r) (ho : PE X o to) (ha : PA X (e :: es) t)
    (hbase : attributeBase o name X.env (eval o X.env) = eval o X.env := by rfl)
    (hfew : ((backTo cpos (starEach (e :: es) X.env)).all (fun z => !z.1) && (backToKw cpos (keywordEach [] X.env)).all (fun z => z.1.isSome) && decide ((e :: es).length + ([] : List Keyword).length + (if ([] : List Keyword).isEmpty then 0 else 1) < 30)) = true := by rfl)
    (hline : (apos.endLine == cpos.line) = true := by rfl)
    (he : starEach (e :: es) X.env = (false, eval e X.env) :: starEach es X.env := by rfl) (hpl : (backTo cpos (starEach es X.env)).any (·.1) = false := by rfl) : PE X (.Call (.Attribute o name apos) (e :: es) [] cpos) (tBM K Ty r to t) := by
  subst h
  exact pe_bm pa slot hty hm ho ha hbase hfew hline he hpl
section
variable {X : Cx} {ce : Nat → Addr} {cT : Addr}
end
end TA
end
namespace TA
end TA
section
set_option Elab.async false
set_option maxRecDepth 100000
set_option maxHeartbeats 4000000
set_option linter.all false
namespace TB
open PySem PySem.Spec PyProof.Rows L2
section
variable {X : Cx} {CX : CXT} {n : Nat} {C g : Addr} {sp : Sp} {E : XK}
def rLenOwn (C : Addr) (sp : Sp) (E : XK) : List V → Hp → VK → Prop := fun xs H Q => ∃ a dx fs, xs = [V.ref a] ∧ H a = some (.ins C dx fs) ∧ sp [.ref a] H (fun z H' => ∃ k : Nat, z = .int k ∧ k < 2 ^ 63 ∧ Q z H') E
theorem call_lenOwn (hs : PySem.W.findIn X.K (.ref C) "__len__" = some (some (.ref g))) (hf : PySem.W.isFn X.K (.ref g) = true) (F : FnR X.prog X.w X.K X.mg X.base CX n g sp) (hr : Room (n + 1) X.A) (hx : Passes CX X E) : CallR X (.builtin "len") (rLenOwn C sp E) := by
  intro pins s σ H xs us Q I r h
  obtain ⟨a, dx, fs, rfl, ha, q⟩ := h
  obtain ⟨u, rfl, ru⟩ := r.one
  cases (show u = Value.ref a from ru)
  obtain ⟨mA, O, _⟩ := ins_get I.hok ha
  obtain ⟨od, J, _⟩ := O.look
  obtain ⟨m, hF⟩ := I.fr
  refine PySem.W.len_K hF I.ok.mod.kin J hs hf (wpAny_mono (wpAny_call (SlX.run_at (us := [.ref a]) (ws := [.ref a]) F hr.in1 I.env0.in1 hx I (.cons rfl .nil) q)) (fun w s' z => ?_) fun _ _ x => x)
  obtain ⟨z', H', I', rz, k, rfl, hk, qz⟩ := z
  obtain ⟨t, rfl⟩ := (show ∃ t, w = Value.int k t from rz)
  exact ⟨⟨by omega, by omega⟩, .int k, H', I'.tok _, ⟨_, rfl⟩, qz⟩
/-- a + b, both of the class at C -/
def rSameOwn (C : Addr) (sp : Sp) (E : XK) : R2 := fun x y H Q => ∃ a dx fs b dy gs, x = .ref a ∧ y = .ref b ∧ H a = some (.ins C dx fs) ∧ H b = some (.ins C dy gs) ∧ sp [x, y] H Q E
theorem op_sameOwn {op : Operator} (hc : PySem.W.selfFirst X.K C = true) (hs : PySem.W.findIn X.K (.ref C) (PySem.dunder op.info.2) = some (some (.ref g))) (hf : PySem.W.isFn X.K (.ref g) = true)
    (F : FnR X.prog X.w X.K X.mg X.base CX n g sp) (hr : Room n X.A) (hx : Passes CX X E) : OpR X (binaryOp op) (rSameOwn C sp E) := by
  intro pins s σ H x y v u Q I rx ry h
  obtain ⟨a, dx, fs, b, dy, gs, rfl, rfl, ha, hb, q⟩ := h
  cases (show v = Value.ref a from rx)
  cases (show u = Value.ref b from ry)
  obtain ⟨mA, O, _⟩ := ins_get I.hok ha
  obtain ⟨od, J, _⟩ := O.look
  obtain ⟨mB, O', _⟩ := ins_get I.hok hb
  obtain ⟨od', J', _⟩ := O'.look
  obtain ⟨m, hF⟩ := I.fr
  refine PySem.W.binop_K hF I.ok.mod.kin J J'.type hc hs hf ?_
  refine wpAny_mono (wpAny_call (run_fnR (us := [.ref a, .ref b]) (vs := [.ref a, .ref b]) F hr hx I (.cons rfl (.cons rfl .nil)) q)) (fun w s' z => ?_) fun _ _ x => x
  obtain ⟨z', H', I', rz, qz⟩ := z
  exact SlX.cmpback rz ⟨z', H', I', rz, qz⟩
end
end TB
end
namespace TB
end TB
namespace TA
end TA
section
set_option Elab.async false
set_option maxRecDepth 100000
set_option linter.all false
namespace TA
open TK
open PySem PySem.Spec PyProof.Rows L2 LamX TX TK TM TB
def isN : V → Int → Bool
  | .int i, l => decide (0 ≤ i) && decide (i ≤ l)
  | _, _ => false
/-- what isinstance says of a value -/
structure Kn (K : PySem.W.Frag) (H : Hp) (x : V) (ty : String) (bb bi : Bool) : Prop where
  t : TyX K H x (.type ty)
  b : kitB ty "bool" = some bb
  i : kitB ty "int" = some bi
  yes : bb = false → bi = true → ∃ i, x = .int i
  no : bb = true ∨ bi = false → ∀ i, x ≠ .int i
theorem kn_int {K : PySem.W.Frag} {H : Hp} (i : Int) : Kn K H (.int i) "int" false true := ⟨.base (.int i), by decide +kernel, by decide +kernel, fun _ _ => ⟨i, rfl⟩, fun h => by rcases h with h | h <;> cases h⟩
structure TxtN (K : PySem.W.Frag) (mg : Str → Option Value) : Prop where
  isi : mg "isinstance" = none
  bool : mg "bool" = none
  int : mg "int" = none
section
variable {P : Program} {w : World} {K : PySem.W.Frag} {mg : Str → Option Value} {base : Heap} {C fT : Addr} {fdT : FuncData}
theorem scNu : FnScope ["value", "limit"] ["value", "limit"] (defScope sIsNumber) := ⟨rfl, rfl, rfl, by decide +kernel, rfl, by decide +kernel, by decide +kernel⟩
def spNum (K : PySem.W.Frag) : Sp := fun vs H Q _ => ∃ (x : V) (l : Int) (ty : String) (bb bi : Bool), vs = [x, .int l] ∧ Kn K H x ty bb bi ∧ Q (.bl (isN x l)) H
theorem ok_num {f : Addr} {fd : FuncData} (F : Fun K "is_number" "is_number" sIsNumber f fd) (T : TxtN K mg) : FnOk P w K mg base CX0 1 f fd ["value", "limit"] (spNum K) := by
  refine F.ok scNu (fun vs H Q E h => ?_) (fun cdv A outer s H vs Q E hr h => ?_)
  · obtain ⟨x, l, ty, bb, bi, rfl, _⟩ := h
    rfl
  · obtain ⟨x, l, ty, bb, bi, rfl, N, k⟩ := h
    refine ⟨_, pss_cons (ps_if (PW.pt (pw_or (pt_val (pe_callB call_isi (by rfl) T.isi (by decide +kernel) (pa_cons (pv 0) (pa_cons (pe_bltn (v := .ty "bool") (by rfl) T.bool (by decide +kernel) rfl) pa_nil))))
        (pw_or1 (pt_not (pt_val (pe_callB call_isi (by rfl) T.isi (by decide +kernel) (pa_cons (pv 0) (pa_cons (pe_bltn (v := .ty "int") (by rfl) T.int (by decide +kernel) rfl) pa_nil)))))))) (pss_one (ps_ret pe_bl)) pss_nil)
      (pss_one (ps_ret (pe_chain op_le op_le pe_int (pv 0) (pv 1)))), ?_⟩
    refine ⟨_, rfl, _, _, _, _, bb, rfl, .ty _, N.t, kit_ty N.b, bb, rfl, ?_⟩
    cases bb with
    | true =>
      refine iteT ?_
      have e : isN x l = false := by
        have h := N.no (.inl rfl)
        cases x with
        | int i => exact absurd rfl (h i)
        | _ => rfl
      rw [e] at k
      exact k
    | false =>
      refine iteF ⟨_, rfl, _, _, _, _, bi, rfl, .ty _, N.t, kit_ty N.i, bi, rfl, ?_⟩
      cases bi with
      | false =>
        refine iteT ?_
        have e : isN x l = false := by
          have h := N.no (.inr rfl)
          cases x with
          | int i => exact absurd rfl (h i)
          | _ => rfl
        rw [e] at k
        exact k
      | true =>
        obtain ⟨i, rfl⟩ := N.yes rfl rfl
        refine iteF ?_
        refine ⟨_, rfl, _, _, rfl, rfl, _, rfl, ?_⟩
        by_cases h0 : (0 : Int) ≤ i
        · rw [decide_eq_true h0]
          refine iteT ⟨_, rfl, _, _, rfl, rfl, ?_⟩
          have e : isN (.int i) l = decide (i ≤ l) := by
            show (decide (0 ≤ i) && decide (i ≤ l)) = _
            rw [decide_eq_true h0, Bool.true_and]
          rw [e] at k
          exact k
        · rw [decide_eq_false h0]
          refine iteF ?_
          have e : isN (.int i) l = false := by
            show (decide (0 ≤ i) && decide (i ≤ l)) = _
            rw [decide_eq_false h0, Bool.false_and]
          rw [e] at k
          exact k
end
end TA
end
namespace TP
end TP
section
set_option Elab.async false
set_option maxRecDepth 100000
set_option linter.all false
namespace TA
open TK
open PySem PySem.Spec PyProof.Rows L2 LamX TX TK TM TB
section
variable {P : Program} {w : World} {K : PySem.W.Frag} {mg : Str → Option Value} {base : Heap} {C fT : Addr} {fdT : FuncData}
theorem scLe : FnScope ["self"] ["self"] (defScope sWordLen) := ⟨rfl, rfl, rfl, by decide +kernel, rfl, by decide +kernel, by decide +kernel⟩
def spLe (C : Addr) : Sp := fun vs H Q _ => ∃ (p : Addr) (t : List Nat), vs = [.ref p] ∧ WordAt C H p t ∧ Good t ∧ Q (.int (t.length : Nat)) H
theorem S_line {t : List Nat} (h : t.length ≤ 1000) : (S t).length ≤ sizeLine := by
  rw [S_len]
  show _ ≤ 16777216
  omega
theorem ok_le {f : Addr} {fd : FuncData} (F : Fun K "__len__" "Word.__len__" sWordLen f fd) (CW : ClsW K mg C) (T : TxtW K mg) : FnOk P w K mg base CX0 1 f fd ["self"] (spLe C) := by
  refine F.ok scLe (fun vs H Q E h => ?_) (fun cdv A outer s H vs Q E hr h => ?_)
  · obtain ⟨p, t, rfl, _⟩ := h
    rfl
  · obtain ⟨p, t, rfl, ⟨dx, hp⟩, hg, k⟩ := h
    refine ⟨_, pss_one (ps_ret (pe_callB call_len_str (by rfl) T.len PySem.boot_len (pa_cons (pe_fld (pv 0) rfl) pa_nil))), ?_⟩
    refine ⟨_, rfl, p, C, dx, _, _, rfl, hp, CW.cl, CW.nT, rfl, _, rfl, S_line (Nat.le_trans hg.1 (by decide)), ?_⟩
    rw [S_len]
    exact k
end
end TA
end
namespace TA
end TA
namespace TP
end TP
namespace TR
end TR
namespace TM
end TM
namespace TM
end TM
namespace TM
end TM
namespace TM
end TM
namespace TM
end TM
section
set_option Elab.async false
set_option maxRecDepth 100000
set_option linter.all false
namespace TB
open PySem PySem.Spec PyProof.Rows L2 TK
def rep (n : Nat) (t : List Nat) : List Nat := (List.replicate n t).flatten
theorem foldl_app (n : Nat) (t : List Nat) : ∀ a : List Nat, (List.replicate n t.toArray).foldl (· ++ ·) a.toArray = (a ++ rep n t).toArray := by
  induction n with
  | zero => intro a; simp [rep]
  | succ n ih =>
    intro a
    rw [List.replicate_succ, List.foldl_cons]
    have e : a.toArray ++ t.toArray = (a ++ t).toArray := by simp
    rw [e, ih]
    simp [rep, List.replicate_succ]
theorem mul_S (t : List Nat) (n : Nat) : Txt.mul (S t) (n : Int) = S (rep n t) := by
  unfold Txt.mul
  by_cases h : (n : Int) < 1
  · have e : n = 0 := by omega
    subst e
    rw [if_pos h]
    rfl
  · rw [if_neg h]
    by_cases h2 : ((n : Int) == 1 || (S t).length == 0) = true
    · rw [if_pos h2]
      rcases Bool.or_eq_true_iff.mp h2 with e | e
      · have e : n = 1 := by have := beq_iff_eq.mp e; omega
        subst e
        simp [rep]
      · have e := beq_iff_eq.mp e
        rw [S_len] at e
        have e := List.length_eq_zero_iff.mp e
        subst e
        have : rep n [] = [] := by simp [rep]
        rw [this]
    · rw [if_neg h2]
      have e := foldl_app n t []
      rw [Int.toNat_natCast]
      show Str.mk ((List.replicate n t.toArray).foldl (· ++ ·) #[]) = _
      have e2 : (#[] : Array Nat) = ([] : List Nat).toArray := rfl
      rw [e2, e, List.nil_append]
def rRepS : R2 := fun x y H Q => ∃ (t : List Nat) (n : Nat), x = .str (S t) ∧ y = .int n ∧ t.length ≤ 1000 ∧ n ≤ 1000 ∧ Q (.str (S (rep n t))) H
theorem op_repS {X : Cx} : OpR X (binaryOp .Mult) rRepS := by
  intro pins s σ H x y v u Q I rx ry h
  obtain ⟨t, n, rfl, rfl, ht, hn, q⟩ := h
  obtain ⟨a, rfl⟩ := (show ∃ a, v = Value.str (S t) a from rx)
  obtain ⟨b, rfl⟩ := (show ∃ b, u = Value.int n b from ry)
  refine SB.mul (mulOk_of 1000 1000 (by rw [S_len]; exact ht) (by omega) (by omega) (by decide) (by decide)) fun t' k => ?_
  rw [mul_S]
  exact ⟨.str (S (rep n t)), H, I.tok k, ⟨_, rfl⟩, q⟩
end TB
end
namespace TA
end TA
section
set_option Elab.async false
set_option maxRecDepth 100000
set_option linter.all false
namespace TA
open TK
open PySem PySem.Spec PyProof.Rows L2 LamX TX TK TM TB
def along (t ax : List Nat) : List Nat := t.filter fun c => decide (c ∈ ax)
def optS : Option Nat → V
  | none => .non
  | some c => sg c
theorem along_snoc {t ax : List Nat} {i c : Nat} (h : t[i]? = some c) : along (t.take (i + 1)) ax = along (t.take i) ax ++ if c ∈ ax then [c] else [] := by
  unfold along
  rw [List.take_add_one, h, List.filter_append]
  congr 1
  by_cases e : c ∈ ax
  · simp [e]
  · simp [e]
theorem along_le (t ax : List Nat) : (along t ax).length ≤ t.length := List.length_filter_le _ _
section
variable {P : Program} {w : World} {K : PySem.W.Frag} {mg : Str → Option Value} {base : Heap} {C fL : Addr} {fdL : FuncData}
abbrev NLa : List Str := ["text", "axis", "found", "tilt"]
theorem scLa : FnScope NLa ["text", "axis"] (defScope sLastAlong) := ⟨rfl, rfl, rfl, by decide +kernel, rfl, by decide +kernel, by decide +kernel⟩
def spLa : Sp := fun vs H Q _ => ∃ t ax : List Nat, vs = [.str (S t), .str (S ax)] ∧ t.length ≤ 1000 ∧ ∀ H', Same H H' → Q (optS (along t ax).getLast?) H'
theorem ok_la {f : Addr} {fd : FuncData} (F : Fun K "_last_along" "_last_along" sLastAlong f fd) : FnOk P w K mg base CX0 1 f fd ["text", "axis"] spLa := by
  refine F.ok scLa (fun vs H Q E h => ?_) (fun cdv A outer s H vs Q E hr h => ?_)
  · obtain ⟨t, ax, rfl, _⟩ := h
    rfl
  · obtain ⟨t, ax, rfl, hl, k⟩ := h
    refine ⟨_, pss_cons (ps_setLc (i := 2) (own := [("tilt", 3)]) (g := gName 3) rfl scLa.nd rfl rfl (sw_true rfl rfl rfl (by decide +kernel)) (pi_str (pv 0)) (blkOk_by (N := NLa) (sc := defScope sLastAlong) (by decide +kernel)) (fun _ _ _ _ _ => pg_name (i := 3) scLa.nd rfl (.inl rfl))
        (fun _ _ _ _ _ => pts_one (pt_cmpR op_in_sign (pv 3) (pv 1) (by rfl))) (fun _ _ _ _ _ => pv 3))
      (pss_one (ps_ret (pe_ifExp (pt_truth (pv 2) (by intro _; rfl)) (pe_ix ix_list (pv 2) (pe_un un_neg pe_int) (fun _ _ => rfl)) pe_non))), ?_⟩
    refine ⟨_, rfl, _, rfl, fun D hD => lc_it (walk_str (z := S t)) (fun i H1 => Same H H1 ∧ H1 D = some (.lst ((along (t.take i) ax).map sg))) ⟨same_new hD, upd_same⟩ (fun _ _ _ _ => True.intro) ?_ ?_⟩
    · rintro i x H1 H2 hi ⟨sm, hL⟩ ⟨rfl, c, hc, rfl⟩
      rw [S_at] at hc
      refine ⟨rfl, _, rfl, _, rfl, c, S ax, rfl, rfl, ?_⟩
      rw [S_list, along_snoc hc]
      by_cases e : c ∈ ax
      · rw [decide_eq_true e, if_pos e]
        refine ⟨_, rfl, iteT ⟨_, rfl, _, hL, ?_, ?_⟩⟩
        · rw [List.length_map]
          have := along_le (t.take i) ax
          rw [List.length_take] at this
          show _ < 16777216
          omega
        · refine ⟨same_put sm hD, ?_⟩
          rw [upd_same, List.map_append]
          rfl
      · rw [decide_eq_false e, if_neg e, List.append_nil]
        exact ⟨_, rfl, iteF ⟨sm, hL⟩⟩
    · rintro H1 ⟨sm, hL⟩
      rw [S_size, List.take_length] at hL
      refine ⟨_, rfl, _, .inl ⟨_, SqL.of hL, rfl⟩, ?_⟩
      rcases List.eq_nil_or_concat (along t ax) with e | ⟨r, c, e⟩
      · rw [e] at hL k ⊢
        exact iteF (k _ sm)
      · rw [e] at hL k ⊢
        rw [List.concat_eq_append] at hL k ⊢
        rw [List.map_append] at hL ⊢
        rw [show (!((r.map sg ++ [c].map sg).isEmpty)) = true by simp]
        refine iteT ⟨_, rfl, _, rfl, D, _, _, _, rfl, rfl, SqL.of hL, atI_last _ _, ?_⟩
        rw [List.getLast?_append] at k
        exact k _ sm
end
end TA
end
section
set_option Elab.async false
set_option maxRecDepth 100000
set_option linter.all false
namespace TA
open TK
open PySem PySem.Spec PyProof.Rows L2 LamX TX TK TM TB
def cornerV (t : List Nat) : V := match (along t [117, 100]).getLast?, (along t [108, 114]).getLast? with
  | some a, some b => .str (S [a, b])
  | _, _ => .non
section
variable {P : Program} {w : World} {K : PySem.W.Frag} {mg : Str → Option Value} {base : Heap} {C fL : Addr} {fdL : FuncData}
theorem scCr : FnScope ["self", "column_tilt", "row_tilt"] ["self"] (defScope sWordCorner) := ⟨rfl, rfl, rfl, by decide +kernel, rfl, by decide +kernel, by decide +kernel⟩
def spCr (C : Addr) : Sp := fun vs H Q _ => ∃ (p : Addr) (t : List Nat), vs = [.ref p] ∧ WordAt C H p t ∧ Good t ∧ ∀ H', Same H H' → Q (cornerV t) H'
theorem ok_cr {f : Addr} {fd : FuncData} (F : Fun K "corner" "Word.corner" sWordCorner f fd) (CW : ClsW K mg C) (T : TxtW K mg) (GL : FnOk P w K mg base CX0 1 fL fdL ["text", "axis"] spLa) (kL : PySem.W.keepIn K (.ref fL) = true) (bL : Binds K fdL ["text", "axis"] []) (mL : mg "_last_along" = some (.ref fL)) :
    FnOk P w K mg base CX0 2 f fd ["self"] (spCr C) := by
  refine F.ok scCr (fun vs H Q E h => ?_) (fun cdv A outer s H vs Q E hr h => ?_)
  · obtain ⟨p, t, rfl, _⟩ := h
    rfl
  · obtain ⟨p, t, rfl, ⟨dx, hp⟩, g, k⟩ := h
    refine ⟨_, pss_cons (ps_set (i := 1) scCr.nd rfl (.inl rfl) (pe_call GL hr rfl mL kL bL .nil pass0 (pa_cons (pe_fld (pv 0) rfl) (pa_cons (C8.pe_gc rfl T.AC) pa_nil))))
      (pss_cons (ps_set (i := 2) scCr.nd rfl (.inl rfl) (pe_call GL hr rfl mL kL bL .nil pass0 (pa_cons (pe_fld (pv 0) rfl) (pa_cons (C8.pe_gc rfl T.AR) pa_nil))))
      (pss_cons (ps_if (PW.pt (pw_or (pt_cmpR op_isN (pv 1) pe_non (nomark _)) (pw_or1 (pt_cmpR op_isN (pv 2) pe_non (nomark _))))) (pss_one (ps_ret pe_non)) pss_nil)
      (pss_one (ps_ret (pe_op op_add_str (pv 1) (pv 2)))))), ?_⟩
    have hl : t.length ≤ 1000 := Nat.le_trans g.1 (by decide)
    refine ⟨_, rfl, p, C, dx, _, _, rfl, hp, CW.cl, CW.nT, rfl, t, [117, 100], rfl, hl, fun H1 s1 => ?_⟩
    refine ⟨_, rfl, p, C, dx, _, _, rfl, s1 _ _ hp, CW.cl, CW.nT, rfl, t, [108, 114], rfl, hl, fun H2 s2 => ?_⟩
    have k2 := k _ (s1.trans s2)
    unfold cornerV at k2
    refine ⟨_, rfl, rfl, _, rfl, ?_⟩
    cases e1 : (along t [117, 100]).getLast? with
    | none =>
      rw [e1] at k2
      exact iteT k2
    | some a =>
      rw [e1] at k2
      refine iteF ⟨_, rfl, rfl, _, rfl, ?_⟩
      cases e2 : (along t [108, 114]).getLast? with
      | none =>
        rw [e2] at k2
        exact iteT k2
      | some b =>
        rw [e2] at k2
        exact iteF ⟨_, rfl, _, rfl, _, _, rfl, rfl, by show 2 ≤ sizeLine; decide, k2⟩
end
end TA
end
section
set_option Elab.async false
set_option maxRecDepth 100000
set_option linter.all false
namespace TA
open TK
open PySem PySem.Spec PyProof.Rows L2 LamX TX TK TM TB
theorem ix_kdictK {X : Cx} {K : PySem.W.Frag} {w : World} (h : X.K = K) (h2 : X.w = w) : IxR X (rIxD K w) := by
  subst h
  subst h2
  exact ix_kdict
section
variable {P : Program} {w : World} {K : PySem.W.Frag} {mg : Str → Option Value} {base : Heap} {C CE fI aO : Addr} {fdI : FuncData}
end
end TA
end
namespace TB
end TB
namespace TU
end TU
section
set_option Elab.async false
set_option maxRecDepth 100000
set_option linter.all false
namespace TU
open PySem L2 TM TK TB
open PySem.Spec PyProof.Rows TH
section
variable {X : Cx} {n : Nat}
theorem pen_callB {id : String} {r : List V → Hp → VK → Prop} {x : Str} {e : Expr} {es : List Expr} {t : TA} {p pos : Pos} (hc : CallR X (.builtin id) r) (hg : Gl X x) (hm : X.mg x = none) (hv : bootBuiltins x = some (.builtin id)) (ha : PAn n X (e :: es) t) (hne : x ≠ "__name__" := by decide) (hdb : (x == ("__debug__" : Str)) = false := by decide)
    (he : starEach (e :: es) X.env = (false, eval e X.env) :: starEach es X.env := by rfl) (hpl : (backTo pos (starEach es X.env)).any (·.1) = false := by rfl) : PEn n X (.Call (.Name x p) (e :: es) [] pos) (tCB r t) := by
  intro pins s σ H Q hn I h
  refine wpAny_Call_Name_kw (ld_blt I hg hm hv ?_ hne hdb)
  exact PyProof.Rows.callWith_builtin1 (thn (ha pos pins s σ H _ hn I h) fun us s1 ⟨vs, H1, I1, r1, q1⟩ => hc pins s1 σ H1 vs us Q I1 r1 q1) he hpl
end
theorem fnR_n {P : Program} {w : World} {K : PySem.W.Frag} {mg : Str → Option Value} {base : Heap} {CX : CXT} {n k : Nat} {f : Addr} {sp : Sp} (F : FnR P w K mg base CX k f sp) : FnRn n P w K mg base CX k f sp := fun A outer s H us vs Q E _ hr e0 r hs => F A outer s H us vs Q E hr e0 r hs
theorem fnOk_n {P : Program} {w : World} {K : PySem.W.Frag} {mg : Str → Option Value} {base : Heap} {CX : CXT} {n k : Nat} {f : Addr} {fd : FuncData} {ps : List Str} {sp : Sp} (F : FnOk P w K mg base CX k f fd ps sp) (b : Binds K fd ps []) : FnRn n P w K mg base CX k f sp := fnR_n ((F.raw b .nil).imp fun vs H Q E h => by rw [List.append_nil]; exact h)
section
variable {P : Program} {w : World} {K : PySem.W.Frag} {mg : Str → Option Value} {base : Heap} {fT : Addr} {fdT : FuncData}
end
end TU
end
section
set_option Elab.async false
set_option maxRecDepth 100000
set_option linter.all false
namespace TW
open PySem L2 TM TK TB TU
open PySem.Spec PyProof.Rows TH
section
variable {X : Cx} {n : Nat}
theorem psn_par {i j : Nat} {x y : Str} {a b : Expr} {ta : TA} {px py pt pos : Pos} {kt k2 pt2} (hc : X.calm = true) (hN : X.N.Nodup) (hi : X.N[i]? = some x) (hj : X.N[j]? = some y) (hij : i ≠ j)
    (hx : X.env.scope.names.lookup x = some .local) (hy : X.env.scope.names.lookup y = some .local) (ha : PAn n X [a, b] ta)
    (hw : swappedStores [.Tuple [.Name x px, .Name y py] kt pt] (.Tuple [a, b] k2 pt2) X.env = pure (some [x, y]))
    (hs : swapsWithSole [.Tuple [.Name x px, .Name y py] kt pt] (.Tuple [a, b] k2 pt2) pos.line X.env = pure false := by rfl) :
    PSn n X (.Assign [.Tuple [.Name x px, .Name y py] kt pt] (.Tuple [a, b] k2 pt2) pos) (tPar i j ta) := by
  intro pins s σ H D hn I h
  rw [exec_Assign_arm]
  refine wpAny_bind (wpAny_standAt ?_)
  rw [hs]
  refine wpAny_bind (wpAny_pure ?_)
  rw [if_neg (by decide)]
  refine wpAny_bind (Tuple_ (thn (ha _ pins s σ H _ hn I h) fun us s1 ⟨vs, H1, I1, r1, q1⟩ => ?_))
  obtain ⟨v, w, e1, q1⟩ := q1
  subst e1
  obtain ⟨u1, u2, rfl, rv, rw'⟩ : ∃ u1 u2, us = [u1, u2] ∧ RelV v u1 ∧ RelV w u2 := by
    cases r1 with
    | cons p q =>
      cases q with
      | cons p' q' =>
        cases q'
        exact ⟨_, _, rfl, p, p'⟩
  refine wpAny_newObj_type ?_ (by show 2 ≤ sizeLine; decide)
  have I2 : Inv X pins σ H1 { s1 with heap := s1.heap.push { cls := .type "tuple", data := .seq [u1, u2].toArray } } := I1.kept (t' := s1.toks) fun b o e => Heap.get?_push_of_some _ e
  rw [hw]
  refine wpAny_bind (wpAny_pure ?_)
  show wpAny (model X.prog X.w) X.A (do rule "assign.swapped-stores"; let items ← unpackItems (.ref s1.heap.objs.size) 2 none; assignInOrder [fun v => bindName X.env y v, fun v => bindName X.env x v] items.reverse; pure Flow.next) _ _ _
  refine wpAny_bind (wpAny_rule (wpAny_bind (unpackItems_tuple (items := #[u1, u2]) (I.ok.hd hc) (IsTup.new s1.heap _) fun h' hx' => ?_)))
  have I3 := I2.kept (h' := h') (t' := s1.toks) fun b o e => hx' b o (Nat.ne_of_lt (Heap.lt_size e)) e
  show wpAny _ _ (assignInOrder [fun v => bindName X.env y v, fun v => bindName X.env x v] [u2, u1] >>= fun _ => pure Flow.next) _ _ _
  refine wpAny_bind (assignInOrder_cons (wpAny_bindName (store_ok I3 hN hj (.inl hy) rw' (fun s2 I4 => ?_) (.inr hy))))
  refine assignInOrder_cons (wpAny_bindName (store_ok I4 hN hi (.inl hx) rv (fun s3 I5 => assignInOrder_nil (wpAny_pure ?_)) (.inr hx)))
  rw [List.set_comm _ _ (Ne.symm hij)] at I5
  exact ⟨_, _, I5, q1⟩
end
section
variable {P : Program} {w : World} {K : PySem.W.Frag} {mg : Str → Option Value} {base : Heap} {C D : Addr}
end
end TW
end
namespace TW
end TW
section
set_option Elab.async false
set_option maxRecDepth 100000
set_option linter.all false
namespace TR
open PySem PySem.Spec PyProof.Rows L2 TM TK TB TP TH
theorem pssn_cut {X : Cx} {n : Nat} {st : Stmt} {rest : List Stmt} {t u : TS} (h1 : PSn n X st t) (h2 : PSsn n X rest u) : PSsn n X (st :: rest) (C8.tCut t u) := by
  intro pins s σ H D hn I h
  obtain ⟨Mid, hm, hu⟩ := h
  refine wpAny_execs_cons (thnN hn (h1 pins s σ H { D with nx := Mid } hn I hm) fun f s1 hn1 q => ?_)
  cases f with
  | next =>
    obtain ⟨σ', H', I', q⟩ := q
    exact h2 pins s1 σ' H' D hn1 I' (hu σ' H' q)
  | ret v => exact q
  | brk => exact q
  | cont => exact q
theorem like_tilts {n m : Nat} : ∀ (t : List Nat) {g : Grid}, Rect n m g → Like g (tilts n m t g)
  | [], _, _ => ⟨List.Perm.refl _, fun h => h⟩
  | c :: t, _, R => (like_tilt (c := c) R).trans (like_tilts t (tilt_rect R))
section
variable {P : Program} {w_ : World} {K : PySem.W.Frag} {mg : Str → Option Value} {base : Heap} {C D CU fRs fCl pM gM : Addr} {n : Nat} {fdM : FuncData}
end
end TR
end
namespace TR
end TR
namespace TM
end TM
section
set_option Elab.async false
set_option maxRecDepth 100000
set_option linter.all false
namespace TR
open PySem PySem.Spec PyProof.Rows L2 TM TK TB TP TH TU
section
variable {P : Program} {w_ : World} {K : PySem.W.Frag} {mg : Str → Option Value} {base : Heap} {C D CU fRs fCl fI fEx fCf fCn fN pM gM pH gH pW gW : Addr} {n : Nat} {fdM fdH fdW fdCf fdCn fdN : FuncData}
theorem scCn : FnScope ["value", "limit"] ["value", "limit"] (defScope sCheckNumber) := ⟨rfl, rfl, rfl, by decide +kernel, rfl, by decide +kernel, by decide +kernel⟩
def spCn : Sp := fun vs H Q _ => ∃ (k l : Nat), vs = [.int k, .int l] ∧ k ≤ l ∧ Q .non H
theorem isN_ok {k l : Nat} (h : k ≤ l) : TA.isN (.int k) (l : Int) = true := by
  show (decide ((0 : Int) ≤ k) && decide ((k : Int) ≤ l)) = true
  rw [decide_eq_true (by omega), decide_eq_true (by omega)]
  rfl
theorem ok_cn {f : Addr} {fd : FuncData} (F : Fun K "check_number" "check_number" sCheckNumber f fd) (GN : FnOk P w_ K mg base CX0 1 fN fdN ["value", "limit"] (TA.spNum K)) (kN : PySem.W.keepIn K (.ref fN) = true) (bN : Binds K fdN ["value", "limit"] []) (mN : mg "is_number" = some (.ref fN)) :
    FnOk P w_ K mg base CX0 2 f fd ["value", "limit"] spCn := by
  refine F.ok scCn (fun vs H Q E h => ?_) (fun cdv A outer s H vs Q E hr h => ?_)
  · obtain ⟨k, l, rfl, _⟩ := h
    rfl
  · obtain ⟨k, l, rfl, hk, q⟩ := h
    refine ⟨_, pss_one (ps_if (pt_not (pt_val (pe_call GN hr rfl mN kN bN .nil pass0 (pa_cons (pv 0) (pa_cons (pv 1) pa_nil))))) pss_never pss_nil), ?_⟩
    refine ⟨_, rfl, _, rfl, _, _, _, _, _, rfl, TA.kn_int _, ?_⟩
    rw [isN_ok hk]
    exact ⟨true, rfl, iteF q⟩
end
end TR
end
namespace TM
end TM
namespace TR
end TR
namespace TM
end TM
namespace TR
end TR
section
set_option Elab.async false
set_option maxRecDepth 100000
set_option linter.all false
namespace TG
open PySem PySem.Spec PyProof.Rows L2 TH GenW
def Sg (M : Model) (A : Around) (Φ : End → Shared → Prop) (c : Code) (t : Sem PySem.Fin) (fs : List Frame) (s : Shared) : Prop :=
  ∀ (Γ : PySem.Ctx) (p : Pos), Γ.code = c → Γ.Woken A → ∃ e s', Runs M Γ p t fs s e s' ∧ Φ e s'
section
variable {M : Model} {A : Around} {Φ : End → Shared → Prop} {c : Code} {fs : List Frame} {s : Shared}
/-- a part that raises nothing -/
theorem sg_wrap {α : Type} {m : Sem α} {K : α → Sem PySem.Fin} {J : Value → Sem PySem.Fin} {gd : Bool → Bool} {lv : List Value → List Value} (h : wpAny M (A.over c fs) m (fun a s' => Sg M A Φ c (K a) fs s') (fun _ _ => False) s) : Sg M A Φ c (m.wrap K J gd lv) fs s := fun Γ p hc hΓ => by
  subst hc
  exact runs_wrap_of_wp K J gd lv m (h (Γ.over fs) p (hΓ.over fs)) (fun a p' s' z => z Γ p' rfl hΓ) fun _ _ _ z => z.elim
theorem sg_bindw {α β : Type} {m : Sem α} {f : α → Sem β} {K : β → Sem PySem.Fin} {J : Value → Sem PySem.Fin} {gd : Bool → Bool} {lv : List Value → List Value} (h : wpAny M (A.over c fs) m (fun a s' => Sg M A Φ c ((f a).wrap K J gd lv) fs s') (fun _ _ => False) s) : Sg M A Φ c ((m >>= f).wrap K J gd lv) fs s := by
  have e : (m >>= f).wrap K J gd lv = m.wrap (fun a => (f a).wrap K J gd lv) J gd lv := by
    rw [Sem.bind_eq_wrap']
    exact Sem.wrap_wrap ..
  rw [e]
  exact sg_wrap h
theorem sg_at {p' : Pos} {k : Unit → Sem PySem.Fin} (h : Sg M A Φ c (k ()) fs s) : Sg M A Φ c (.at p' k) fs s := sg_wrap (m := standAt p') (K := k) (J := .raise) (gd := id) (lv := id) (wpAny_standAt h)
theorem sg_point {l : List Value} {k : Unit → Sem PySem.Fin} (h : Sg M A Φ c (k ()) fs s) : Sg M A Φ c (.point l k) fs s := sg_wrap (m := point) (K := k) (J := .raise) (gd := id) (lv := fun _ => l) (wpAny_point h)
theorem sg_call {c' : Code} {h : Option Value} {g : Bool} {l : List Value} {k : Result → Sem PySem.Fin} (z : ∀ p, Sg M A Φ c' (M.den c') (.ret k h g l c p [] :: fs) s) : Sg M A Φ c (.call c' h g l k) fs s := fun Γ p hc hΓ => by
  subst hc
  obtain ⟨e, s', hr, he⟩ := z p (Γ.goto c') p rfl (hΓ.goto c')
  exact ⟨e, s', runs_call_seg hr, he⟩
theorem sg_leaf {k : Result → Sem PySem.Fin} {h : Option Value} {g : Bool} {l kp : List Value} {c₁ : Code} {p₁ : Pos} (r : Result) (z : Sg M A Φ c₁ (k r) fs s) : Sg M A Φ c (leafOf r) (.ret k h g l c₁ p₁ kp :: fs) s := fun Γ p hc hΓ => by
  subst hc
  obtain ⟨e, s', hr, he⟩ := z (Γ.goto c₁) p₁ rfl (hΓ.goto c₁)
  exact ⟨e, s', Runs.pop r hr, he⟩
theorem sg_again {c' : Code} (hq : c'.quiet = true) (z : Sg M A Φ c' (M.den c') fs s) : Sg M A Φ c (.pure (.again c')) fs s := fun Γ p hc hΓ => by
  subst hc
  obtain ⟨e, s', hr, he⟩ := z (Γ.goto c') p rfl (hΓ.goto c')
  exact ⟨e, s', Runs.head (c₁ := c') (fun _ _ x => .again hq x) hr, he⟩
theorem sg_end (r : Result) (h : Φ (.ret r) s) : Sg M A Φ c (leafOf r) [] s := fun Γ p hc _ => by
  subst hc
  exact ⟨.ret r, s, Runs.leaf r, h⟩
theorem sg_yield {v : Value} {g : Bool} {l : List Value} {k : Resume → Sem PySem.Fin} (hfs : splitAtGen fs = none) (h : ∀ p, Φ (.susp v g l k c p fs) s) : Sg M A Φ c (.yield v g l k) fs s := fun Γ p hc _ => by
  subst hc
  exact ⟨_, s, Runs.yield' fs hfs, h p⟩
end
/-- a generator's state woken -/
def Wk (M : Model) (A : Around) (Φ : End → Shared → Prop) (gs : GenState) (s : Shared) : Prop :=
  match gs with
  | .fresh c => Sg M A Φ c (M.den c) [] s
  | .suspended k _ c _ fs _ => Sg M A Φ c (k (.send .none)) fs s
  | _ => False
theorem wpAny_wake {M : Model} {A : Around} {Φ : End → Shared → Prop} {E : Value → Shared → Prop} {s : Shared} {g : Nat} {gs : GenState} {l : List Value} {α : Type} {k : GenResult → Sem α} {Q : α → Shared → Prop} (hg : s.gens[g]? = some gs)
    (hw : Wk M A Φ gs (s.setGen g .running)) (hq : ∀ e s₁, s.gens.size ≤ s₁.gens.size → Φ e s₁ → e.quiet = true ∧ wpAny M A (k e.result) Q E (s₁.setGen g e.genState)) : wpAny M A (.resume g (.send .none) l k) Q E s := by
  intro Γ p hΓ
  rw [Sem.wp_resume]
  cases gs with
  | fresh c =>
    obtain ⟨e, s₁, hr, he⟩ := hw (Γ.wake c p) p rfl (hΓ.wake c p)
    have gz := runs_gsz hr
    rw [setGen_size] at gz
    obtain ⟨q1, q2⟩ := hq e s₁ gz he
    exact ⟨e.result, _, by unfold Wakes; rw [hg]; exact ⟨e, s₁, hr, q1, rfl, rfl⟩, q2 Γ p hΓ⟩
  | suspended k₀ l₀ c₀ p₀ fs₀ cl =>
    obtain ⟨e, s₁, hr, he⟩ := hw (Γ.wake c₀ p) p₀ rfl (hΓ.wake c₀ p)
    have gz := runs_gsz hr
    rw [setGen_size] at gz
    obtain ⟨q1, q2⟩ := hq e s₁ gz he
    exact ⟨e.result, _, by unfold Wakes; rw [hg]; exact ⟨e, s₁, hr, q1, rfl, rfl⟩, q2 Γ p hΓ⟩
  | running => exact hw.elim
  | finished => exact hw.elim
/-- next(g) of a generator that does not raise -/
theorem next_wake {P : Program} {w : World} {A : Around} {Φ : End → Shared → Prop} {E : Value → Shared → Prop} {s : Shared} {a : Addr} {g : Nat} {gs : GenState} {Q : Option Value → Shared → Prop} (hh : A.handled = none) (hl : s.heap.NoLimit) (hroom : A.depth < recursionLimit) (hg : s.heap.IsGen a g)
    (hgs : s.gens[g]? = some gs) (hw : Wk (model P w) A.in1 Φ gs (s.setGen g .running))
    (hy : ∀ v gd lv k c p fs s₁, s.gens.size ≤ s₁.gens.size → Φ (.susp v gd lv k c p fs) s₁ → (End.susp v gd lv k c p fs).quiet = true ∧ Q (some v) (s₁.setGen g (End.susp v gd lv k c p fs).genState))
    (hr : ∀ r s₁, Φ (.ret r) s₁ → (r = .ok (.ret .none) ∨ r = .ok .next) ∧ ∀ h', (∀ b o, s₁.heap.get? b = some o → h'.get? b = some o) → Q none { s₁.setGen g .finished with heap := h' }) :
    wpAny (model P w) A (pyNext (.ref a)) Q E s := by
  unfold pyNext
  refine wpAny_bind (wpAny_attempt (wpAny_callSpecial?_slot (name := Str.ofString "__next__") hg.typeIs slot_gen_next (wpAny_call_entry slot_gen_next hg.typeIs entry_gen_next ?_ (args_gen_next _))))
  show wpAny _ A.in1 (Builtin.Generator.genWake (.ref a) (.send .none)) _ _ s
  unfold Builtin.Generator.genWake
  refine wpAny_bind ?_
  refine wpAny_holding ?_
  refine wpAny_genNumber hg ?_
  refine wpAny_bind ?_
  refine wpAny_genState hgs ?_
  have main : (∃ c, gs = .fresh c) ∨ (∃ k l c p fs cl, gs = .suspended k l c p fs cl) := by
    cases gs with
    | fresh c => exact .inl ⟨c, rfl⟩
    | suspended k l c p fs cl => exact .inr ⟨k, l, c, p, fs, cl, rfl⟩
    | running => exact hw.elim
    | finished => exact hw.elim
  have post : ∀ e s₁, s.gens.size ≤ s₁.gens.size → Φ e s₁ → e.quiet = true ∧ True := fun e s₁ gz he => by
    cases e with
    | ret r => exact ⟨rfl, trivial⟩
    | susp v gd lv k c p fs => exact ⟨(hy v gd lv k c p fs s₁ gz he).1, trivial⟩
  rcases main with ⟨c, rfl⟩ | ⟨k, l, c, p, fs, cl, rfl⟩
  all_goals
    refine wpAny_bind (wpAny_roomToWake hl hroom ?_)
    show wpAny _ A.in1 (.resume g (.send .none) [] _) _ _ s
    refine wpAny_wake hgs hw fun e s₁ gz he => ⟨(post e s₁ gz he).1, ?_⟩
    cases e with
    | susp v gd lv k c p fs => exact wpAny_pure ⟨v, rfl, wpAny_pure (hy v gd lv k c p fs s₁ gz he).2⟩
    | ret r =>
      obtain ⟨hr1, hr2⟩ := hr r s₁ he
      have hres : End.result (.ret r) = .returned .none := by
        rcases hr1 with z | z <;> rw [z] <;> rfl
      first | rw [hres] | simp only [hres]
      show wpAny _ A.in1 (newExc (.type "StopIteration") [] >>= _) _ _ _
      refine wpAny_bind ?_
      simp only [newExc]
      simp only [newTuple]
      refine wpAny_bind (wpAny_newObj_type ?_ (by size_fits))
      refine wpAny_bind (m := firstArgMember _ _) (wpAny_of_eq (a := Value.none) (by first | rfl | (simp only [firstArgMember]; rfl)) ?_)
      refine wpAny_newObj_type ?_ (by size_fits)
      simp only [raiseNew]
      refine wpAny_bind ?_
      refine wpAny_bind (wpAny_handled ?_)
      first | rw [show A.in1.handled = none from hh] | rw [hh]
      refine wpAny_throw ?_
      refine wpAny_bind ?_
      refine wpAny_isInstance (T := "StopIteration") (b := true) ⟨_, Heap.get?_push_size _ rfl, rfl⟩ isSubtype_stop ?_
      refine wpAny_pure (hr2 _ fun b o hb => ?_)
      exact Heap.get?_push_of_some _ (Heap.get?_push_of_some _ hb)
end TG
end
section
set_option Elab.async false
set_option maxRecDepth 100000
set_option linter.all false
namespace TG
open PySem PySem.Spec PyProof.Rows L2 TH GenW
/-- a thing that may change -/
def mutO : HO → Bool
  | .tup _ => false
  | .ins _ _ _ => false
  | .own _ => false
  | .frz _ (.tup _) => false
  | _ => true
/-- what a generator promises: n tokens out, N items, the items; S0: what stood at its start; M: what its consumer may change -/
structure GP where
  n : Nat
  N : Nat
  Yx : Nat → V → Hp → Prop
  S0 : Addr → Prop
  M : Addr → Prop
/-- the consumer keeps all but M; what it may change in M stays a thing that may change -/
structure KM (M : Addr → Prop) (H H' : Hp) : Prop where
  k : ∀ b o, ¬ M b → H b = some o → H' b = some o
  m : ∀ b o, M b → H b = some o → mutO o = true → ∃ o', H' b = some o' ∧ mutO o' = true
theorem KM.of_same {M : Addr → Prop} {H H' : Hp} (h : ∀ b o, H b = some o → H' b = some o) : KM M H H' := ⟨fun b o _ e => h b o e, fun b o _ e m => ⟨o, h b o e, m⟩⟩
theorem KM.refl (M : Addr → Prop) (H : Hp) : KM M H H := .of_same fun _ _ e => e
/-- the generator keeps what stood at its start, and all that never changes -/
def Kept (S0 : Addr → Prop) (H H' : Hp) : Prop := ∀ b o, (S0 b ∨ mutO o = false) → H b = some o → H' b = some o
theorem Kept.of_same {S0 : Addr → Prop} {H H' : Hp} (s : ∀ b o, H b = some o → H' b = some o) : Kept S0 H H' := fun b o _ e => s b o e
theorem Kept.trans {S0 : Addr → Prop} {H1 H2 H3 : Hp} (a : Kept S0 H1 H2) (b : Kept S0 H2 H3) : Kept S0 H1 H3 := fun c o q e => b c o q (a c o q e)
/-- the contexts of one generator: where the stretch began, what the consumer holds besides -/
def Kin (X₀ X : Cx) : Prop := ∃ (s0 : Shared) (H0 : Hp) (pn : List (Addr × Obj)), X = { X₀ with s_0 := s0, H_0 := H0, pn := pn } ∧ s0.heap.objs.size = X₀.s_0.heap.objs.size ∧ pn.map (·.1) = X₀.pn.map (·.1)
theorem Kin.fpOk {X₀ X Y : Cx} (hX : Kin X₀ X) (hY : Kin X₀ Y) {pins : List (Addr × Obj)} {H H' : Hp} {b : Addr} (h : FpOk X pins H b) (hn : H' b = none) : FpOk Y pins H' b := by
  obtain ⟨s1, H1, p1, rfl, e1, e2⟩ := hX
  obtain ⟨s2, H2, p2, rfl, e3, e4⟩ := hY
  obtain ⟨_, h2, h3, h4, h5, h6⟩ := h
  refine ⟨hn, h2, h3, h4.imp id fun z => ?_, h5, fun p hp => ?_⟩
  · show s2.heap.objs.size ≤ b
    rw [e3, ← e1]
    exact z
  · rcases List.mem_append.mp hp with hp | hp
    · have : p.1 ∈ p1.map (·.1) := by
        rw [e2, ← e4]
        exact List.mem_map.mpr ⟨p, hp, rfl⟩
      obtain ⟨q, hq, e⟩ := List.mem_map.mp this
      rw [← e]
      exact h6 q (List.mem_append_left _ hq)
    · exact h6 p (List.mem_append_right _ hp)
/-- what may be asked of a stretch's end where the generator is through -/
def GFin (G : GP) (X : Cx) (i : Nat) (Φ : End → Shared → Prop) : Prop := i = G.N → ∀ s' σ' H', Inv X [] σ' H' s' → G.n ≤ s'.toks → Kept G.S0 X.H_0 H' → Φ (.ret (.ok (.ret .none))) s'
/-- what may be asked of a stretch's end, m items ahead -/
def Good (G : GP) (X₀ : Cx) (A : Around) : Nat → Cx → Nat → (End → Shared → Prop) → Prop
  | 0, X, i, Φ => GFin G X i Φ
  | m + 1, X, i, Φ => GFin G X i Φ ∧ ∀ (x : V) (v : Value) (s' : Shared) (l : List Value) (k : Resume → Sem PySem.Fin) (c : Code) (p : Pos) (fs : List Frame) (σ : L2.St) (H' : Hp) (ip : List (Addr × Obj)), RelV x v → fs.any Frame.guarded = false → G.n ≤ s'.toks → Inv X ip σ H' s' →
      Kept G.S0 X.H_0 H' → G.Yx i x H' → (∀ b ∈ X₀.pn.map (·.1), b ∉ ip.map (·.1)) → (∀ X', Kin X₀ X' → ∀ s'', Inv X' ip σ X'.H_0 s'' → G.n ≤ s''.toks → KM G.M H' X'.H_0 → ∀ Φ', Good G X₀ A m X' (i + 1) Φ' → Sg (model X₀.prog X₀.w) A Φ' c (k (.send .none)) fs s'') → Φ (.susp v false l k c p fs) s'
theorem Good.fin {G : GP} {X₀ : Cx} {A : Around} : ∀ {m : Nat} {X : Cx} {i : Nat} {Φ : End → Shared → Prop}, Good G X₀ A m X i Φ → GFin G X i Φ
  | 0, _, _, _, h => h
  | _ + 1, _, _, _, h => h.1
/-- what is wanted behind a statement of a generator: the items out so far, the heap at the stretch's begin -/
structure GE where
  nx : Nat → Hp → L2.St → Hp → Prop
  rt : Nat → Hp → VK := fun _ _ _ _ => False
  bk : Nat → Hp → L2.St → Hp → Prop := fun _ _ _ _ => False
  ct : Nat → Hp → L2.St → Hp → Prop := fun _ _ _ _ => False
abbrev GE.at (D : GE) (i : Nat) (H0 : Hp) : Ends := { nx := D.nx i H0, rt := D.rt i H0, bk := D.bk i H0, ct := D.ct i H0 }
abbrev TGs := GE → Nat → Hp → L2.St → Hp → Prop
/-- where the generator's code stands -/
structure GAt (X₀ : Cx) (A : Around) (c : Code) (fs : List Frame) (gd : Bool → Bool) : Prop where
  over : A.over c fs = X₀.A
  split : splitAtGen fs = none
  guard : fs.any Frame.guarded = false
  gd : gd false = false
/-- what follows -/
def GKon (G : GP) (X₀ : Cx) (A : Around) (ip : List (Addr × Obj)) (c : Code) (fs : List Frame) (K : Flow → Sem PySem.Fin) (D : GE) : Prop :=
  ∀ X, Kin X₀ X → ∀ (m i : Nat) (s : Shared) (f : Flow) (Φ : End → Shared → Prop), i + m = G.N → Good G X₀ A m X i Φ → G.n ≤ s.toks → SP X ip (D.at i X.H_0) f s → Sg (model X₀.prog X₀.w) A Φ c (K f) fs s
/-- the iterators of its own are none of what the consumer holds -/
def Dis (X₀ : Cx) (ip : List (Addr × Obj)) : Prop := ∀ b ∈ X₀.pn.map (·.1), b ∉ ip.map (·.1)
def GSt (G : GP) (X₀ : Cx) (st : Stmt) (t : TGs) : Prop :=
  ∀ (A : Around) (ip : List (Addr × Obj)) (c : Code) (fs : List Frame) (K : Flow → Sem PySem.Fin) (J : Value → Sem PySem.Fin) (gd : Bool → Bool) (lv : List Value → List Value) (D : GE), GAt X₀ A c fs gd → GKon G X₀ A ip c fs K D → Dis X₀ ip → ∀ X, Kin X₀ X →
    ∀ (m i : Nat) (s : Shared) (σ : L2.St) (H : Hp) (Φ : End → Shared → Prop), i + m = G.N → Good G X₀ A m X i Φ → G.n ≤ s.toks → Inv X ip σ H s → t D i X.H_0 σ H → Sg (model X₀.prog X₀.w) A Φ c ((exec st X₀.env).wrap K J gd lv) fs s
def GSs (G : GP) (X₀ : Cx) (sts : List Stmt) (t : TGs) : Prop :=
  ∀ (A : Around) (ip : List (Addr × Obj)) (c : Code) (fs : List Frame) (K : Flow → Sem PySem.Fin) (J : Value → Sem PySem.Fin) (gd : Bool → Bool) (lv : List Value → List Value) (D : GE), GAt X₀ A c fs gd → GKon G X₀ A ip c fs K D → Dis X₀ ip → ∀ X, Kin X₀ X →
    ∀ (m i : Nat) (s : Shared) (σ : L2.St) (H : Hp) (Φ : End → Shared → Prop), i + m = G.N → Good G X₀ A m X i Φ → G.n ≤ s.toks → Inv X ip σ H s → t D i X.H_0 σ H → Sg (model X₀.prog X₀.w) A Φ c ((execs sts X₀.env).wrap K J gd lv) fs s
section
variable {G : GP} {X₀ : Cx}
def tPl (t : TS) : TGs := fun D i H0 σ H => t (D.at i H0) σ H
/-- a statement that hands out nothing -/
theorem gst_plain {st : Stmt} {t : TS} (hx : X₀.xe = fun _ _ => False) (h : ∀ X, Kin X₀ X → PSn G.n X st t) : GSt G X₀ st (tPl t) := by
  intro A ip c fs K J gd lv D g k hd X hX m i s σ H Φ hm hΦ hn I ht
  refine sg_wrap ?_
  rw [g.over]
  have h1 := h X hX ip s σ H (D.at i X.H_0) hn I ht
  have eq : X.prog = X₀.prog ∧ X.w = X₀.w ∧ X.A = X₀.A ∧ X.env = X₀.env ∧ X.xe = X₀.xe := by
    obtain ⟨_, _, _, rfl, _⟩ := hX
    exact ⟨rfl, rfl, rfl, rfl, rfl⟩
  rw [eq.1, eq.2.1, eq.2.2.1, eq.2.2.2.1, eq.2.2.2.2, hx] at h1
  exact thnN hn h1 fun f s' hn' hs => k X hX m i s' f Φ hm hΦ hn' hs
def tN0 : TGs := fun D i H0 σ H => D.nx i H0 σ H
theorem gss_nil : GSs G X₀ [] tN0 := fun A ip c fs K J gd lv D g k hd X hX m i s σ H Φ hm hΦ hn I ht => k X hX m i s .next Φ hm hΦ hn ⟨σ, H, I, ht⟩
def tThen (t u : TGs) : TGs := fun D i H0 σ H => t { D with nx := fun i' H0' σ' H' => u D i' H0' σ' H' } i H0 σ H
theorem gss_cons {st : Stmt} {rest : List Stmt} {t u : TGs} (a : GSt G X₀ st t) (b : GSs G X₀ rest u) : GSs G X₀ (st :: rest) (tThen t u) := by
  intro A ip c fs K J gd lv D g k hd X hX m i s σ H Φ hm hΦ hn I ht
  rw [execs_cons_wrap]
  refine a A ip c fs _ J gd lv { D with nx := fun i' H0' σ' H' => u D i' H0' σ' H' } g (fun X' hX' m' i' s' f Φ' hm' hΦ' hn' hs => ?_) hd X hX m i s σ H Φ hm hΦ hn I ht
  cases f with
  | next =>
    obtain ⟨σ', H', I', q⟩ := hs
    exact b A ip c fs K J gd lv D g k hd X' hX' m' i' s' σ' H' Φ' hm' hΦ' hn' I' q
  | brk => exact k X' hX' m' i' s' .brk Φ' hm' hΦ' hn' hs
  | cont => exact k X' hX' m' i' s' .cont Φ' hm' hΦ' hn' hs
  | ret u => exact k X' hX' m' i' s' (.ret u) Φ' hm' hΦ' hn' hs
/-- yield e -/
def tGYd (G : GP) (te : TE) : TGs := fun D i H0 σ H => i < G.N ∧ te σ H fun x H1 => Kept G.S0 H0 H1 ∧ G.Yx i x H1 ∧ ∀ H2, KM G.M H1 H2 → D.nx (i + 1) H2 σ H2
theorem gst_yield {e : Expr} {yp pos : Pos} {te : TE} (hx : X₀.xe = fun _ _ => False) (he : ∀ X, Kin X₀ X → PEn G.n X e te) (hco : X₀.env.scope.isCoroutine = false := by rfl) (hi : interactive X₀.env = false := by rfl) : GSt G X₀ (.Expr (.Yield (some e) yp) pos) (tGYd G te) := by
  intro A ip c fs K J gd lv D g k hd X hX m i s σ H Φ hm hΦ hn I ht
  obtain ⟨hlt, ht⟩ := ht
  obtain ⟨m, rfl⟩ : ∃ m', m = m' + 1 := ⟨m - 1, by omega⟩
  rw [exec_Expr X₀.env _ pos hi rfl]
  have hy : ∀ v, yieldOut X₀.env v = yieldValue v := fun v => by simp only [yieldOut, hco, Bool.false_eq_true, if_false]
  show Sg _ A Φ c (.at pos fun _ => ((eval e X₀.env >>= fun v => (standAt yp >>= fun _ => yieldOut X₀.env v)) >>= fun x => dropValue (.Yield (some e) yp) pos x).wrap K J gd lv) fs s
  simp only [hy]
  refine sg_at ?_
  have ew : ∀ {α β γ : Type} (a : Sem α) (f : α → Sem β) (h : β → Sem γ) (K : γ → Sem PySem.Fin), ((a >>= f) >>= h).wrap K J gd lv = a.wrap (fun x => (f x).wrap (fun y => (h y).wrap K J gd lv) J gd lv) J gd lv := fun a f h K => by
    rw [Sem.bind_eq_wrap', Sem.wrap_wrap, Sem.bind_eq_wrap']
    exact Sem.wrap_wrap ..
  rw [ew]
  refine sg_wrap ?_
  rw [g.over]
  have h1 := he X hX ip s σ H _ hn I ht
  have eq : X.prog = X₀.prog ∧ X.w = X₀.w ∧ X.A = X₀.A ∧ X.env = X₀.env ∧ X.xe = X₀.xe := by
    obtain ⟨_, _, _, rfl, _⟩ := hX
    exact ⟨rfl, rfl, rfl, rfl, rfl⟩
  rw [eq.1, eq.2.1, eq.2.2.1, eq.2.2.2.1, eq.2.2.2.2, hx] at h1
  refine thnN hn h1 fun v s' hn' hv => ?_
  obtain ⟨x, H1, I1, rv, q1, q2, q3⟩ := hv
  refine sg_at (sg_yield g.split fun p => ?_)
  rw [g.gd]
  refine hΦ.2 x v s' _ _ c p fs σ H1 ip rv g.guard hn' I1 q1 q2 hd fun X' hX' s'' I'' hn'' hk Φ' hΦ' => ?_
  exact k X' hX' m (i + 1) s'' .next Φ' (by omega) hΦ' hn'' ⟨σ, X'.H_0, I'', q3 _ hk⟩
theorem gat_loop {A : Around} {c c' : Code} {fs : List Frame} {gd : Bool → Bool} {k : Result → Sem PySem.Fin} {l kp : List Value} {p : Pos} (g : GAt X₀ A c fs gd) (hw : c'.weight = 0) (hu : c'.cUnits = 0) : GAt X₀ A c' (.ret k none (gd false) l c p kp :: fs) id where
  over := (over_loop hw hu).trans g.over
  split := by
    show (splitAtGen fs).map _ = none
    rw [g.split]
    rfl
  guard := by
    show (gd false || fs.any Frame.guarded) = false
    rw [g.gd, g.guard]
    rfl
  gd := rfl
end
end TG
end
section
set_option Elab.async false
set_option maxRecDepth 100000
set_option linter.all false
namespace TG
open PySem PySem.Spec PyProof.Rows L2 TH GenW
section
variable {G : GP} {X₀ : Cx}
theorem Kin.eqs {X : Cx} (h : Kin X₀ X) : X.prog = X₀.prog ∧ X.w = X₀.w ∧ X.A = X₀.A ∧ X.env = X₀.env ∧ X.xe = X₀.xe ∧ X.K = X₀.K ∧ X.calm = X₀.calm := by
  obtain ⟨_, _, _, rfl, _⟩ := h
  exact ⟨rfl, rfl, rfl, rfl, rfl, rfl, rfl⟩
def tGFor (wi : TI) (g : TG) (tb : TGs) : TGs := fun D i H0 σ H => wi σ H fun J H1 => ∃ W : Nat → Nat → Nat → Hp → L2.St → Hp → Prop, (∃ m, W 0 m i H0 σ H1) ∧ ∀ j m i H0 σ H, W j m i H0 σ H →
  (J.stop j H ∧ D.nx i H0 σ H) ∨ (J.go j H ∧ ∃ Nw : Nat → Hp → L2.St → Hp → Prop, (∀ i' H0' σ' H', Nw i' H0' σ' H' → ∃ m', m' < m ∧ W (j + 1) m' i' H0' σ' H') ∧ ∀ x H', J.yld j H x H' → g x σ H' fun σ2 H2 => tb { D with nx := Nw, ct := Nw, bk := D.nx } i H0 σ2 H2)
theorem gst_for {tg iter : Expr} {body : List Stmt} {wi : TI} {g : TG} {tb : TGs} {pos : Pos} (hx : X₀.xe = fun _ _ => False) (hc : X₀.calm = true) (hi : ∀ X, Kin X₀ X → PI X tg iter wi) (hg : ∀ X, Kin X₀ X → PG X tg g) (hb : GSs G X₀ body tb)
    (hs : ∀ x, foldedSetIterable iter X₀.env x = pure x := by intro _; rfl) : GSt G X₀ (.For tg iter body [] pos) (tGFor wi g tb) := by
  intro A ip c fs K J gd lv D ga k hd X hX m i s σ H Φ hm hΦ hn I ht
  obtain ⟨e1, e2, e3, e4, e5, e6, e7⟩ := hX.eqs
  rw [exec_For]
  refine sg_bindw (wpAny_standAt ?_)
  refine sg_bindw ?_
  rw [ga.over]
  have h1 := (hi X hX).run ip s σ H _ I ht
  rw [e1, e2, e3, e4, e5, hx] at h1
  refine thnN hn h1 fun v s1 hn1 h1 => ?_
  refine sg_bindw (wpAny_of_eq (hs v) ?_)
  refine sg_bindw (wpAny_standAt ?_)
  refine sg_bindw (wpAny_holding ?_)
  rw [ga.over]
  refine thnN hn1 h1 fun itv s2 hn2 h2 => ?_
  obtain ⟨it, fp, tn, JJ, H2, rfl, I2, T, st2, f2, W, ⟨m0, w0⟩, turn⟩ := h2
  refine sg_call fun p => ?_
  have loop : ∀ (q j : Nat) X', Kin X₀ X' → ∀ (m i : Nat) (s : Shared) (σ : L2.St) (H : Hp) (Φ : End → Shared → Prop), i + m = G.N → Good G X₀ A m X' i Φ → G.n ≤ s.toks → Inv X' ip σ H s → tn j s.heap → (∀ b ∈ fp, H b = none) → W j q i X'.H_0 σ H →
      Sg (model X₀.prog X₀.w) A Φ (.forLoop tg (.ref it) body [] X₀.env) ((model X₀.prog X₀.w).den (.forLoop tg (.ref it) body [] X₀.env)) (.ret (fun r => ((match r with | .ok f => (.pure f : Sem Flow) | .error e => .raise e).onRaise fun (x : Value) => do
        if (← field x 1) == Value.none then unsupported "frame.own-activation:exception-without-traceback"
        setFlight x X₀.env.frame).wrap K J gd lv) none (gd false) (lv []) c p [] :: fs) s := by
    intro q
    induction q using Nat.strongRecOn with
    | ind q ih =>
      intro j X' hX' m i s3 σ3 H3 Φ hm hΦ hn3 I3 st3 fr3 w3
      obtain ⟨d1, d2, d3, d4, d5, d6, d7⟩ := hX'.eqs
      have gl := gat_loop (k := fun r => ((match r with | .ok f => (.pure f : Sem Flow) | .error e => .raise e).onRaise fun (x : Value) => do
        if (← field x 1) == Value.none then unsupported "frame.own-activation:exception-without-traceback"
        setFlight x X₀.env.frame).wrap K J gd lv) (c' := .forLoop tg (.ref it) body [] X₀.env) (l := lv []) (kp := []) (p := p) ga rfl rfl
      have ok3 : ∀ {H' : Hp}, (∀ b ∈ fp, H' b = none) → ∀ b ∈ fp, FpOk X' ip H' b := fun z b hb => hX.fpOk hX' (f2 b hb) (z b hb)
      show Sg _ A Φ _ ((forTurn tg (.ref it) body [] X₀.env).onRaise (fun x => do noteFrame x X₀.env; theTreesLotGoes x)) _ s3
      unfold forTurn
      rw [Sem.onRaise_eq_wrap]
      refine sg_bindw (wpAny_standAt ?_)
      refine sg_bindw (wpAny_onRaise ?_)
      rw [gl.over]
      have T' : Turn X'.prog X'.w X'.K tg JJ fp it tn := by
        rw [d1, d2, d6, ← e1, ← e2, ← e6]
        exact T
      rcases turn j q i X'.H_0 σ3 H3 w3 with ⟨stop, qn⟩ | ⟨go, Nw, hN, step⟩
      · have h1 := T'.done X' rfl rfl rfl (d7.trans hc) j ip s3 σ3 H3 (fun _ _ => False) I3 (ok3 fr3) st3 stop
        rw [d1, d2, d3] at h1
        refine wpAny_mono (wpAny_toks_of hn3 h1) (fun r s4 hr => ?_) fun _ _ z => z.2.elim
        obtain ⟨hn4, rfl, I4⟩ := hr
        refine sg_again rfl ?_
        exact sg_leaf (.ok .next) (k X' hX' m i s4 .next Φ hm hΦ hn4 ⟨σ3, H3, I4, qn⟩)
      · have h1 := T'.item X' rfl rfl rfl (d7.trans hc) j ip s3 σ3 H3 (fun _ _ => False) I3 (ok3 fr3) st3 go
        rw [d1, d2, d3] at h1
        refine wpAny_mono (wpAny_toks_of hn3 h1) (fun r s4 hr => ?_) fun _ _ z => z.2.elim
        obtain ⟨hn4, u, rfl, h4⟩ := hr
        refine sg_bindw ?_
        rw [gl.over]
        refine thnN hn4 h4 fun _ s5 hn5 ⟨x, H5, I5, r5, y5, st5, fr5⟩ => ?_
        have J5 := I5.pinned (ok3 fr5) (T.obj _ _ st5)
        refine sg_bindw ?_
        rw [gl.over]
        have h5 := (hg X' hX').run _ s5 σ3 H5 x u _ J5 r5 (step x H5 y5)
        rw [d1, d2, d3, d4, d5, hx] at h5
        refine thnN hn5 h5 fun _ s6 hn6 ⟨σ6, H6, I6, q6⟩ => ?_
        rw [Sem.bind_eq_wrap', Sem.wrap_wrap]
        refine hb A (ip ++ pinsAt fp s5.heap) _ _ _ _ _ _ { D with nx := Nw, ct := Nw, bk := D.nx } gl (fun X7 hX7 m7 i7 s7 f Φ7 hm7 hΦ7 hn7 hs7 => ?_) (fun b hb hm' => ?_) X' hX' m i s6 σ6 H6 Φ hm hΦ hn6 I6 q6
        rotate_left
        · rw [List.map_append, List.mem_append] at hm'
          rcases hm' with hm' | hm'
          · exact hd b hb hm'
          · obtain ⟨q, hq, rfl⟩ := List.mem_map.mp hm'
            have hfp := (of_pinsAt hq).1
            obtain ⟨_, _, _, _, _, f6⟩ := (f2 q.1 hfp)
            obtain ⟨_, _, pn0, rfl, _, e2'⟩ := hX
            have : q.1 ∈ pn0.map (·.1) := by rw [e2']; exact hb
            obtain ⟨q', hq', eq'⟩ := List.mem_map.mp this
            exact f6 q' (List.mem_append_left _ hq') eq'
        obtain ⟨z1, z2, z3, z4, z5, z6, z7⟩ := hX7.eqs
        have T7 : Turn X7.prog X7.w X7.K tg JJ fp it tn := by
          rw [z1, z2, z6, ← e1, ← e2, ← e6]
          exact T
        have more : ∀ {σ7 : L2.St} {H7 : Hp}, Inv X7 (ip ++ pinsAt fp s5.heap) σ7 H7 s7 → Nw i7 X7.H_0 σ7 H7 → Sg (model X₀.prog X₀.w) A Φ7 (.forLoop tg (.ref it) body [] X₀.env) ((model X₀.prog X₀.w).den (.forLoop tg (.ref it) body [] X₀.env)) (.ret (fun r => ((match r with | .ok f => (.pure f : Sem Flow) | .error e => .raise e).onRaise fun (x : Value) => do
            if (← field x 1) == Value.none then unsupported "frame.own-activation:exception-without-traceback"
            setFlight x X₀.env.frame).wrap K J gd lv) none (gd false) (lv []) c p [] :: fs) s7 := fun {σ7 H7} I7 z => by
          obtain ⟨q', hq, w7⟩ := hN i7 X7.H_0 σ7 H7 z
          obtain ⟨t1, t2⟩ := turn_back T7 st5 I7
          exact ih q' hq (j + 1) X7 hX7 m7 i7 s7 σ7 H7 Φ7 hm7 hΦ7 hn7 I7.unpinned t1 t2 w7
        cases f with
        | next => obtain ⟨σ7, H7, I7, z⟩ := hs7; exact sg_again rfl (more I7 z)
        | cont => obtain ⟨σ7, H7, I7, z⟩ := hs7; exact sg_again rfl (more I7 z)
        | brk =>
          obtain ⟨σ7, H7, I7, z⟩ := hs7
          exact sg_leaf (.ok .next) (k X7 hX7 m7 i7 s7 .next Φ7 hm7 hΦ7 hn7 ⟨σ7, H7, I7.unpinned, z⟩)
        | ret v =>
          obtain ⟨x7, σ7, H7, I7, r7, z⟩ := hs7
          exact sg_leaf (.ok (.ret v)) (k X7 hX7 m7 i7 s7 (.ret v) Φ7 hm7 hΦ7 hn7 ⟨x7, σ7, H7, I7.unpinned, r7, z⟩)
  exact loop m0 0 X hX m i s2 σ H2 Φ hm hΦ hn2 I2 st2 (fun b hb => (f2 b hb).1) w0
end
end TG
end
section
set_option Elab.async false
set_option maxRecDepth 100000
set_option linter.all false
namespace TG
open PySem PySem.Spec PyProof.Rows L2 TH GenW
/-- the heap's first n objects -/
def cutH (n : Nat) (h : Heap) : Heap := { h with objs := h.objs.extract 0 n }
theorem cutH_lt {n : Nat} {h : Heap} {b : Addr} (hb : b < n) : (cutH n h).get? b = h.get? b := by
  show (match (h.objs.extract 0 n)[b]? with | some ⟨_, _, .freed, _⟩ => none | o => o) = (match h.objs[b]? with | some ⟨_, _, .freed, _⟩ => none | o => o)
  have e : (h.objs.extract 0 n)[b]? = h.objs[b]? := by
    rw [Array.getElem?_extract]
    simp only [Nat.zero_add, Nat.sub_zero]
    by_cases z : b < h.objs.size
    · rw [if_pos (Nat.lt_min.mpr ⟨hb, z⟩)]
    · rw [if_neg (fun y => z (Nat.lt_min.mp y).2), Array.getElem?_eq_none (Nat.le_of_not_lt z)]
  rw [e]
theorem cutH_ge {n : Nat} {h : Heap} {b : Addr} (hb : n ≤ b) : (cutH n h).get? b = none := by
  show (match (h.objs.extract 0 n)[b]? with | some ⟨_, _, .freed, _⟩ => none | o => o) = none
  have e : (h.objs.extract 0 n)[b]? = none := by
    rw [Array.getElem?_extract]
    simp only [Nat.sub_zero]
    rw [if_neg (fun y => Nat.lt_irrefl _ (Nat.lt_of_lt_of_le (Nat.lt_min.mp y).1 hb))]
  rw [e]
theorem cutH_some {n : Nat} {h : Heap} {b : Addr} {o : Obj} (e : (cutH n h).get? b = some o) : b < n ∧ h.get? b = some o := by
  by_cases hb : b < n
  · rw [cutH_lt hb] at e
    exact ⟨hb, e⟩
  · rw [cutH_ge (Nat.le_of_not_lt hb)] at e
    cases e
theorem cutH_size {n : Nat} {h : Heap} (hn : n ≤ h.objs.size) : (cutH n h).objs.size = n := by
  show (h.objs.extract 0 n).size = n
  rw [Array.size_extract]
  omega
theorem funs_cut {n : Nat} {h1 h2 base : Heap} (k : ∀ b o, h1.get? b = some o → b < n) : ∀ {l : List Env}, h1.FunFrames base l → h2.FunFrames base l → (cutH n h2).FunFrames base l
  | [], _, _ => trivial
  | env :: rest, ⟨_, ⟨L1, o1, f1, _, g1, _⟩, r1⟩, ⟨a2, ⟨L2, o2, f2, b2, g2, d2⟩, r2⟩ => by
    rw [f1] at f2
    cases f2
    refine ⟨a2, ⟨L1, o2, f1, b2, ?_, d2⟩, funs_cut k r1 r2⟩
    rw [cutH_lt (k _ _ g1)]
    exact g2
/-- of one generator, whatever the consumer holds -/
def KinP (X₀ X : Cx) : Prop := ∃ (s0 : Shared) (H0 : Hp) (pn : List (Addr × Obj)), X = { X₀ with s_0 := s0, H_0 := H0, pn := pn } ∧ s0.heap.objs.size = X₀.s_0.heap.objs.size
theorem Kin.p {X₀ X : Cx} (h : Kin X₀ X) : KinP X₀ X := by
  obtain ⟨s0, H0, pn, e, q, _⟩ := h
  exact ⟨s0, H0, pn, e, q⟩
/-- woken: the invariant of its frame, from what stands -/
theorem wake_inv {X₀ Xy : Cx} {ip pn : List (Addr × Obj)} {σ : L2.St} {Hy H : Hp} {sy s : Shared} {Aw : Around} (hK : KinP X₀ Xy) (Iy : Inv Xy ip σ Hy sy) (E : Env0 X₀.prog X₀.w X₀.K X₀.mg X₀.base Aw X₀.outer s H) (hn : X₀.s_0.heap.objs.size ≤ s.heap.objs.size) (hex : X₀.ex = []) (hcell : X₀.env.cells = [])
    (own : ∀ o, sy.heap.get? X₀.env.locals = some o → s.heap.get? X₀.env.locals = some o) (hL : H X₀.env.locals = none) (hip : ∀ p ∈ ip, s.heap.get? p.1 = some p.2 ∧ H p.1 = none) (epn : pn.map (·.1) = X₀.pn.map (·.1))
    (hpn : ∀ p ∈ pn, s.heap.get? p.1 = some p.2 ∧ H p.1 = none ∧ p.1 ≠ X₀.env.locals ∧ p.1 ∉ X₀.fs ∧ ∀ v, p.2.data ≠ .cell v) :
    ∃ X', Kin X₀ X' ∧ X'.H_0 = H ∧ X'.pn = pn ∧ X'.s_0.heap = cutH X₀.s_0.heap.objs.size s.heap ∧ X'.s_0.os = s.os ∧ Inv X' ip σ H s := by
  obtain ⟨s0, H0, pn0, rfl, es⟩ := hK
  have ok := Iy.ok
  have lt : ∀ b o, s0.heap.get? b = some o → b < X₀.s_0.heap.objs.size := fun b o e => by
    rw [← es]
    exact Heap.lt_size e
  have szc : (cutH X₀.s_0.heap.objs.size s.heap).objs.size = X₀.s_0.heap.objs.size := cutH_size hn
  refine ⟨{ X₀ with s_0 := { s with heap := cutH X₀.s_0.heap.objs.size s.heap }, H_0 := H, pn := pn }, ⟨_, _, _, rfl, szc, epn⟩, rfl, rfl, rfl, rfl, ?_⟩
  refine ⟨⟨ok.mod, ok.kind, ok.glob, ok.blt, ?_, ok.inj, ok.has, fun x c h1 h2 => ?_, ok.hd, ok.frames, ok.stk, ok.exf, fun b o e => ?_, ?_, ok.noex, ok.exfs, ?_, E.frf⟩, rfl, E.bare, ?_, ?_, fun x c e => ?_, hL, fun x c e => ?_, fun p hp => ?_, E.hok, Iy.len⟩
  · show (cutH X₀.s_0.heap.objs.size s.heap).objs.size ≤ X₀.env.locals
    rw [szc, ← es]
    exact ok.above
  · have h2 : X₀.env.cells.lookup x = some c := h2
    rw [hcell] at h2
    cases h2
  · have q := ok.bs b o e
    refine ⟨?_, (E.bs b o e).2⟩
    show (cutH X₀.s_0.heap.objs.size s.heap).get? b = some o
    rw [cutH_lt (lt b o q.1)]
    exact (E.bs b o e).1
  · show X₀.base.objs.size ≤ (cutH X₀.s_0.heap.objs.size s.heap).objs.size
    rw [szc, ← es]
    exact ok.bsz
  · exact funs_cut lt ok.funs E.funs
  · exact Un.kept fun b o e => (cutH_some e).2
  · obtain ⟨m, hm, hl⟩ := Iy.loc
    have hm2 : s.heap.Ns X₀.env.locals m := by
      obtain ⟨o, es', ep, e1, r⟩ := hm
      exact ⟨o, es', ep, own o e1, r⟩
    refine ⟨m, hm2, fun i x v h1 h2 h3 => ?_⟩
    obtain ⟨u, r1, r2⟩ := hl i x v h1 h2 h3
    refine ⟨u, r1, ?_⟩
    rcases r2 with r2 | ⟨_, c, e, _⟩
    · exact .inl r2
    · have e : X₀.env.cells.lookup x = some c := e
      rw [hcell] at e
      cases e
  · have e : X₀.env.cells.lookup x = some c := e
    rw [hcell] at e
    cases e
  · have e : X₀.env.cells.lookup x = some c := e
    rw [hcell] at e
    cases e
  · rcases List.mem_append.mp hp with hp | hp
    · exact hpn p hp
    · obtain ⟨q1, q2⟩ := hip p hp
      obtain ⟨_, _, z3, z4, z5⟩ := Iy.pin p (List.mem_append_right _ hp)
      exact ⟨q1, q2, z3, z4, z5⟩
/-- what a stretch may change besides: all that is younger than the generator's call, but for what the consumer holds -/
def chOf (ng sz : Nat) (pa : List Addr) : List Addr := (List.range sz).filter fun b => decide (ng ≤ b) && !pa.contains b
theorem mem_ch {ng sz : Nat} {pa : List Addr} {b : Addr} : b ∈ chOf ng sz pa ↔ b < sz ∧ ng ≤ b ∧ b ∉ pa := by
  unfold chOf
  rw [List.mem_filter, List.mem_range]
  simp
/-- behind a stretch -/
structure Stp (P : Program) (w : World) (outer : List Env) (ng : Nat) (s : Shared) (H : Hp) (pn : List (Addr × Obj)) (s' : Shared) (H' : Hp) : Prop where
  os : s'.os = s.os
  bare : AllBare s'.gens
  un : Un (frs outer) (chOf ng s.heap.objs.size (pn.map (·.1))) H H' s.heap s'.heap
  hok : HOk P w H' s'.heap
theorem step_of {X' : Cx} {ip pn : List (Addr × Obj)} {σ : L2.St} {H H' : Hp} {s s' : Shared} {ng : Nat} (I : Inv X' ip σ H' s') (hex : X'.ex = []) (e1 : X'.H_0 = H) (e2 : X'.pn = pn) (e3 : X'.s_0.heap = cutH ng s.heap) (e4 : X'.s_0.os = s.os)
    (hpn : ∀ p ∈ pn, s.heap.get? p.1 = some p.2 ∧ H p.1 = none) : Stp X'.prog X'.w X'.outer ng s H pn s' H' := by
  have u := I.base
  rw [hex, e1, e3] at u
  have young : ∀ b o, s.heap.get? b = some o → b ∉ chOf ng s.heap.objs.size (pn.map (·.1)) → ¬ b < ng → ∃ p ∈ pn, p = (b, o) := fun b o e hb hlt => by
    have : b ∈ pn.map (·.1) := by
      refine Classical.byContradiction fun z => hb (mem_ch.mpr ⟨Heap.lt_size e, Nat.le_of_not_lt hlt, z⟩)
    obtain ⟨p, hp, rfl⟩ := List.mem_map.mp this
    have q := (hpn p hp).1
    rw [e] at q
    cases q
    exact ⟨p, hp, rfl⟩
  have pinned : ∀ p ∈ pn, s'.heap.get? p.1 = some p.2 ∧ H' p.1 = none ∧ p.1 ∉ X'.fs := fun p hp => by
    obtain ⟨q1, q2, _, q4, _⟩ := I.pin p (List.mem_append_left _ (by rw [e2]; exact hp))
    exact ⟨q1, q2, q4⟩
  refine ⟨I.os.trans e4, I.bare, ⟨fun b o e n hf hb => ?_, fun b o e n hf hb => ?_, fun b o e n hb => ?_, fun b o e hb => ?_, u.tups, u.frzs, u.tbls⟩, I.hok⟩
  · by_cases hlt : b < ng
    · exact u.keep b o (by rw [cutH_lt hlt]; exact e) n hf (by simp)
    · obtain ⟨p, hp, rfl⟩ := young b o e hb hlt
      exact (pinned _ hp).1
  · by_cases hlt : b < ng
    · exact u.slot b o (by rw [cutH_lt hlt]; exact e) n hf (by simp)
    · obtain ⟨p, hp, rfl⟩ := young b o e hb hlt
      exact absurd hf (pinned _ hp).2.2
  · by_cases hlt : b < ng
    · exact u.free b o (by rw [cutH_lt hlt]; exact e) n (by simp)
    · obtain ⟨p, hp, rfl⟩ := young b o e hb hlt
      exact (pinned _ hp).2.1
  · by_cases hlt : b < ng
    · exact u.there b o (by rw [cutH_lt hlt]; exact e) (by simp)
    · obtain ⟨p, hp, rfl⟩ := young b o e hb hlt
      exact ⟨_, (pinned _ hp).1⟩
/-- the state where a generator is woken: OB: the generator's own objects as they were; pn: what the consumer holds -/
structure WkAt (P : Program) (w : World) (K : PySem.W.Frag) (mg : Str → Option Value) (base : Heap) (n : Nat) (A : Around) (outer : List Env) (ng : Nat) (pa : List Addr) (OB : List (Addr × Obj)) (s : Shared) (H : Hp) (pn : List (Addr × Obj)) : Prop where
  env : Env0 P w K mg base A outer s H
  tok : n ≤ s.toks
  sz : ng ≤ s.heap.objs.size
  ob : ∀ p ∈ OB, s.heap.get? p.1 = some p.2 ∧ H p.1 = none
  pa : pn.map (·.1) = pa
  pn : ∀ p ∈ pn, s.heap.get? p.1 = some p.2 ∧ H p.1 = none ∧ p.1 ∉ frs outer ∧ ∀ v, p.2.data ≠ .cell v
/-- the generator's own objects, for its consumer to keep -/
def ObOk (outer : List Env) (OB : List (Addr × Obj)) (s : Shared) (H : Hp) : Prop := ∀ p ∈ OB, s.heap.get? p.1 = some p.2 ∧ H p.1 = none ∧ p.1 ∉ frs outer ∧ ∀ v, p.2.data ≠ .cell v
/-- a sleeping generator, i items out, m ahead -/
def Asl (P : Program) (w : World) (K : PySem.W.Frag) (mg : Str → Option Value) (base : Heap) (G : GP) (A : Around) (outer : List Env) (ng : Nat) (pa : List Addr) : Nat → Nat → List (Addr × Obj) → Hp → GenState → Prop
  | 0, i, OB, Hy, gs => ∀ s H pn, WkAt P w K mg base G.n A outer ng pa OB s H pn → KM G.M Hy H → ∀ Ψ : End → Shared → Prop,
      (i = G.N → ∀ s' H', Stp P w outer ng s H pn s' H' → G.n ≤ s'.toks → Kept G.S0 H H' → Ψ (.ret (.ok (.ret .none))) s') → Wk (model P w) A Ψ gs s
  | m + 1, i, OB, Hy, gs => ∀ s H pn, WkAt P w K mg base G.n A outer ng pa OB s H pn → KM G.M Hy H → ∀ Ψ : End → Shared → Prop,
      (i = G.N → ∀ s' H', Stp P w outer ng s H pn s' H' → G.n ≤ s'.toks → Kept G.S0 H H' → Ψ (.ret (.ok (.ret .none))) s') →
      (∀ (x : V) (v : Value) (s' : Shared) (H' : Hp) (l : List Value) (k : Resume → Sem PySem.Fin) (c : Code) (p : Pos) (fs : List Frame) (OB' : List (Addr × Obj)), RelV x v → fs.any Frame.guarded = false → G.n ≤ s'.toks → Stp P w outer ng s H pn s' H' → Kept G.S0 H H' → G.Yx i x H' →
        ObOk outer OB' s' H' → (∀ b ∈ pa, b ∉ OB'.map (·.1)) → Asl P w K mg base G A outer ng pa m (i + 1) OB' H' (.suspended k l c p fs false) → Ψ (.susp v false l k c p fs) s') → Wk (model P w) A Ψ gs s
/-- the own objects of a sleeping frame -/
theorem ob_of {X : Cx} {ip : List (Addr × Obj)} {σ : L2.St} {H : Hp} {s : Shared} (I : Inv X ip σ H s) (hst : X.stack = X.env :: X.outer) (hf : X.env.frame = some X.env.locals) (hL : X.env.locals ∉ X.fs) : ∃ oL, s.heap.get? X.env.locals = some oL ∧ ObOk X.outer ((X.env.locals, oL) :: ip) s H := by
  obtain ⟨m, ⟨o, es, ep, e1, e2, _⟩, _⟩ := I.loc
  refine ⟨o, e1, fun p hp => ?_⟩
  rcases List.mem_cons.mp hp with rfl | hp
  · exact ⟨e1, I.free, hL, fun v z => by rw [e2] at z; cases z⟩
  · obtain ⟨q1, q2, _, q4, q5⟩ := I.pin p (List.mem_append_right _ hp)
    exact ⟨q1, q2, q4, q5⟩
theorem asl_of {G : GP} {X₀ : Cx} {A : Around} (hex : X₀.ex = []) (hcell : X₀.env.cells = []) (hst : X₀.stack = X₀.env :: X₀.outer) (hfr : X₀.env.frame = some X₀.env.locals) (hLf : X₀.env.locals ∉ X₀.fs) (hpaL : X₀.env.locals ∉ X₀.pn.map (·.1)) :
    ∀ (m i : Nat), i + m = G.N → ∀ (Xy : Cx) (ip : List (Addr × Obj)) (σ : L2.St) (Hy : Hp) (sy : Shared) (oL : Obj) (gs : GenState), KinP X₀ Xy → Inv Xy ip σ Hy sy → sy.heap.get? X₀.env.locals = some oL →
      (∀ X', Kin X₀ X' → ∀ s'', Inv X' ip σ X'.H_0 s'' → G.n ≤ s''.toks → KM G.M Hy X'.H_0 → ∀ Φ', Good G X₀ A m X' i Φ' → Wk (model X₀.prog X₀.w) A Φ' gs s'') →
      Asl X₀.prog X₀.w X₀.K X₀.mg X₀.base G A X₀.outer X₀.s_0.heap.objs.size (X₀.pn.map (·.1)) m i ((X₀.env.locals, oL) :: ip) Hy gs := by
  have woken : ∀ {Xy : Cx} {ip : List (Addr × Obj)} {σ : L2.St} {Hy : Hp} {sy : Shared} {oL : Obj} {s : Shared} {H : Hp} {pn : List (Addr × Obj)}, KinP X₀ Xy → Inv Xy ip σ Hy sy → sy.heap.get? X₀.env.locals = some oL → WkAt X₀.prog X₀.w X₀.K X₀.mg X₀.base G.n A X₀.outer X₀.s_0.heap.objs.size (X₀.pn.map (·.1)) ((X₀.env.locals, oL) :: ip) s H pn →
      ∃ X', Kin X₀ X' ∧ X'.H_0 = H ∧ X'.pn = pn ∧ X'.s_0.heap = cutH X₀.s_0.heap.objs.size s.heap ∧ X'.s_0.os = s.os ∧ Inv X' ip σ H s := fun {Xy ip σ Hy sy oL s H pn} hK Iy eL W => by
    refine wake_inv hK Iy W.env W.sz hex hcell (fun o e => ?_) (W.ob _ List.mem_cons_self).2 (fun p hp => W.ob p (List.mem_cons_of_mem _ hp)) W.pa fun p hp => ?_
    · rw [eL] at e
      cases e
      exact (W.ob _ List.mem_cons_self).1
    · obtain ⟨q1, q2, q3, q4⟩ := W.pn p hp
      refine ⟨q1, q2, fun z => hpaL ?_, q3, q4⟩
      rw [← W.pa, ← z]
      exact List.mem_map.mpr ⟨_, hp, rfl⟩
  have stepped : ∀ {X' : Cx} {ip' pn : List (Addr × Obj)} {σ' : L2.St} {s s' : Shared} {H H' : Hp}, Kin X₀ X' → X'.H_0 = H → X'.pn = pn → X'.s_0.heap = cutH X₀.s_0.heap.objs.size s.heap → X'.s_0.os = s.os → (∀ p ∈ pn, s.heap.get? p.1 = some p.2 ∧ H p.1 = none) → Inv X' ip' σ' H' s' →
      Stp X₀.prog X₀.w X₀.outer X₀.s_0.heap.objs.size s H pn s' H' := fun {X' ip' pn σ' s s' H H'} hK a b c d hp I => by
    obtain ⟨s0, H0, pn0, rfl, _⟩ := hK
    have z := step_of (X' := { X₀ with s_0 := s0, H_0 := H0, pn := pn0 }) I hex a b c d hp
    exact z
  intro m
  induction m with
  | zero =>
    intro i hm Xy ip σ Hy sy oL gs hK Iy eL run s H pn W hk Ψ hf
    obtain ⟨X', hX', a, b, c, d, I'⟩ := woken hK Iy eL W
    have hpn : ∀ p ∈ pn, s.heap.get? p.1 = some p.2 ∧ H p.1 = none := fun p hp => ⟨(W.pn p hp).1, (W.pn p hp).2.1⟩
    refine run X' hX' s (by rw [a]; exact I') W.tok (by rw [a]; exact hk) Ψ fun ei s' σ' H' J hn' hkp => ?_
    exact hf ei s' H' (stepped hX' a b c d hpn J) hn' (by rw [← a]; exact hkp)
  | succ m ih =>
    intro i hm Xy ip σ Hy sy oL gs hK Iy eL run s H pn W hk Ψ hf hy
    obtain ⟨X', hX', a, b, c, d, I'⟩ := woken hK Iy eL W
    have hpn : ∀ p ∈ pn, s.heap.get? p.1 = some p.2 ∧ H p.1 = none := fun p hp => ⟨(W.pn p hp).1, (W.pn p hp).2.1⟩
    refine run X' hX' s (by rw [a]; exact I') W.tok (by rw [a]; exact hk) Ψ ⟨fun ei s' σ' H' J hn' hkp => hf ei s' H' (stepped hX' a b c d hpn J) hn' (by rw [← a]; exact hkp), ?_⟩
    intro x v s' l k c' p fs σ' H' ip' rv hg hn' J hkp hyx hdis run'
    have hS := stepped hX' a b c d hpn J
    have e' : X'.env = X₀.env ∧ X'.outer = X₀.outer ∧ X'.stack = X₀.stack := by
      obtain ⟨_, _, _, rfl, _⟩ := hX'
      exact ⟨rfl, rfl, rfl⟩
    obtain ⟨oL', eL', hob⟩ := ob_of J (by rw [e'.2.2, e'.1, e'.2.1]; exact hst) (by rw [e'.1]; exact hfr) (by show X'.env.locals ∉ frs X'.outer; rw [e'.1, e'.2.1]; exact hLf)
    rw [e'.1] at eL' hob
    rw [e'.2.1] at hob
    refine hy x v s' H' l k c' p fs ((X₀.env.locals, oL') :: ip') rv hg hn' hS (by rw [← a]; exact hkp) hyx hob (fun b hb => ?_) ?_
    · rw [List.map_cons, List.mem_cons]
      rintro (z | z)
      · have z : b = X₀.env.locals := z
        rw [z] at hb
        exact hpaL hb
      · exact hdis b hb z
    exact ih (i + 1) (by omega) X' ip' σ' H' s' oL' _ hX'.p J eL' fun X2 hX2 s2 J2 hn2 hk2 Φ2 hΦ2 => run' X2 hX2 s2 J2 hn2 hk2 Φ2 hΦ2
end TG
end
section
set_option Elab.async false
set_option maxRecDepth 100000
set_option linter.all false
namespace TG
open PySem PySem.Spec PyProof.Rows L2 TH GenW
/-- a generator def's promise: its arguments, the heap, how many items, the items -/
abbrev SpGn := List V → Hp → Nat → (Nat → V → Hp → Prop) → Prop
def MOk (H : Hp) (M : Addr → Prop) : Prop := ∀ b, M b → ∃ o, H b = some o ∧ mutO o = true
def S0of (H : Hp) (b : Addr) : Prop := H b ≠ none
/-- a generator that has not begun -/
structure GMk (P : Program) (w : World) (K : PySem.W.Frag) (mg : Str → Option Value) (base : Heap) (n k : Nat) (outer : List Env) (H : Hp) (s : Shared) (N : Nat) (Yx : Nat → V → Hp → Prop) (a : Addr) (g : Nat) (c : Code) (L : Addr) (oL : Obj) (s' : Shared) : Prop where
  a1 : s.heap.objs.size ≤ a
  a2 : a < s'.heap.objs.size
  isg : s'.heap.IsGen a g
  gs : s'.gens[g]? = some (.fresh c)
  os : s'.os = s.os
  bare : AllBare s'.gens
  keep : ∀ b o, s.heap.get? b = some o → s'.heap.get? b = some o
  l1 : s.heap.objs.size ≤ L
  la : L ≠ a
  ob : ObOk outer [(L, oL)] s' H
  asl : ∀ (Aw : Around) (pa : List Addr) (M : Addr → Prop), Room k Aw → Aw.frames = some outer → L ∉ pa → MOk H M → Asl P w K mg base ⟨n, N, Yx, S0of H, M⟩ Aw outer s.heap.objs.size pa N 0 [(L, oL)] H (.fresh c)
def FnG (n : Nat) (P : Program) (w : World) (K : PySem.W.Frag) (mg : Str → Option Value) (base : Heap) (k : Nat) (f : Addr) (sp : SpGn) : Prop :=
  ∀ (A : Around) (outer : List Env) (s : Shared) (H : Hp) (us : List Value) (vs : List V) (N : Nat) (Yx : Nat → V → Hp → Prop), Room k A → Env0 P w K mg base A outer s H → Vals vs us → sp vs H N Yx →
    codeAny (model P w) A (.call (.ref f) ⟨us, []⟩) (fun r s' => ∃ a g c L oL, r = .ok (.ret (.ref a)) ∧ GMk P w K mg base n k outer H s N Yx a g c L oL s') s
theorem sg_func {P : Program} {w : World} {A : Around} {Φ : End → Shared → Prop} {body : List Stmt} {env : Env} {s : Shared}
    (h : ∀ J, Sg (model P w) A Φ (.func body env) ((execs body env).wrap (fun f => .pure (.done (.ret (match f with | .ret v => v | _ => .none)))) J id id) [] s) : Sg (model P w) A Φ (.func body env) ((model P w).den (.func body env)) [] s := by
  show Sg _ A Φ _ (.point [] fun _ => ((execs body env).onRaise (leaving env)) >>= _) [] s
  refine sg_point ?_
  rw [Sem.onRaise_eq_wrap]
  rw [Sem.bind_eq_wrap', Sem.wrap_wrap]
  rw [Sem.wrap_congr (execs body env) _ _ (K' := fun f => (.pure (.done (.ret (match f with | .ret v => v | _ => .none))) : Sem PySem.Fin)) (fun f => by cases f <;> rfl) fun e => rfl]
  exact h _
theorem fng_of {P : Program} {w : World} {K : PySem.W.Frag} {mg : Str → Option Value} {base : Heap} {n k : Nat} {f : Addr} {name qual : Str} {params : Arguments} {body : List Stmt} {scope : Scope} {dV kV doc pm cdv ct oc : Value} {an od : Option Addr} {osl : Array (Option Value)} {Ns ps : List Str} {sp : SpGn}
    (lk : K.lookup f = some ⟨oc, od, .func (PySem.W.fnOf name qual params body scope dV kV doc pm an cdv ct), osl⟩) (hcd : PySem.W.codeIn K cdv qual = true) (b : Binds K (PySem.W.fnOf name qual params body scope dV kV doc pm an cdv ct) ps []) (S : GScope Ns ps scope) (hnc : ∀ m, cellsFrom m scope.names [] = [])
    (len : ∀ vs H N Yx, sp vs H N Yx → vs.length = ps.length)
    (hbody : ∀ (A : Around) (outer : List Env) (s : Shared) (H : Hp) (vs : List V) (N : Nat) (Yx : Nat → V → Hp → Prop) (M : Addr → Prop) (pn : List (Addr × Obj)), Room k (A.deeper (envOfC qual scope s.heap.objs.size f cdv)) → sp vs H N Yx → MOk H M →
      ∃ t, GSs ⟨n, N, Yx, S0of H, M⟩ { (cxOf CX0 P w K mg base Ns qual scope f cdv A outer s H fun _ _ _ => False).nox with pn := pn } body t ∧ ∀ H2, KM M H H2 → t { nx := fun i H0 _ H' => i = N ∧ Kept (S0of H) H0 H', rt := fun i H0 v H' => v = .non ∧ i = N ∧ Kept (S0of H) H0 H' } 0 H2 (start Ns vs) H2) :
    FnG n P w K mg base (k + 1) f sp := by
  intro A outer s H us vs N Yx hr e0 r hsp
  have hl : vs.length = ps.length := len _ _ _ _ hsp
  have KX : K.In s.heap := e0.mod.kin.keeps fun b o e => (e0.bs b o e).1
  have lim : s.heap.NoLimit := e0.mod.nolimit.keeps fun b o e => (e0.bs b o e).1
  have hkind : ∀ y ∈ ps.zip us, scope.names.lookup y.1 = some .local ∨ (scope.names.lookup y.1 = some .cell ∧ ((cellsFrom (s.heap.objs.size + 1) scope.names []).lookup y.1).isSome = true) := fun ⟨m, v⟩ hy => by
    rcases S.par m (List.of_mem_zip hy).1 with q | q
    · exact .inl q
    · exact .inr ⟨q, PySem.W.cellsFrom_some _ _ _ (.inl q)⟩
  have hul : us.length = ps.length := by rw [← r.length]; exact hl
  have hb := b s us KX (by rw [List.append_nil]; exact hul)
  rw [List.append_nil] at hb
  refine codeAny_call_generator hr.depth (KX _ _ lk) rfl S.co S.gen rfl (PySem.W.codeRec_of KX hcd) (hb _ _ _ _ ?_)
  refine wpAny_newFunctionEnv_cells S.kind hkind fun env he s1 x => ?_
  subst he
  have lim1 : s1.heap.NoLimit := lim.keeps x.toInCall.keep
  refine ⟨lim1, ?_⟩
  obtain ⟨h1, tk, es1, hk1⟩ := x.done
  have os1 : s1.os = s.os := by rw [es1]
  have gen1 : s1.gens = s.gens := by rw [es1]
  have lt1 : s.heap.objs.size < s1.heap.objs.size := x.toInCall.ns.lt
  have kp1 : ∀ b o, s.heap.get? b = some o → s1.heap.get? b = some o := x.toInCall.keep
  have I1 : ∀ {Aw : Around}, Room (k + 1) Aw → Aw.frames = some outer → Inv (gcxOf P w K mg base Ns qual scope f cdv Aw outer s H (fun _ _ _ => False) []).nox [] (start Ns vs) H s1 := fun {Aw} hrw hfr =>
    (inv_startG S hrw.hd (⟨hfr, e0.mod, e0.bs, e0.bsz, e0.funs, e0.frf, e0.hok, e0.bare⟩ : Env0 P w K mg base Aw outer s H) hl r x).wish _
  have IA := I1 hr e0.frames
  have notF : s.heap.objs.size ∉ frs outer := fun hm => by
    obtain ⟨_, o, e, _⟩ := e0.funs.mem hm
    exact absurd (Heap.lt_size e) (Nat.lt_irrefl _)
  obtain ⟨oL, eL, hob⟩ := ob_of IA rfl rfl notF
  have main : ∀ (go : Obj) (nm qn : Value) (tk2 : Nat), go.cls = .type "generator" → go.data = .fields #[.int s1.gens.size 0, nm, qn] → go.slots = #[] → (∀ h : Heap, (h.push go).get? h.objs.size = some go) →
      GMk P w K mg base n (k + 1) outer H s N Yx s1.heap.objs.size s1.gens.size (.func body (envOfC qual scope s.heap.objs.size f cdv)) s.heap.objs.size oL { s1 with gens := s1.gens.push (.fresh (.func body (envOfC qual scope s.heap.objs.size f cdv))), toks := tk2, heap := s1.heap.push go } := by
    intro go nm qn tk2 hgc hgd hgs hgp
    have hpushed : (s1.heap.push go).get? s1.heap.objs.size = some go := hgp _
    have kp2 : ∀ b o, s1.heap.get? b = some o → (s1.heap.push go).get? b = some o := fun b o e => Heap.get?_push_of_some _ e
    refine ⟨Nat.le_of_lt lt1, ?_, ⟨go, nm, qn, hpushed, hgc, hgd, hgs⟩, Array.getElem?_push_size .., os1, AllBare.push (by rw [gen1]; exact e0.bare) rfl, fun b o e => kp2 b o (kp1 b o e), Nat.le_refl _, Nat.ne_of_lt lt1, fun p hp => ?_, ?_⟩
    · show _ < (s1.heap.push go).objs.size
      rw [Heap.size_push]
      exact Nat.lt_succ_self _
    · obtain ⟨q1, q2, q3, q4⟩ := hob p hp
      exact ⟨kp2 _ _ q1, q2, q3, q4⟩
    · intro Aw pa M hrw hfr hpa hM
      obtain ⟨t, ht, hq⟩ := hbody Aw outer s H vs N Yx M (pa.map fun b => (b, default)) (hrw.deeper _) hsp hM
      have epa : (pa.map fun b => (b, (default : Obj))).map (·.1) = pa := by
        rw [List.map_map]
        exact List.map_id pa
      have res := asl_of (G := ⟨n, N, Yx, S0of H, M⟩) (X₀ := { (cxOf CX0 P w K mg base Ns qual scope f cdv Aw outer s H fun _ _ _ => False).nox with pn := pa.map fun b => (b, default) }) (A := Aw) rfl (hnc _) rfl rfl notF (by show s.heap.objs.size ∉ _; rw [epa]; exact hpa)
        N 0 (Nat.zero_add _) (gcxOf P w K mg base Ns qual scope f cdv Aw outer s H (fun _ _ _ => False) []).nox [] (start Ns vs) H s1 oL (.fresh (.func body (envOfC qual scope s.heap.objs.size f cdv))) ⟨s, H, [], rfl, rfl⟩ (I1 hrw hfr) eL
        (fun X' hX' s'' J hn hk Φ' hΦ' => by
          refine sg_func fun J' => ?_
          refine ht Aw [] _ _ _ _ _ _ _ ⟨over_func, rfl, rfl, rfl⟩ (fun X2 hX2 m2 i2 s2 fl Φ2 hm2 hΦ2 hn2 hs2 => ?_) (fun b _ z => nomatch z) X' hX' N 0 s'' _ _ Φ' (Nat.zero_add _) hΦ' hn J (hq _ hk)
          cases fl with
          | next =>
            obtain ⟨σ', H', J2, e2, kp⟩ := hs2
            exact sg_end (.ok (.ret .none)) (hΦ2.fin e2 s2 σ' H' J2 hn2 kp)
          | brk => obtain ⟨_, _, _, q⟩ := hs2; exact q.elim
          | cont => obtain ⟨_, _, _, q⟩ := hs2; exact q.elim
          | ret u =>
            obtain ⟨v, σ', H', J2, rv, ev, e2, kp⟩ := hs2
            subst ev
            obtain rfl : u = Value.none := rv
            exact sg_end (.ok (.ret .none)) (hΦ2.fin e2 s2 σ' H' J2 hn2 kp))
      have eng : ({ (cxOf CX0 P w K mg base Ns qual scope f cdv Aw outer s H fun _ _ _ => False).nox with pn := pa.map fun b => (b, (default : Obj)) } : Cx).pn.map (·.1) = pa := epa
      rw [eng] at res
      exact res
  exact ⟨_, _, _, _, oL, rfl, main _ _ _ _ rfl rfl rfl fun h => Heap.get?_push_size _ rfl⟩
end TG
end
section
set_option Elab.async false
set_option maxRecDepth 100000
set_option linter.all false
namespace TG
open PySem PySem.Spec PyProof.Rows L2 TH GenW
/-- the frame's own things are older than the generator's call -/
structure Old (X : Cx) (pins : List (Addr × Obj)) (ng : Nat) : Prop where
  loc : X.env.locals < ng
  cell : ∀ x c, X.env.cells.lookup x = some c → c < ng
  pin : ∀ p ∈ X.pn ++ pins, p.1 < ng
  sz : X.s_0.heap.objs.size ≤ ng
theorem Old.of {X : Cx} {pins : List (Addr × Obj)} {σ : L2.St} {H : Hp} {s : Shared} (I : Inv X pins σ H s) : Old X pins s.heap.objs.size where
  loc := I.lt
  cell := fun x c e => by
    obtain ⟨v, o, h, _⟩ := I.cell x c e
    exact Heap.lt_size h
  pin := fun p hp => Heap.lt_size (I.pin p hp).1
  sz := I.sz
/-- a generator asleep, its consumer's frame about it -/
structure Slp (X : Cx) (B : Around) (G : GP) (ng : Nat) (a g : Nat) (go : Obj) (pa : List Addr) (i : Nat) (H : Hp) (s : Shared) : Prop where
  le : i ≤ G.N
  go1 : go.cls = .type "generator"
  go2 : ∃ nm qn, go.data = .fields #[.int g 0, nm, qn]
  go3 : go.slots = #[]
  an : ng ≤ a
  st : ∃ OB Hy gs, s.gens[g]? = some gs ∧ (0 < i → Sus gs = true) ∧ KM G.M Hy H ∧ ObOk X.stack ((a, go) :: OB) s H ∧ (∀ b ∈ a :: pa, b ∉ OB.map (·.1)) ∧ Asl X.prog X.w X.K X.mg X.base G B.in1 X.stack ng (a :: pa) (G.N - i) i OB Hy gs
/-- what the consumer holds besides -/
def Hold (X : Cx) (hold : List (Addr × Obj)) (H : Hp) (s : Shared) : Prop := ObOk X.stack hold s H
theorem allBare_set {s : Shared} {g : Nat} {x : GenState} (h : AllBare s.gens) (hx : x.bare = true) : AllBare (s.setGen g x).gens := allBare_setGen h hx
/-- the invariant behind a stretch -/
theorem inv_step {X : Cx} {pins : List (Addr × Obj)} {σ : L2.St} {H H' : Hp} {s s' : Shared} {ng : Nat} {pn : List (Addr × Obj)} {G : Array GenState} (I : Inv X pins σ H s) (O : Old X pins ng) (S : Stp X.prog X.w X.stack ng s H pn s' H') (hG : AllBare G) : Inv X pins σ H' (wg s' G) := by
  refine I.call' (ch := chOf ng s.heap.objs.size (pn.map (·.1))) S.os S.un S.hok hG fun b hb => ?_
  obtain ⟨_, h2, _⟩ := mem_ch.mp hb
  refine ⟨.inr (Nat.le_trans O.sz h2), fun z => ?_, fun x c e z => ?_, fun p hp z => ?_⟩
  · exact Nat.lt_irrefl _ (Nat.lt_of_lt_of_le O.loc (by rw [← z]; exact h2))
  · exact Nat.lt_irrefl _ (Nat.lt_of_lt_of_le (O.cell x c e) (by rw [z]; exact h2))
  · exact Nat.lt_irrefl _ (Nat.lt_of_lt_of_le (O.pin p hp) (by rw [z]; exact h2))
theorem env_set {P : Program} {w : World} {K : PySem.W.Frag} {mg : Str → Option Value} {base : Heap} {A B : Around} {outer : List Env} {s : Shared} {H : Hp} {g : Nat} (e : Env0 P w K mg base A outer s H) (hB : B.frames = some outer) : Env0 P w K mg base B outer (s.setGen g .running) H :=
  ⟨hB, e.mod, e.bs, e.bsz, e.funs, e.frf, e.hok, allBare_set e.bare rfl⟩
theorem turn {X : Cx} {B : Around} {G : GP} {ng a g i k : Nat} {go : Obj} {pa : List Addr} {hold : List (Addr × Obj)} {pins : List (Addr × Obj)} {σ : L2.St} {H : Hp} {s : Shared} {Q : Option Value → Shared → Prop} {E : Value → Shared → Prop} (I : Inv X pins σ H s) (O : Old X pins ng) (hr : Room k B) (hB : B.frames = some X.stack) (hn : G.n ≤ s.toks) (S : Slp X B G ng a g go pa i H s) (hpa : hold.map (·.1) = pa) (hh : Hold X hold H s)
    (hy : i < G.N → ∀ x v s' H', RelV x v → Inv X pins σ H' s' → G.n ≤ s'.toks → Kept G.S0 H H' → G.Yx i x H' → Slp X B G ng a g go pa (i + 1) H' s' → Hold X hold H' s' → Q (some v) s')
    (hs : i = G.N → ∀ s' H', Inv X pins σ H' s' → G.n ≤ s'.toks → Kept G.S0 H H' → Hold X hold H' s' → Q none s') : wpAny (model X.prog X.w) B (pyNext (.ref a)) Q E s := by
  obtain ⟨OB, Hy, gs, hgs, _, hk, hob, _, hA⟩ := S.st
  obtain ⟨nm, qn, gd⟩ := S.go2
  obtain ⟨ha1, ha2, ha3, ha4⟩ := hob _ List.mem_cons_self
  have isg : ∀ {h : Heap}, h.get? a = some go → h.IsGen a g := fun e => ⟨go, nm, qn, e, S.go1, gd, S.go3⟩
  have gl : g < s.gens.size := (Array.getElem?_eq_some_iff.mp hgs).1
  have W : WkAt X.prog X.w X.K X.mg X.base G.n B.in1 X.stack ng (a :: pa) OB (s.setGen g .running) H ((a, go) :: hold) := by
    refine ⟨env_set I.env0 hB, hn, Nat.le_of_lt (Nat.lt_of_le_of_lt S.an (Heap.lt_size ha1)), fun p hp => ?_, by rw [← hpa]; rfl, fun p hp => ?_⟩
    · obtain ⟨q1, q2, _⟩ := hob p (List.mem_cons_of_mem _ hp)
      exact ⟨q1, q2⟩
    · rcases List.mem_cons.mp hp with rfl | hp
      · exact ⟨ha1, ha2, ha3, ha4⟩
      · exact hh p hp
  -- the generator's object stands behind a stretch
  have stay : ∀ {s' : Shared} {H' : Hp}, Stp X.prog X.w X.stack ng (s.setGen g .running) H ((a, go) :: hold) s' H' → ObOk X.stack ((a, go) :: hold) s' H' := fun {s' H'} P q hq => by
    have nch : q.1 ∉ chOf ng (s.setGen g .running).heap.objs.size (((a, go) :: hold).map (·.1)) := fun z => (mem_ch.mp z).2.2 (List.mem_map.mpr ⟨q, hq, rfl⟩)
    have hq0 : s.heap.get? q.1 = some q.2 ∧ H q.1 = none ∧ q.1 ∉ frs X.stack ∧ ∀ v, q.2.data ≠ .cell v := by
      rcases List.mem_cons.mp hq with rfl | hq
      · exact ⟨ha1, ha2, ha3, ha4⟩
      · exact hh q hq
    exact ⟨P.un.keep q.1 q.2 hq0.1 hq0.2.1 hq0.2.2.1 nch, P.un.free q.1 q.2 hq0.1 hq0.2.1 nch, hq0.2.2.1, hq0.2.2.2⟩
  have Irun : Inv X pins σ H (s.setGen g .running) := ⟨I.ok, I.os, allBare_set I.bare rfl, I.base, I.loc, I.cell, I.free, I.freeC, I.pin, I.hok, I.len⟩
  let Φ : End → Shared → Prop := fun e s₁ => match e with
    | .susp v gd lv kk c p fs => ∃ x H' OB', RelV x v ∧ gd = false ∧ fs.any Frame.guarded = false ∧ i < G.N ∧ G.n ≤ s₁.toks ∧ Stp X.prog X.w X.stack ng (s.setGen g .running) H ((a, go) :: hold) s₁ H' ∧ Kept G.S0 H H' ∧ G.Yx i x H' ∧ ObOk X.stack OB' s₁ H' ∧ (∀ b ∈ a :: pa, b ∉ OB'.map (·.1)) ∧
        Asl X.prog X.w X.K X.mg X.base G B.in1 X.stack ng (a :: pa) (G.N - (i + 1)) (i + 1) OB' H' (.suspended kk lv c p fs false)
    | .ret r => r = .ok (.ret .none) ∧ i = G.N ∧ ∃ H', G.n ≤ s₁.toks ∧ Stp X.prog X.w X.stack ng (s.setGen g .running) H ((a, go) :: hold) s₁ H' ∧ Kept G.S0 H H'
  have wk : Wk (model X.prog X.w) B.in1 Φ gs (s.setGen g .running) := by
    have fin : i = G.N → ∀ s' H', Stp X.prog X.w X.stack ng (s.setGen g .running) H ((a, go) :: hold) s' H' → G.n ≤ s'.toks → Kept G.S0 H H' → Φ (.ret (.ok (.ret .none))) s' := fun e s' H' P hn' kp => ⟨rfl, e, H', hn', P, kp⟩
    cases hm : G.N - i with
    | zero =>
      rw [hm] at hA
      exact hA _ H _ W hk Φ fin
    | succ m =>
      rw [hm] at hA
      refine hA _ H _ W hk Φ fin fun x v s' H' l kk c p fs OB' rv hg hn' P kp hyx hob' hdis hA' => ?_
      refine ⟨x, H', OB', rv, rfl, hg, by omega, hn', P, kp, hyx, hob', hdis, ?_⟩
      rw [show G.N - (i + 1) = m by omega]
      exact hA'
  refine next_wake hr.hd I.nolimit hr.depth (isg ha1) hgs wk (fun v gd lv kk c p fs s₁ gz he => ?_) fun r s₁ he => ?_
  · obtain ⟨x, H', OB', rv, rfl, hg, hlt, hn', P, kp, hyx, hob', hdis, hA'⟩ := he
    have eg : (End.susp v false lv kk c p fs).genState = .suspended kk lv c p fs false := by
      show GenState.suspended kk lv c p fs (false || fs.any Frame.guarded) = _
      rw [hg]
      rfl
    have st' := stay P
    refine ⟨by show (!(false || fs.any Frame.guarded)) = true; rw [hg]; rfl, ?_⟩
    rw [eg]
    have bare' : AllBare (s₁.setGen g (.suspended kk lv c p fs false)).gens := allBare_set P.bare rfl
    refine hy hlt x v _ H' rv (inv_step Irun O P bare') hn' kp hyx ⟨hlt, S.go1, S.go2, S.go3, S.an, OB', H', _, ?_, fun _ => rfl, KM.refl _ _, fun q hq => ?_, hdis, hA'⟩ fun q hq => st' q (List.mem_cons_of_mem _ hq)
    · have hsz : g < s₁.gens.size := Nat.lt_of_lt_of_le gl gz
      show (s₁.gens.setIfInBounds g _)[g]? = _
      rw [Array.getElem?_setIfInBounds_self, if_pos hsz]
    · rcases List.mem_cons.mp hq with rfl | hq
      · exact st' _ List.mem_cons_self
      · exact hob' q hq
  · obtain ⟨rfl, ei, H', hn', P, kp⟩ := he
    refine ⟨.inl rfl, fun h' hk' => ?_⟩
    have bare' : AllBare (s₁.setGen g .finished).gens := allBare_set P.bare rfl
    have J := inv_step Irun O P bare'
    exact hs ei _ H' (J.kept (t' := s₁.toks) hk') hn' kp fun q hq => by
      obtain ⟨y1, y2, y3, y4⟩ := stay P q (List.mem_cons_of_mem _ hq)
      exact ⟨hk' _ _ y1, y2, y3, y4⟩
end TG
end
namespace TG
end TG
section
set_option Elab.async false
set_option maxRecDepth 100000
set_option linter.all false
namespace TG
open PySem PySem.Spec PyProof.Rows L2 TH GenW
/-- a thing that nobody follows changes -/
theorem inv_push {X : Cx} {pins : List (Addr × Obj)} {σ : L2.St} {H : Hp} {s : Shared} {ng S : Nat} {f : Obj → Obj} (I : Inv X pins σ H s) (O : Old X pins ng) (hS : ng ≤ S) (hn : H S = none) : Inv X pins σ H { s with heap := s.heap.update S f } := by
  have other : ∀ b o, b ≠ S → s.heap.get? b = some o → (s.heap.update S f).get? b = some o := fun b o hb e => (Heap.get?_update_other _ _ (Ne.symm hb)).trans e
  have nt : ∀ {b u}, H b = some u → b ≠ S := fun e z => by rw [z, hn] at e; cases e
  refine I.call' (ch := [S]) (s' := { s with heap := s.heap.update S f }) rfl ⟨fun b o e n _ hx => other b o (fun z => hx (by rw [z]; exact List.mem_cons_self)) e, fun b o e n _ hx => ⟨o.slots, other b o (fun z => hx (by rw [z]; exact List.mem_cons_self)) e⟩, fun _ _ _ n _ => n, fun b o e hx => ⟨o, other b o (fun z => hx (by rw [z]; exact List.mem_cons_self)) e⟩, fun _ _ q => q, fun _ _ _ q => q, fun _ ps q => ⟨#[], by rw [q]; simp⟩⟩
    (fun b u e => ?_) I.bare fun b hb => ?_
  · refine (I.hok b u e).stay (fun c v hc y => other c v ?_ y) (fun _ y => y) fun _ _ y => y
    rcases hc with z | z
    · rw [z]
      exact nt e
    · exact nt z
  · rw [List.mem_singleton.mp hb]
    exact ⟨.inr (Nat.le_trans O.sz hS), fun z => Nat.lt_irrefl _ (Nat.lt_of_lt_of_le O.loc (by rw [← z]; exact hS)), fun x c e z => Nat.lt_irrefl _ (Nat.lt_of_lt_of_le (O.cell x c e) (by rw [z]; exact hS)), fun p hp z => Nat.lt_irrefl _ (Nat.lt_of_lt_of_le (O.pin p hp) (by rw [z]; exact hS))⟩
/-- a list that is followed from now on -/
theorem inv_track {X : Cx} {pins : List (Addr × Obj)} {σ : L2.St} {H : Hp} {s : Shared} {ng S c : Nat} {acc : Array Value} {ys : List V} (I : Inv X pins σ H s) (O : Old X pins ng) (hS : ng ≤ S) (hn : H S = none) (e : s.heap.get? S = some (lstObj acc c)) (rv : Vals ys acc.toList) (hl : ys.length ≤ sizeLine) : Inv X pins σ (upd H S (.lst ys)) s := by
  have nt : ∀ {b u}, H b = some u → b ≠ S := fun e z => by rw [z, hn] at e; cases e
  refine I.call' (ch := [S]) (s' := s) rfl ⟨fun b o e _ _ _ => e, fun b o e _ _ _ => ⟨o.slots, e⟩, fun b o _ n hx => ?_, fun b o e _ => ⟨o, e⟩, fun b xs q => ?_, fun b o u q => ?_, fun b ps q => ⟨#[], ?_⟩⟩ (fun b u q => ?_) I.bare fun b hb => ?_
  · rw [upd_ne (fun z => hx (by rw [z]; exact List.mem_cons_self))]
    exact n
  · rw [upd_ne (nt q)]
    exact q
  · rw [upd_ne (nt q)]
    exact q
  · rw [upd_ne (nt q), q]
    simp
  · by_cases z : b = S
    · subst z
      rw [upd_same] at q
      cases q
      exact ⟨hl, acc.toList, c, rv, by rw [e]⟩
    · rw [upd_ne z] at q
      refine (I.hok b u q).stay (fun _ _ _ y => y) (fun d y => ?_) fun d xs y => ?_
      · rw [upd_ne (nt y)]
        exact y
      · rw [upd_ne (nt y)]
        exact y
  · rw [List.mem_singleton.mp hb]
    exact ⟨.inr (Nat.le_trans O.sz hS), fun z => Nat.lt_irrefl _ (Nat.lt_of_lt_of_le O.loc (by rw [← z]; exact hS)), fun x c e z => Nat.lt_irrefl _ (Nat.lt_of_lt_of_le (O.cell x c e) (by rw [z]; exact hS)), fun p hp z => Nat.lt_irrefl _ (Nat.lt_of_lt_of_le (O.pin p hp) (by rw [z]; exact hS))⟩
theorem fill {X : Cx} {A : Around} {G : GP} {ng a g k S : Nat} {go : Obj} {pins : List (Addr × Obj)} {σ : L2.St} {R : Result → Shared → Prop} {res : Value} (O : Old X pins ng) (hr : Room k A.in1) (hfr : A.in1.frames = some X.stack) (hSg : ng ≤ S) (hSa : S ≠ a) (Pv : Nat → Hp → List V → Prop) (hN : G.N ≤ sizeLine)
    (step : ∀ i x H H' ys, i < G.N → Pv i H ys → Kept G.S0 H H' → G.Yx i x H' → Pv (i + 1) H' (ys ++ [x]))
    (hend : ∀ s' acc c H H' ys, s'.heap.get? S = some (lstObj acc c) → Vals ys acc.toList → ys.length = G.N → Inv X pins σ H' s' → G.n ≤ s'.toks → H' S = none → Pv G.N H ys → Kept G.S0 H H' → R (.ok (.ret res)) s') :
    ∀ (m i : Nat) (s : Shared) (H : Hp) (acc : Array Value) (c : Nat) (ys : List V), i + m = G.N → Inv X pins σ H s → G.n ≤ s.toks → Slp X A.in1 G ng a g go [S] i H s → Hold X [(S, lstObj acc c)] H s → Vals ys acc.toList → ys.length = i → Pv i H ys →
      codeAny (model X.prog X.w) A (.builtin "list.extend.loop" ⟨[.ref S, .ref a, res], []⟩) R s := by
  intro m
  induction m with
  | zero =>
    intro i s H acc c ys hm I hn SL hh rv hl hp
    refine codeAny_builtin F.entry_extend_loop ?_
    rw [Around.under_plainId F.plain_extend_loop _]
    show wpAny _ A.in1 (pyNext (Value.ref a) >>= _) _ _ s
    refine wpAny_bind (turn (hold := [(S, lstObj acc c)]) I O hr hfr hn SL rfl hh (fun hlt => absurd hlt (by omega)) fun ei s' H' I' hn' kp hh' => ?_)
    obtain ⟨z1, z2, _⟩ := hh' _ List.mem_cons_self
    exact wpAny_pure (hend s' acc c H H' ys z1 rv (by omega) I' hn' z2 (by rw [← ei]; exact hp) kp)
  | succ m ih =>
    intro i s H acc c ys hm I hn SL hh rv hl hp
    refine codeAny_builtin F.entry_extend_loop ?_
    rw [Around.under_plainId F.plain_extend_loop _]
    show wpAny _ A.in1 (pyNext (Value.ref a) >>= _) _ _ s
    refine wpAny_bind (turn (hold := [(S, lstObj acc c)]) I O hr hfr hn SL rfl hh (fun hlt x v s' H' rx I' hn' kp hyx SL' hh' => ?_) fun ei => absurd ei (by omega))
    obtain ⟨z1, z2, z3, z4⟩ := hh' _ List.mem_cons_self
    have z1 : s'.heap.get? S = some (lstObj acc c) := z1
    have z2 : H' S = none := z2
    show wpAny _ A.in1 (updateSeq S (·.push v) >>= _) _ _ s'
    have asz : acc.size = i := by
      have e0 := rv.length
      have e5 : acc.toList.length = acc.size := by simp
      omega
    refine wpAny_bind (wpAny_updateSeq z1 rfl (wpAny_pure ⟨plainId_quiet F.plain_extend_loop _, ?_⟩) (show acc.size ≤ sizeLine by omega) (by show (acc.push v).size ≤ sizeLine + 1; rw [Array.size_push]; omega))
    obtain ⟨c2, e1⟩ : ∃ c2, (s'.heap.update S (Obj.mapSeq (·.push v))).get? S = some (lstObj (acc.push v) c2) := ⟨_, Heap.get?_update_self (Obj.mapSeq (·.push v)) z1 rfl⟩
    have I2 := inv_push (f := Obj.mapSeq (·.push v)) I' O hSg z2
    obtain ⟨OB, Hy, gs, q1, q2, q3, q4, q5, q6⟩ := SL'.st
    refine ih (i + 1) _ H' (acc.push v) c2 (ys ++ [x]) (by omega) I2 hn' ⟨SL'.le, SL'.go1, SL'.go2, SL'.go3, SL'.an, OB, Hy, gs, q1, q2, q3, fun q hq => ?_, q5, q6⟩ (fun q hq => ?_) ?_ (by simp [hl]) (step i x H H' ys hlt hp kp hyx)
    · obtain ⟨y1, y2, y3, y4⟩ := q4 q hq
      have ne : q.1 ≠ S := fun z => by
        rcases List.mem_cons.mp hq with rfl | hq
        · exact hSa z.symm
        · exact q5 S (List.mem_cons_of_mem _ List.mem_cons_self) (List.mem_map.mpr ⟨q, hq, z⟩)
      exact ⟨(Heap.get?_update_other _ _ (Ne.symm ne)).trans y1, y2, y3, y4⟩
    · rw [List.mem_singleton.mp hq]
      exact ⟨e1, z2, z3, fun v z => nomatch z⟩
    · rw [Array.toList_push]
      exact rv.append (.cons rx .nil)
section
variable {X : Cx} {n : Nat}
def tListGn (sp : SpGn) (ta : TA) : TE := fun σ H Q => ta σ H fun vs H1 => ∃ (N : Nat) (Yx : Nat → V → Hp → Prop), sp vs H1 N Yx ∧ N ≤ sizeLine ∧ ∃ Pv : Nat → Hp → List V → Prop, Pv 0 H1 [] ∧
  (∀ i x H2 H3 ys, i < N → Pv i H2 ys → Kept (S0of H1) H2 H3 → Yx i x H3 → Pv (i + 1) H3 (ys ++ [x])) ∧ ∀ H2 H3 ys S, Pv N H2 ys → ys.length = N → Kept (S0of H1) H2 H3 → H3 S = none → Q (.ref S) (upd H3 S (.lst ys))
theorem pen_listG {k : Nat} {f : Addr} {sp : SpGn} {x : Str} {e : Expr} {es : List Expr} {ta : TA} {p p0 pos pos' : Pos} (FG : FnG n X.prog X.w X.K X.mg X.base k f sp) (hr : Room (k + 4) X.A) (hg : Gl X x) (hm : X.mg x = some (.ref f)) (hk : PySem.W.keepIn X.K (.ref f) = true) (hgl : Gl X "list") (hml : X.mg "list" = none)
    (ha : PAn n X (e :: es) ta) (hdb : (x == ("__debug__" : Str)) = false := by decide) (he : starEach (e :: es) X.env = (false, eval e X.env) :: starEach es X.env := by rfl) (hpl : (backTo pos (starEach es X.env)).any (·.1) = false := by rfl)
    (he2 : starEach [.Call (.Name x p) (e :: es) [] pos] X.env = (false, eval (.Call (.Name x p) (e :: es) [] pos) X.env) :: starEach [] X.env := by rfl) : PEn n X (.Call (.Name "list" p0) [.Call (.Name x p) (e :: es) [] pos] [] pos') (tListGn sp ta) := by
  intro pins s σ H Q hn I h
  refine wpAny_Call_Name_kw (ld_blt I hgl hml (show bootBuiltins "list" = some (.type "list") by decide +kernel) ?_ (by decide) (by decide))
  refine PyProof.Rows.callWith_type1 ?_ he2 rfl
  rw [he2]
  show wpAny _ _ (spliced ((false, eval (.Call (.Name x p) (e :: es) [] pos) X.env) :: backTo pos' (starEach [] X.env))) _ _ s
  refine Calls.spliced_cons ?_
  refine wpAny_Call_Name_kw (ld_glob I hg hm ?_ hdb)
  refine PySem.W.callWith_K (h₀ := X.base) I.ok.mod.kin hk (thnN hn (ha pos pins s σ H _ hn I h) fun us s1 hn1 ⟨vs, H1, I1, r, q⟩ => ⟨I1.kIn, ?_⟩) he hpl
  obtain ⟨N, Yx, hsp, hN, Pv, h0, step, done⟩ := q
  have called : wpAny (model X.prog X.w) X.A (call (.ref f) us) (fun u s' => ∃ a g c L oL, u = .ref a ∧ GMk X.prog X.w X.K X.mg X.base n k X.stack H1 s1 N Yx a g c L oL s') X.xe s1 := by
    refine wpAny_call (codeAny_mono (FG X.A X.stack s1 H1 us vs N Yx (hr.mono (by omega)) I1.env0 r hsp) fun rr s2 hq => ?_)
    obtain ⟨a, gn, c, L, oL, rfl, Z⟩ := hq
    exact ⟨a, gn, c, L, oL, rfl, Z⟩
  refine thnN hn1 called fun u s2 hn2 hq => ?_
  obtain ⟨a, gn, c, L, oL, rfl, Z⟩ := hq
  refine Calls.spliced_nil ?_
  have I2 : Inv X pins σ H1 s2 := I1.call' (ch := []) Z.os (Un.kept Z.keep) (I1.hok.kept Z.keep) Z.bare fun b z => by simp at z
  obtain ⟨go, nm, qn, ga, gc, gd, gs0⟩ := Z.isg
  have O : Old X pins s1.heap.objs.size := Old.of I1
  have nofr : ∀ {b : Addr}, s1.heap.objs.size ≤ b → b ∉ frs X.stack := fun {b} hb hm' => by
    rcases List.mem_cons.mp (I1.stkSub b hm') with z | z
    · exact absurd I1.lt (by rw [← z]; exact Nat.not_lt.mpr hb)
    · exact I1.nofs hb z
  have sz2 : s1.heap.objs.size ≤ s2.heap.objs.size := Nat.le_trans Z.a1 (Nat.le_of_lt Z.a2)
  have isg : ∀ {h : Heap}, h.get? a = some go → h.IsGen a gn := fun e => ⟨go, nm, qn, e, gc, gd, gs0⟩
  have hSa : s2.heap.objs.size ≠ a := Nat.ne_of_gt Z.a2
  -- a new list
  refine callType_codes (Q₁ := fun obj t => obj = .ref s2.heap.objs.size ∧ t = { s2 with heap := s2.heap.push { cls := .type "list", data := .seq #[] } }) F.called_list (F.typeCall_list_1 _) F.entry_list_init (code_list_new _ ⟨rfl, rfl⟩) fun obj t ht => ?_
  obtain ⟨rfl, rfl⟩ := ht
  have e1 : (s2.heap.push { cls := .type "list", data := .seq #[] }).get? s2.heap.objs.size = some (lstObj #[] 0) := Heap.get?_push_size _ rfl
  refine ⟨⟨_, e1, rfl⟩, F.args_list_init_2 _ _, ?_⟩
  show wpAny _ X.A.in1.in1 (do let o1 ← Builtin.List.listItems (.ref s2.heap.objs.size); Builtin.List.listUpdate (.ref s2.heap.objs.size) (fun _ => #[]); letGo o1.toList.reverse; Builtin.List.listExtendWith (.ref s2.heap.objs.size) (.ref a) .none) _ _ _
  refine wpAny_bind ?_
  unfold Builtin.List.listItems
  refine wpAny_bind (wpAny_seqItems e1 rfl (wpAny_pure ?_))
  show wpAny _ X.A.in1.in1 (updateSeq s2.heap.objs.size (fun _ => #[]) >>= fun _ => letGo (#[] : Array Value).toList.reverse >>= fun _ => Builtin.List.listExtendWith (.ref s2.heap.objs.size) (.ref a) .none) _ _ _
  refine wpAny_bind (wpAny_updateSeq e1 rfl ?_)
  have e2 := Heap.get?_update_self (Obj.mapSeq (fun _ => (#[] : Array Value))) e1 rfl
  refine wpAny_bind (wpAny_letGo ?_)
  unfold Builtin.List.listExtendWith
  have k1 : ∀ b o, s2.heap.get? b = some o → (s2.heap.push { cls := .type "list", data := .seq #[] }).get? b = some o := fun b o e => Heap.get?_push_of_some _ e
  have up : ∀ {h : Heap} (f : Obj → Obj), (∀ b o, s2.heap.get? b = some o → h.get? b = some o) → ∀ b o, s2.heap.get? b = some o → (h.update s2.heap.objs.size f).get? b = some o := fun {h} f q b o e =>
    (Heap.get?_update_other _ _ (Ne.symm (Nat.ne_of_lt (Heap.lt_size e)))).trans (q b o e)
  have k2 := up (Obj.mapSeq (fun _ => (#[] : Array Value))) k1
  have ty : ∀ {h : Heap}, (∀ b o, s2.heap.get? b = some o → h.get? b = some o) → h.IsGen a gn := fun q => isg (q a go ga)
  refine wpAny_bind (wpAny_typeOf (Heap.IsGen.typeIs (s := { s2 with heap := _ }) (ty k2)) ?_)
  have c1 : Builtin.List.listSameRef (.ref s2.heap.objs.size) (.ref a) = false := by simp [Builtin.List.listSameRef, hSa]
  have c2 : (Value.type "generator" == Value.type "list") = false := by decide
  have c3 : (Value.type "generator" == Value.type "tuple") = false := by decide
  simp only [c1, c2, c3, Bool.or_false, Bool.false_eq_true, if_false]
  refine wpAny_bind (wpAny_pyIter_gen (s := { s2 with heap := _ }) (ty k2) ?_)
  refine wpAny_bind (wpAny_holding ?_)
  unfold Builtin.List.listLengthHint
  refine wpAny_bind (wpAny_specialOf (Heap.IsGen.typeIs (s := { s2 with heap := _ }) (ty k2)) F.gen_no_len ?_)
  show wpAny _ X.A.in1.in1 (specialOf (Value.ref a) (Str.ofString "__length_hint__") >>= _) _ _ _
  refine wpAny_bind (wpAny_specialOf (Heap.IsGen.typeIs (s := { s2 with heap := _ }) (ty k2)) F.gen_no_hint ?_)
  refine wpAny_pure ?_
  show wpAny _ X.A.in1.in1 (rule "list.extend.makes-room" >>= fun _ => Builtin.List.listTouch (.ref s2.heap.objs.size) >>= fun _ => again (.builtin "list.extend.loop" ⟨[.ref s2.heap.objs.size, .ref a, .none], []⟩)) _ _ _
  refine wpAny_bind (wpAny_rule ?_)
  refine wpAny_bind ?_
  show wpAny _ X.A.in1.in1 (updateSeq s2.heap.objs.size (·.push .none) >>= fun _ => updateSeq s2.heap.objs.size (·.pop)) _ _ _
  refine wpAny_bind (wpAny_updateSeq e2 rfl ?_)
  have e3 := Heap.get?_update_self (Obj.mapSeq (·.push Value.none)) e2 rfl
  refine wpAny_updateSeq (hz := by seq_fits) e3 rfl ?_
  obtain ⟨c4, e4⟩ : ∃ c4, ((((s2.heap.push { cls := .type "list", data := .seq #[] }).update s2.heap.objs.size (Obj.mapSeq fun _ => (#[] : Array Value))).update s2.heap.objs.size (Obj.mapSeq (·.push Value.none))).update s2.heap.objs.size (Obj.mapSeq (·.pop))).get? s2.heap.objs.size = some (lstObj #[] c4) := ⟨_, Heap.get?_update_self (Obj.mapSeq (·.pop)) e3 rfl⟩
  have k4 := up (Obj.mapSeq (·.pop)) (up (Obj.mapSeq (·.push Value.none)) k2)
  refine wpAny_pure ⟨plainId_quiet F.plain_extend_loop _, ?_⟩
  have hSn : H1 s2.heap.objs.size = none := I1.hok.fresh sz2
  have J : ∀ {h : Heap}, (∀ b o, s2.heap.get? b = some o → h.get? b = some o) → Inv X pins σ H1 { s2 with heap := h } := fun q => I2.kept (t' := s2.toks) q
  refine fill (X := X) (A := X.A.in1) (k := k + 2) (G := ⟨n, N, Yx, S0of H1, fun _ => False⟩) (go := go) (ng := s1.heap.objs.size) (a := a) (g := gn) (S := s2.heap.objs.size) O ⟨hr.hd, by have := hr.dp; show X.A.depth + 3 * (k + 2) + 5 < _; omega, by have := hr.un; show X.A.units + 1 + 1 + 16 * (k + 2) + 200 < _; omega⟩ I1.ok.frames sz2 hSa Pv hN step
    (fun s' acc c' H2 H3 ys y1 y2 y3 y4 y5 y6 y7 y8 => ⟨rfl, (⟨.ref s2.heap.objs.size, upd H3 s2.heap.objs.size (.lst ys), inv_track y4 O sz2 y6 y1 y2 (by rw [y3]; exact hN), rfl, done H2 H3 ys s2.heap.objs.size y7 y3 y8 y6⟩ : EP X pins σ Q (.ref s2.heap.objs.size) s')⟩) N 0 _ H1 #[] c4 [] (Nat.zero_add N) (J k4) hn2 ?_ ?_ .nil rfl h0
  · refine ⟨Nat.zero_le _, gc, ⟨nm, qn, gd⟩, gs0, Z.a1, [(L, oL)], H1, _, Z.gs, fun z => absurd z (Nat.lt_irrefl 0), KM.refl _ _, fun q hq => ?_, fun b hb z => ?_, ?_⟩
    · rcases List.mem_cons.mp hq with rfl | hq
      · exact ⟨k4 _ _ ga, I1.hok.fresh Z.a1, nofr Z.a1, fun v z => by rw [gd] at z; cases z⟩
      · obtain ⟨w1, w2, w3, w4⟩ := Z.ob q hq
        exact ⟨k4 _ _ w1, w2, w3, w4⟩
    · have z := List.mem_singleton.mp z
      rcases List.mem_cons.mp hb with hb | hb
      · exact Z.la (z.symm.trans hb)
      · have hb := List.mem_singleton.mp hb
        have lt := Heap.lt_size (Z.ob (L, oL) List.mem_cons_self).1
        rw [← hb, z] at lt
        exact Nat.lt_irrefl _ lt
    · refine Z.asl _ [a, s2.heap.objs.size] (fun _ => False) ⟨hr.hd, ?_, ?_⟩ I1.ok.frames (fun z => ?_) fun b z => z.elim
      · have := hr.dp
        show X.A.depth + 3 * k + 5 < _
        omega
      · have := hr.un
        show X.A.units + 1 + 1 + 1 + 16 * k + 200 < _
        omega
      · rcases List.mem_cons.mp z with z | z
        · exact Z.la z
        · have z := List.mem_singleton.mp z
          have lt := Heap.lt_size (Z.ob (L, oL) List.mem_cons_self).1
          rw [show ((L, oL) : Addr × Obj).1 = s2.heap.objs.size from z] at lt
          exact Nat.lt_irrefl _ lt
  · intro q hq
    rw [List.mem_singleton.mp hq]
    exact ⟨e4, hSn, nofr sz2, fun v z => nomatch z⟩
end
end TG
end
section
set_option maxHeartbeats 4000000
set_option linter.all false
namespace TM
/-- where a line, a grid is occupied -/
def ocl (l : List Nat) : List Bool := l.map fun c => c != 46
theorem ocl_mb (l : List Nat) : ocl (mb l) = List.replicate (mb l).length true := by
  refine List.eq_replicate_iff.mpr ⟨List.length_map _, fun b hb => ?_⟩
  obtain ⟨c, hc, rfl⟩ := List.mem_map.mp hb
  exact (List.mem_filter.mp hc).2
theorem ocl_dots (n : Nat) : ocl (dots n) = List.replicate n false := by
  unfold ocl dots
  rw [List.map_replicate]
  rfl
theorem ocl_app (a b : List Nat) : ocl (a ++ b) = ocl a ++ ocl b := by
  unfold ocl
  rw [List.map_append]
theorem ocl_sl (s : Bool) (l : List Nat) : ocl (sl s l) = if s then List.replicate (mb l).length true ++ List.replicate (l.length - (mb l).length) false else List.replicate (l.length - (mb l).length) false ++ List.replicate (mb l).length true := by
  cases s
  · show ocl (dots _ ++ mb l) = _
    rw [ocl_app, ocl_dots, ocl_mb]
    rfl
  · show ocl (mb l ++ dots _) = _
    rw [ocl_app, ocl_dots, ocl_mb]
    rfl
/-- the other way: the mirror -/
theorem ocl_not (s : Bool) (l : List Nat) : ocl (sl (!s) l) = (ocl (sl s l)).reverse := by
  rw [ocl_sl, ocl_sl]
  cases s <;> simp
def lensG (g : Grid) : List Nat := g.map fun r => (mb r).length
theorem lens_LT (s : Bool) (g : Grid) : lensG (LT s g) = lensG g := by
  unfold lensG LT
  rw [List.map_map]
  exact List.map_congr_left fun r _ => by
    show (mb (sl s r)).length = _
    rw [mb_sl]
/-- occupied, by place -/
def oat (g : Grid) (i j : Nat) : Bool := (g.getD i []).getD j 46 != 46
theorem ocl_getD (l : List Nat) (j : Nat) : (ocl l).getD j false = (l.getD j 46 != 46) := by
  unfold ocl
  rw [List.getD_eq_getElem?_getD, List.getD_eq_getElem?_getD, List.getElem?_map]
  cases l[j]? <;> rfl
theorem tr_at {n m i j : Nat} {g : Grid} (h : Rect n m g) (hi : i < n) (hj : j < m) : ((tr m g).getD j []).getD i 46 = (g.getD i []).getD j 46 := by
  rw [List.getD_eq_getElem?_getD (l := tr m g), tr_get hj]
  show (g.map fun r => r.getD j 46).getD i 46 = _
  have hi' : i < g.length := by rw [h.1]; exact hi
  rw [List.getD_eq_getElem?_getD, List.getElem?_map, List.getD_eq_getElem?_getD (l := g), List.getElem?_eq_getElem hi']
  rfl
theorem LT_row {s : Bool} {n m i : Nat} {g : Grid} (h : Rect n m g) (hi : i < n) : (LT s g).getD i [] = sl s (g.getD i []) := by
  have hi' : i < g.length := by rw [h.1]; exact hi
  unfold LT
  rw [List.getD_eq_getElem?_getD, List.getElem?_map, List.getD_eq_getElem?_getD, List.getElem?_eq_getElem hi']
  rfl
theorem row_len {n m i : Nat} {g : Grid} (h : Rect n m g) (hi : i < n) : (g.getD i []).length = m := by
  have hi' : i < g.length := by rw [h.1]; exact hi
  rw [List.getD_eq_getElem?_getD, List.getElem?_eq_getElem hi']
  exact h.2 _ (List.getElem_mem hi')
theorem rev_getD (l : List Bool) (j : Nat) (hj : j < l.length) : l.reverse.getD j false = l.getD (l.length - 1 - j) false := by
  rw [List.getD_eq_getElem?_getD, List.getElem?_reverse hj, List.getD_eq_getElem?_getD]
/-- a column's tilt the other way is the mirror -/
theorem UT_not {s : Bool} {n m i j : Nat} {g : Grid} (h : Rect n m g) (hi : i < n) (hj : j < m) : oat (UT (!s) n m g) i j = oat (UT s n m g) (n - 1 - i) j := by
  unfold oat UT
  have hR := lt_rect (s := !s) (tr_rect h)
  have hR2 := lt_rect (s := s) (tr_rect h)
  rw [tr_at hR hj hi, tr_at hR2 hj (by omega), LT_row (tr_rect h) hj, LT_row (tr_rect h) hj]
  have hl : ((tr m g).getD j []).length = n := row_len (tr_rect h) hj
  generalize (tr m g).getD j [] = l at hl
  rw [← ocl_getD, ← ocl_getD, ocl_not, rev_getD _ _ (by unfold ocl; rw [List.length_map, sl_len]; omega)]
  unfold ocl
  rw [List.length_map, sl_len, hl]
theorem cnt_range : ∀ l : List Nat, (mb l).length = ((List.range l.length).filter fun j => l.getD j 46 != 46).length
  | [] => rfl
  | c :: l => by
    have ih := cnt_range l
    rw [List.length_cons, List.range_succ_eq_map, List.filter_cons, List.filter_map]
    have e : ((fun j => (c :: l).getD j 46 != 46) ∘ Nat.succ) = fun j => l.getD j 46 != 46 := rfl
    rw [e]
    have e0 : ((c :: l).getD 0 46 != 46) = (c != 46) := rfl
    rw [e0]
    unfold mb at ih ⊢
    rw [List.filter_cons]
    cases (c != 46)
    · simpa using ih
    · simpa using ih
theorem lens_at {n m i : Nat} {g : Grid} (h : Rect n m g) (hi : i < n) : (lensG g)[i]? = some ((List.range m).filter fun j => oat g i j).length := by
  have hi' : i < g.length := by rw [h.1]; exact hi
  unfold lensG
  rw [List.getElem?_map, List.getElem?_eq_getElem hi']
  show some (mb g[i]).length = _
  rw [cnt_range, h.2 _ (List.getElem_mem hi')]
  unfold oat
  rw [List.getD_eq_getElem?_getD (l := g), List.getElem?_eq_getElem hi']
  rfl
theorem lens_len {n m : Nat} {g : Grid} (h : Rect n m g) : (lensG g).length = n := by
  unfold lensG
  rw [List.length_map, h.1]
/-- the rows' lengths behind a column's tilt the other way: from the other end -/
theorem lens_UT_not {s : Bool} {n m : Nat} {g : Grid} (h : Rect n m g) : lensG (UT (!s) n m g) = (lensG (UT s n m g)).reverse := by
  have R1 : Rect n m (UT (!s) n m g) := ut_rect h
  have R2 : Rect n m (UT s n m g) := ut_rect h
  refine List.ext_getElem? fun i => ?_
  by_cases hi : i < n
  · rw [lens_at R1 hi, List.getElem?_reverse (by rw [lens_len R2]; exact hi), lens_len R2, lens_at R2 (by omega)]
    congr 2
    exact List.filter_congr fun j hj => UT_not h hi (List.mem_range.mp hj)
  · rw [List.getElem?_eq_none (by rw [lens_len R1]; omega), List.getElem?_eq_none (by rw [List.length_reverse, lens_len R2]; omega)]
/-- pushed up (or down) and to the left (or right) -/
structure Sq (n m : Nat) (a b : Bool) (g : Grid) : Prop where
  rc : Rect n m g
  lr : LT b g = g
  ud : UT a n m g = g
/-- the heap's lengths from the corner on -/
def hd (a : Bool) (g : Grid) : List Nat := if a then lensG g else (lensG g).reverse
theorem Sq.hd_lt {n m : Nat} {a b : Bool} {g : Grid} (h : Sq n m a b g) (o : Bool) : hd a (LT o g) = hd a g := by
  unfold hd
  rw [lens_LT]
theorem Sq.hd_ut {n m : Nat} {a b : Bool} {g : Grid} (h : Sq n m a b g) (o : Bool) : hd o (UT o n m g) = hd a g := by
  by_cases e : o = a
  · subst e
    rw [h.ud]
  · have e : o = !a := by cases o <;> cases a <;> simp_all
    subst e
    unfold hd
    rw [lens_UT_not h.rc, h.ud]
    cases a <;> simp
/-- each row of a heap has no more marbles than the one before -/
theorem Sq.desc {n m : Nat} {a b : Bool} {g : Grid} (h : Sq n m a b g) : (hd a g).Pairwise (fun x y => y ≤ x) := by
  have step : ∀ i, i + 1 < n → if a then ∀ j, j < m → oat g (i + 1) j = true → oat g i j = true else ∀ j, j < m → oat g i j = true → oat g (i + 1) j = true := by
    intro i hi
    have e : LT a (tr m g) = tr m g := by
      have z := congrArg (tr m) h.ud
      unfold UT at z
      rw [tr_tr (lt_rect (tr_rect h.rc))] at z
      exact z
    have ju : ∀ j, j < m → Ju a ((tr m g).getD j []) := fun j hj => by
      have z := LT_row (s := a) (tr_rect h.rc) hj
      rw [e] at z
      rw [z]
      exact sl_ju a _
    have key : ∀ j, j < m → ∀ i, i < n → (oat g i j = (((tr m g).getD j []).getD i 46 != 46)) := fun j hj i hi => by
      unfold oat
      rw [tr_at h.rc hi hj]
    cases a with
    | true =>
      rw [if_pos rfl]
      intro j hj
      rw [key j hj _ hi, key j hj i (by omega)]
      have z := ju j hj i (by rw [row_len (tr_rect h.rc) hj]; exact hi)
      rw [if_pos rfl] at z
      intro q
      simp only [bne_iff_ne, ne_eq] at q ⊢
      exact fun y => q (z y)
    | false =>
      rw [if_neg Bool.false_ne_true]
      intro j hj
      rw [key j hj _ hi, key j hj i (by omega)]
      have z := ju j hj i (by rw [row_len (tr_rect h.rc) hj]; exact hi)
      rw [if_neg Bool.false_ne_true] at z
      intro q
      simp only [bne_iff_ne, ne_eq] at q ⊢
      exact fun y => q (z y)
  have le : ∀ i, i + 1 < n → if a then (lensG g).getD (i + 1) 0 ≤ (lensG g).getD i 0 else (lensG g).getD i 0 ≤ (lensG g).getD (i + 1) 0 := by
    intro i hi
    have s := step i hi
    rw [List.getD_eq_getElem?_getD, List.getD_eq_getElem?_getD, lens_at h.rc hi, lens_at h.rc (by omega)]
    simp only [Option.getD_some]
    have sub : ∀ (p q : Nat → Bool), (∀ j, j < m → p j = true → q j = true) → ((List.range m).filter p).length ≤ ((List.range m).filter q).length := fun p q hpq => by
      rw [← List.countP_eq_length_filter, ← List.countP_eq_length_filter]
      exact List.countP_mono_left fun j hj => hpq j (List.mem_range.mp hj)
    cases a with
    | true =>
      rw [if_pos rfl] at s ⊢
      exact sub _ _ s
    | false =>
      rw [if_neg Bool.false_ne_true] at s ⊢
      exact sub _ _ s
  have L := lens_len h.rc
  unfold hd
  have chain : ∀ (l : List Nat), (∀ i, i + 1 < l.length → l.getD (i + 1) 0 ≤ l.getD i 0) → l.Pairwise (fun x y => y ≤ x) := by
    intro l
    induction l with
    | nil => intro _; exact List.Pairwise.nil
    | cons x l ih =>
      intro hl
      have ih' := ih fun i hi => by have := hl (i + 1) (by simp; omega); simpa using this
      refine List.Pairwise.cons (fun y hy => ?_) ih'
      cases l with
      | nil => cases hy
      | cons z l =>
        have h0 : z ≤ x := by simpa using hl 0 (by simp)
        rcases List.mem_cons.mp hy with rfl | hy
        · exact h0
        · exact Nat.le_trans ((List.pairwise_cons.mp ih').1 y hy) h0
  cases a with
  | true =>
    rw [if_pos rfl]
    refine chain _ fun i hi => ?_
    rw [L] at hi
    have := le i hi
    rw [if_pos rfl] at this
    exact this
  | false =>
    rw [if_neg Bool.false_ne_true]
    refine chain _ fun i hi => ?_
    rw [List.length_reverse, L] at hi
    have := le (n - 1 - (i + 1)) (by omega)
    rw [if_neg Bool.false_ne_true] at this
    rw [List.getD_eq_getElem?_getD, List.getElem?_reverse (by omega), List.getD_eq_getElem?_getD, List.getElem?_reverse (by omega), L]
    rw [List.getD_eq_getElem?_getD, List.getD_eq_getElem?_getD] at this
    rw [show n - 1 - (i + 1) + 1 = n - 1 - i by omega] at this
    exact this
/-- the rows' line in a corner: the marbles first -/
theorem Sq.line {n m : Nat} {a b : Bool} {g : Grid} (h : Sq n m a b g) {r : List Nat} (hr : r ∈ g) : ∃ ms, (if b then r else r.reverse) = ms ++ dots (m - (mb r).length) ∧ ms.length = (mb r).length ∧ ∀ c ∈ ms, c ≠ 46 := by
  have hs : sl b r = r := by
    have e := h.lr
    unfold LT at e
    have := List.map_eq_map_iff (f := sl b) (g := id) (l := g) |>.mp (by rw [e, List.map_id])
    exact this r hr
  have hl : r.length = m := h.rc.2 r hr
  have hne : ∀ c ∈ mb r, c ≠ 46 := fun c hc => by
    have := (List.mem_filter.mp hc).2
    simpa using this
  cases b with
  | true =>
    refine ⟨mb r, ?_, rfl, hne⟩
    rw [if_pos rfl, ← hl]
    exact hs.symm
  | false =>
    refine ⟨(mb r).reverse, ?_, List.length_reverse, fun c hc => hne c (List.mem_reverse.mp hc)⟩
    rw [if_neg Bool.false_ne_true, ← hl]
    have e : r.reverse = (dots (r.length - (mb r).length) ++ mb r).reverse := congrArg List.reverse hs.symm
    rw [e, List.reverse_append]
    unfold dots
    rw [List.reverse_replicate]
def posN (l : List Nat) : List Nat := l.filter fun x => decide (0 < x)
theorem posN_desc : ∀ {l : List Nat}, l.Pairwise (fun x y => y ≤ x) → posN l ++ List.replicate (l.length - (posN l).length) 0 = l
  | [], _ => rfl
  | x :: l, h => by
    obtain ⟨h1, h2⟩ := List.pairwise_cons.mp h
    have ih := posN_desc h2
    unfold posN at ih ⊢
    rw [List.filter_cons]
    by_cases q : 0 < x
    · rw [decide_eq_true q, if_pos rfl, List.length_cons, List.length_cons, Nat.add_sub_add_right, List.cons_append, ih]
    · have z : ∀ y ∈ l, y = 0 := fun y hy => by have := h1 y hy; omega
      have e : l.filter (fun x => decide (0 < x)) = [] := List.filter_eq_nil_iff.mpr fun y hy => by rw [z y hy]; decide
      rw [decide_eq_false q, if_neg Bool.false_ne_true, e, List.length_cons, List.length_nil, List.nil_append, Nat.sub_zero]
      refine (List.eq_replicate_iff.mpr ⟨by simp, fun y hy => ?_⟩).symm
      rcases List.mem_cons.mp hy with rfl | hy
      · omega
      · exact z y hy
theorem posN_le (l : List Nat) : (posN l).length ≤ l.length := List.length_filter_le _ _
theorem posN_get {l : List Nat} (h : l.Pairwise (fun x y => y ≤ x)) {n k : Nat} (hn : l.length ≤ n) (hk : k < l.length) : (posN l ++ List.replicate n 0)[k]? = l[k]? := by
  have e := posN_desc h
  have p := posN_le l
  rw [← congrArg (·[k]?) e]
  show _ = (posN l ++ List.replicate (l.length - (posN l).length) 0)[k]?
  by_cases q : k < (posN l).length
  · rw [List.getElem?_append_left q, List.getElem?_append_left q]
  · rw [List.getElem?_append_right (by omega), List.getElem?_append_right (by omega), List.getElem?_replicate_of_lt (by omega), List.getElem?_replicate_of_lt (by omega)]
theorem hd_len {n m : Nat} {a : Bool} {g : Grid} (h : Rect n m g) : (hd a g).length = n := by
  unfold hd
  cases a
  · rw [if_neg Bool.false_ne_true, List.length_reverse, lens_len h]
  · rw [if_pos rfl, lens_len h]
/-- the rows from the corner on -/
def rws (a : Bool) (g : Grid) : Grid := if a then g else g.reverse
theorem hd_rws (a : Bool) (g : Grid) : hd a g = (rws a g).map fun r => (mb r).length := by
  unfold hd rws lensG
  cases a
  · rw [if_neg Bool.false_ne_true, if_neg Bool.false_ne_true, List.map_reverse]
  · rfl
theorem rws_mem {a : Bool} {g : Grid} {r : List Nat} (h : r ∈ rws a g) : r ∈ g := by
  unfold rws at h
  cases a
  · exact List.mem_reverse.mp h
  · exact h
theorem rws_len (a : Bool) (g : Grid) : (rws a g).length = g.length := by
  unfold rws
  cases a
  · exact List.length_reverse
  · rfl
/-- a heap lies in its corner: row by row -/
theorem Sq.row {n m : Nat} {a b : Bool} {g : Grid} (h : Sq n m a b g) {k : Nat} (hk : k < n) : ∃ r ms, (rws a g)[k]? = some r ∧ (posN (hd a g) ++ List.replicate n 0)[k]? = some ms.length ∧ (if b then r else r.reverse) = ms ++ dots (m - ms.length) ∧ ms.length ≤ m ∧ ∀ c ∈ ms, c ≠ 46 := by
  have hl := hd_len (a := a) h.rc
  have hk2 : k < (rws a g).length := by rw [rws_len, h.rc.1]; exact hk
  obtain ⟨ms, e1, e2, e3⟩ := h.line (rws_mem (List.getElem_mem hk2))
  refine ⟨_, ms, List.getElem?_eq_getElem hk2, ?_, by rw [e2]; exact e1, ?_, e3⟩
  · rw [posN_get h.desc (by omega) (by omega), hd_rws, List.getElem?_map, List.getElem?_eq_getElem hk2, e2]
    rfl
  · rw [e2, ← h.rc.2 _ (rws_mem (List.getElem_mem hk2))]
    exact mb_le _
end TM
end
section
set_option Elab.async false
set_option maxRecDepth 100000
set_option linter.all false
namespace TR
open PySem PySem.Spec PyProof.Rows L2 TM TK TB TP TH TU TG GenW
def cwT (c : Nat) : Nat := if c = 117 then 114 else if c = 114 then 100 else if c = 100 then 108 else 117
theorem cwT_t (c : Nat) : isT (cwT c) = true := by
  unfold cwT
  split
  · decide
  · split
    · decide
    · split
      · decide
      · decide
def cwN (c : Nat) : Nat → Nat
  | 0 => c
  | i + 1 => cwT (cwN c i)
theorem cwN_t {c : Nat} (h : isT c = true) : ∀ i, isT (cwN c i) = true
  | 0 => h
  | _ + 1 => cwT_t _
/-- so many tilts, clockwise -/
def clk (c k : Nat) : List Nat := (List.range k).map (cwN c)
theorem clk_snoc (c k : Nat) : clk c (k + 1) = clk c k ++ [cwN c k] := by
  unfold clk
  rw [List.range_succ, List.map_append]
  rfl
theorem tilts_app {n m : Nat} (t u : List Nat) (g : Grid) : tilts n m (t ++ u) g = tilts n m u (tilts n m t g) := by
  unfold tilts
  rw [List.foldl_append]
abbrev NTb : List Str := ["tray", "first", "count", "reached", "tilt", "_"]
theorem scTb : GScope NTb ["tray", "first", "count"] (defScope sTraysBehind) := ⟨rfl, rfl, rfl, by decide +kernel, rfl, by decide +kernel, by decide +kernel⟩
theorem tray_imp {K : PySem.W.Frag} {D p : Addr} {H H' : Hp} {g : Grid} (h : TrayAt K D H p g) (s : ∀ b o, mutO o = false → H b = some o → H' b = some o) : TrayAt K D H' p g := by
  obtain ⟨dx, a, h, t⟩ := h
  exact ⟨dx, a, s _ _ rfl h, t.imp (fun z => z.imp (fun z => s _ _ rfl z) fun ⟨o, z⟩ => ⟨o, s _ _ rfl z⟩) fun z => z⟩
theorem tray_kept {K : PySem.W.Frag} {D p : Addr} {S0 : Addr → Prop} {H H' : Hp} {g : Grid} (h : TrayAt K D H p g) (s : Kept S0 H H') : TrayAt K D H' p g := tray_imp h fun b o m e => s b o (.inr m) e
theorem tray_km {K : PySem.W.Frag} {D p : Addr} {M : Addr → Prop} {H1 H2 : Hp} {g : Grid} (h : TrayAt K D H1 p g) (hM : MOk H1 M) (k : KM M H1 H2) : TrayAt K D H2 p g := by
  refine tray_imp h fun b o m e => k.k b o (fun z => ?_) e
  obtain ⟨o', e1, m1⟩ := hM b z
  rw [e1] at e
  cases e
  rw [m] at m1
  cases m1
theorem mok_km {M : Addr → Prop} {H1 H2 : Hp} (h : MOk H1 M) (k : KM M H1 H2) : MOk H2 M := fun b z => by
  obtain ⟨o, e, m⟩ := h b z
  exact k.m b o z e m
theorem mok_same {M : Addr → Prop} {H1 H2 : Hp} (h : MOk H1 M) (k : Same H1 H2) : MOk H2 M := fun b z => by
  obtain ⟨o, e, m⟩ := h b z
  exact ⟨o, k b o e, m⟩
theorem gst_pl {G : GP} {X₀ : Cx} {st : Stmt} {t : TS} (hx : X₀.xe = fun _ _ => False) (h : ∀ s0 H0 pn, PSn G.n { X₀ with s_0 := s0, H_0 := H0, pn := pn } st t) : TG.GSt G X₀ st (TG.tPl t) :=
  TG.gst_plain hx fun X hX => by
    obtain ⟨s0, H0, pn, rfl, _⟩ := hX
    exact h s0 H0 pn
theorem gst_yd {G : GP} {X₀ : Cx} {e : Expr} {yp pos : Pos} {te : TE} (hx : X₀.xe = fun _ _ => False) (he : ∀ s0 H0 pn, PEn G.n { X₀ with s_0 := s0, H_0 := H0, pn := pn } e te) (hco : X₀.env.scope.isCoroutine = false := by rfl) (hi : interactive X₀.env = false := by rfl) : TG.GSt G X₀ (.Expr (.Yield (some e) yp) pos) (TG.tGYd G te) :=
  TG.gst_yield hx (fun X hX => by
    obtain ⟨s0, H0, pn, rfl, _⟩ := hX
    exact he s0 H0 pn) hco hi
theorem gst_fo {G : GP} {X₀ : Cx} {tg iter : Expr} {body : List Stmt} {wi : TI} {g : TG} {tb : TG.TGs} {pos : Pos} (hx : X₀.xe = fun _ _ => False) (hc : X₀.calm = true) (hi : ∀ s0 H0 pn, PI { X₀ with s_0 := s0, H_0 := H0, pn := pn } tg iter wi) (hg : ∀ s0 H0 pn, PG { X₀ with s_0 := s0, H_0 := H0, pn := pn } tg g) (hb : TG.GSs G X₀ body tb)
    (hs : ∀ x, foldedSetIterable iter X₀.env x = pure x := by intro _; rfl) : TG.GSt G X₀ (.For tg iter body [] pos) (TG.tGFor wi g tb) :=
  TG.gst_for hx hc (fun X hX => by
    obtain ⟨s0, H0, pn, rfl, _⟩ := hX
    exact hi s0 H0 pn) (fun X hX => by
    obtain ⟨s0, H0, pn, rfl, _⟩ := hX
    exact hg s0 H0 pn) hb hs
section
variable {P : Program} {w_ : World} {K : PySem.W.Frag} {mg : Str → Option Value} {base : Heap} {n : Nat} {C D fRs fCn fI fWi aO : Addr} {fdCn fdI fdWi : FuncData}
def spTb (K : PySem.W.Frag) (D : Addr) : SpGn := fun vs H N Yx => ∃ (p : Addr) (c h w : Nat) (g : Grid), vs = [.ref p, sg c, .int N] ∧ TrayAt K D H p g ∧ VG h w g ∧ isT c = true ∧ N ≤ 1000 ∧
  Yx = fun i x H' => ∃ r, x = .ref r ∧ TrayAt K D H' r (tilts h w (clk c (i + 1)) g)
theorem ok_tb {f : Addr} {oc kV doc pm cdv ct : Value} {od an : Option Addr} {osl : Array (Option Value)} (lk : K.lookup f = some ⟨oc, od, .func (PySem.W.fnOf "trays_behind" "trays_behind" (defArgs sTraysBehind) (defBody sTraysBehind) (defScope sTraysBehind) .none kV doc pm an cdv ct), osl⟩) (hcd : PySem.W.codeIn K cdv "trays_behind" = true)
    (b : Binds K (PySem.W.fnOf "trays_behind" "trays_behind" (defArgs sTraysBehind) (defBody sTraysBehind) (defScope sTraysBehind) .none kV doc pm an cdv ct) ["tray", "first", "count"] [])
    (CW : ClsW K mg C) (hDC : D ≠ C) (sf : PySem.W.selfFirst K D = true) (NO : NoOp K C Operator.RShift.info.2) (hs : PySem.W.findIn K (.ref D) (PySem.dunder Operator.RShift.info.2) = some (some (.ref fRs))) (hf : PySem.W.isFn K (.ref fRs) = true) (GRs : FnRn n P w_ K mg base CX0 5 fRs (spRs K C D))
    (GCn : FnOk P w_ K mg base CX0 2 fCn fdCn ["value", "limit"] spCn) (kCn : PySem.W.keepIn K (.ref fCn) = true) (bCn : Binds K fdCn ["value", "limit"] []) (mCn : mg "check_number" = some (.ref fCn)) (mMC : ∃ u, mg "MAX_COUNT" = some u ∧ RelV (.int ((1000 : Nat) : Int)) u)
    (GI : FnOk P w_ K mg base CX0 1 fI fdI ["value"] spIt) (kI : PySem.W.keepIn K (.ref fI) = true) (bI : Binds K fdI ["value"] []) (mI : mg "is_tilt" = some (.ref fI))
    (MW : Mk K C fWi) (GWi : FnOk P w_ K mg base CX0 3 fWi fdWi ["self", "text"] (spWi C)) (bWi : Binds K fdWi ["self", "text"] [])
    (mO : mg "CLOCKWISE" = some (.ref aO)) (dO : ∀ c, isT c = true → KDct K w_ aO (S [c]) (sg (cwT c))) (hrange : mg "range" = none) :
    FnG n P w_ K mg base 6 f (spTb K D) := by
  refine fng_of lk hcd b scTb (fun m => rfl) (fun vs H N Yx h => ?_) fun A outer s H vs N Yx M pn hr h hM => ?_
  · obtain ⟨p, c, h, w, g, rfl, _⟩ := h
    rfl
  · obtain ⟨p, c, h, w, g, rfl, T0, hV, hc, hN, rfl⟩ := h
    have nd := scTb.nd
    have r1 : Room 1 _ := hr.mono (by decide)
    have r2 : Room 2 _ := hr.mono (by decide)
    have r4 : Room 4 _ := hr.mono (by decide)
    refine ⟨_, TG.gss_cons (gst_pl rfl fun _ _ _ => PS.up (ps_expr (pe_call GCn r2 rfl mCn kCn bCn .nil pass0 (pa_cons (pv 2) (pa_cons (C8.pe_gc rfl mMC) pa_nil)))))
      (TG.gss_cons (gst_pl rfl fun _ _ _ => PS.up (ps_if (pt_not (pt_val (pe_call GI r1 rfl mI kI bI .nil pass0 (pa_cons (pv 1) pa_nil)))) pss_never pss_nil))
      (TG.gss_cons (gst_pl rfl fun _ _ _ => PS.up (ps_set (i := 3) nd rfl (.inl rfl) (pv 0)))
      (TG.gss_cons (gst_pl rfl fun _ _ _ => PS.up (ps_set (i := 4) nd rfl (.inl rfl) (pv 1)))
      (TG.gss_cons (gst_fo rfl rfl (fun _ _ _ => pi_range1 (by rfl) hrange (pa_cons (pv 2) pa_nil)) (fun _ _ _ => pg_name (i := 5) nd rfl (.inl rfl))
        (TG.gss_cons (gst_pl rfl fun _ _ _ => psn_set (i := 3) nd rfl (.inl rfl) (pen_op (op_twoN hDC sf NO hs hf GRs hr pass0) (PE.up (pv 3)) (PE.up (pe_make MW GWi r4 rfl CW.mgC bWi .nil pass0 (pa_cons (pv 4) pa_nil)))))
        (TG.gss_cons (gst_yd rfl fun _ _ _ => PE.up (pv 3))
        (TG.gss_cons (gst_pl rfl fun _ _ _ => PS.up (ps_set (i := 4) nd rfl (.inl rfl) (pe_ix (TA.ix_kdictK (K := K) (w := w_) rfl rfl) (pe_glob (v := .ref aO) rfl mO rfl) (pv 4) (fun _ _ => rfl)))) TG.gss_nil))))
      TG.gss_nil)))), fun H2 hk => ?_⟩
    have T2 : TrayAt K D H2 p g := tray_km T0 hM hk
    refine ⟨_, rfl, N, 1000, rfl, hN, ?_⟩
    refine ⟨_, rfl, c, rfl, ?_⟩
    rw [hc]
    refine ⟨true, rfl, iteF ?_⟩
    refine ⟨_, rfl, ?_⟩
    refine ⟨_, rfl, ?_⟩
    refine ⟨_, rfl, N, rfl, by omega, by omega, ?_⟩
    refine ⟨fun j m i H0 σ H3 => m = N - j ∧ j = i ∧ j ≤ N ∧ Kept (S0of H) H0 H3 ∧ ∃ (v5 : Option V) (r : Addr), σ = [some (.ref p), some (sg c), some (.int (N : Int)), some (.ref r), some (sg (cwN c j)), v5] ∧ TrayAt K D H3 r (tilts h w (clk c j) g) ∧ MOk H3 M, ⟨N, rfl, rfl, Nat.zero_le _, Kept.of_same fun _ _ e => e, _, p, rfl, T2, mok_km hM hk⟩, ?_⟩
    rintro j m i H0 σ H3 ⟨rfl, rfl, hj, kp, v5, r, rfl, T3, M3⟩
    by_cases hlt : j < N
    · refine .inr ⟨by exact hlt, ?_⟩
      refine ⟨fun i' H0' σ' H' => i' = j + 1 ∧ Kept (S0of H) H0' H' ∧ ∃ (v5 : Option V) (r : Addr), σ' = [some (.ref p), some (sg c), some (.int (N : Int)), some (.ref r), some (sg (cwN c (j + 1))), v5] ∧ TrayAt K D H' r (tilts h w (clk c (j + 1)) g) ∧ MOk H' M, ?_, ?_⟩
      · rintro i' H0' σ' H' ⟨rfl, z⟩
        exact ⟨N - (j + 1), by omega, rfl, rfl, hlt, z⟩
      · rintro x H' ⟨rfl, rfl⟩
        have hcj := cwN_t hc j
        refine ⟨_, rfl, _, rfl, fun x dx nx ndx nex => ⟨x, dx, [cwN c j], rfl, upd_same, ⟨by show 1 ≤ 60; decide, by simpa using hcj⟩, fun H4 hw4 kp4 => ⟨rfl, ?_⟩⟩⟩
        have s4 := Same.made nx ndx kp4
        obtain ⟨dp, ap, hp, hSp⟩ := id (T3.same s4)
        obtain ⟨dq, hq⟩ := id hw4
        refine ⟨r, dp, _, x, dq, _, rfl, rfl, hp, hq, r, x, h, w, _, [cwN c j], rfl, T3.same s4, VG.tilts _ hV, hw4, fun H5 r5 s5 T5 => ?_⟩
        have e5 : tilts h w [cwN c j] (tilts h w (clk c j) g) = tilts h w (clk c (j + 1)) g := by rw [clk_snoc, tilts_app]
        rw [e5] at T5
        refine ⟨hlt, _, rfl, ?_⟩
        have s35 := s4.trans s5
        refine ⟨Kept.trans kp (Kept.of_same s35), ⟨r5, rfl, T5⟩, fun H6 k6 => ?_⟩
        refine ⟨_, rfl, aO, S [cwN c j], _, rfl, rfl, dO _ hcj, rfl, Kept.of_same fun _ _ e => e, _, r5, rfl, tray_km T5 (mok_same M3 s35) k6, mok_km (mok_same M3 s35) k6⟩
    · exact .inl ⟨by show N ≤ j; omega, by omega, kp⟩
end
end TR
end
section
set_option Elab.async false
set_option maxRecDepth 100000
set_option linter.all false
namespace TU
open PySem L2 TM TK TB
open PySem.Spec PyProof.Rows TH
section
variable {P : Program} {w : World} {K : PySem.W.Frag} {mg : Str → Option Value} {base : Heap} {fT : Addr} {fdT : FuncData}
variable {n : Nat} {C D fRs pR gR pC gC fL : Addr} {fdR fdC : FuncData} {t0 : Tok}
abbrev lens (g : Grid) : List Nat := g.map fun r => (mb r).length
abbrev NRl : List Str := ["tray", "word", "after", "row"]
theorem scRl : FnScope NRl ["tray", "word"] (defScope sRowLengths) := ⟨rfl, rfl, rfl, by decide +kernel, rfl, by decide +kernel, by decide +kernel⟩
def spRl (K : PySem.W.Frag) (C D : Addr) : Sp := fun vs H Q _ => ∃ (p q : Addr) (h w : Nat) (g : Grid) (t : List Nat), vs = [.ref p, .ref q] ∧ TrayAt K D H p g ∧ VG h w g ∧ WordAt C H q t ∧ ∀ H' l, Same H H' → H l = none → H' l = some (.lst (intV (lens (tilts h w t g)))) → Q (.ref l) H'
theorem ok_rl {f : Addr} {fd : FuncData} (F : Fun K "row_lengths" "row_lengths" sRowLengths f fd) (b : Binds K fd ["tray", "word"] []) (T : TxtW K mg) (CT : ClsT K mg D) (hDC : D ≠ C) (em : mg "EMPTY" = some (.str (S [46]) t0)) (h0 : t0 ≠ 0) (ht0 : t0 < n)
    (sf : PySem.W.selfFirst K D = true) (NO : NoOp K C Operator.RShift.info.2) (hs : PySem.W.findIn K (.ref D) (PySem.dunder Operator.RShift.info.2) = some (some (.ref fRs))) (hf : PySem.W.isFn K (.ref fRs) = true) (GRs : FnRn n P w K mg base CX0 5 fRs (spRs K C D))
    (PR : PropOf K D "rows" pR gR) (GR : FnOk P w K mg base CX0 1 gR fdR ["self"] (getSp D "_rows")) (bR : Binds K fdR ["self"] []) :
    FnRn n P w K mg base CX0 6 f (spRl K C D) := by
  refine fn_n F b scRl (fun vs H Q E h => ?_) fun cdv A outer s H vs Q E hr h => ?_
  · obtain ⟨p, q, h, w, g, t, rfl, _⟩ := h
    rfl
  · obtain ⟨p, q, h, w, g, t, rfl, T0, hV, W0, k⟩ := h
    have nd := scRl.nd
    refine ⟨_, pssn_cons (psn_set (i := 2) nd rfl (.inl rfl) (pen_op (op_twoN hDC sf NO hs hf GRs hr pass0) (PE.up (pv 0)) (PE.up (pv 1))))
      (pssn_one (psn_ret (pen_lc (own := [("row", 3)]) (g := gName 3) rfl nd (pi_tup (pe_prop (pv 2) CT.cl PR GR (hr.mono (by decide)) bR .nil pass0 rfl)) (blkOk_by (N := NRl) (sc := defScope sRowLengths) (by decide +kernel)) (fun _ _ _ _ _ => pg_name (i := 3) nd rfl (.inl rfl))
        (fun _ _ _ _ _ => pen_callB call_len_str (by rfl) T.len PySem.boot_len (pan_cons (pen_strike (pv 3) rfl em h0 ht0 (by decide +kernel)) pan_nil))))), ?_⟩
    obtain ⟨dp, ap, hp, hSp⟩ := id T0
    obtain ⟨dq, hq⟩ := id W0
    refine ⟨_, rfl, _, rfl, p, dp, _, q, dq, _, rfl, rfl, hp, hq, p, q, h, w, g, t, rfl, T0, hV, W0, fun H1 p2 sm2 ht2 => ?_⟩
    obtain ⟨dp2, a2, hp2, hS2⟩ := ht2
    have V2 := VG.tilts t hV
    generalize tilts h w t g = g2 at hS2 V2 k
    refine ⟨_, rfl, p2, dp2, _, rfl, hp2, p2, dp2, _, _, rfl, hp2, rfl, a2, rfl, ⟨_, hS2⟩, fun E2 hE2 => lc_tup (K := K) (a := a2) (xs := rowV g2) (fun i H2 => Same H1 H2 ∧ H2 E2 = some (.lst (intV ((g2.take i).map fun r => (mb r).length))))
      ⟨same_new hE2, upd_same⟩ (fun i H2 _ ⟨sm, _⟩ => sm.tup hS2) ?_ ?_⟩
    · rintro i x H2 hi ⟨sm, hL⟩
      obtain ⟨r, hri, rfl⟩ := at_map hi
      have hr8 : r.length ≤ 8 := V2.row (List.mem_of_getElem? hri)
      have hm := mb_le r
      refine ⟨rfl, _, rfl, S r, rfl, ?_, ?_⟩
      · rw [S_len]
        omega
      rw [strike_mb]
      refine ⟨_, rfl, ?_, _, hL, ?_, ?_⟩
      · rw [S_len]
        show _ ≤ 16777216
        omega
      · rw [List.length_map, List.length_map, List.length_take]
        have := V2.len
        show _ < 16777216
        omega
      · refine ⟨same_put sm hE2, ?_⟩
        rw [upd_same, take_map_snoc hri, S_len]
        simp [intV]
    · rintro H2 ⟨sm, hL⟩
      rw [List.length_map, List.take_length] at hL
      refine k _ E2 (sm2.trans sm) ?_ hL
      cases e : H E2 with
      | none => rfl
      | some o =>
        rw [sm2 _ _ e] at hE2
        cases hE2
abbrev posL (l : List Nat) : List Nat := l.filter fun x => decide (0 < x)
def crn (t : List Nat) : Option (Nat × Nat) := match (TA.along t [117, 100]).getLast?, (TA.along t [108, 114]).getLast? with
  | some a, some b => some (a, b)
  | _, _ => none
theorem crn_V (t : List Nat) : TA.cornerV t = match crn t with
    | some (a, b) => V.str (S [a, b])
    | none => V.non := by
  unfold TA.cornerV crn
  cases (TA.along t [117, 100]).getLast? with
  | none => rfl
  | some a =>
    cases (TA.along t [108, 114]).getLast? with
    | none => rfl
    | some b => rfl
/-- what heap_lengths tells, but for the list's place -/
def hlL (t : List Nat) (ls : List Nat) : Option (List Nat) := match crn t with
  | some (a, _) => some (posL (if a = 100 then ls.reverse else ls))
  | none => none
abbrev NHl : List Str := ["tray", "word", "corner", "lengths", "length"]
theorem scHl : FnScope NHl ["tray", "word"] (defScope sHeapLengths) := ⟨rfl, rfl, rfl, by decide +kernel, rfl, by decide +kernel, by decide +kernel⟩
def spHl (K : PySem.W.Frag) (C D : Addr) : Sp := fun vs H Q _ => ∃ (p q : Addr) (h w : Nat) (g : Grid) (t : List Nat), vs = [.ref p, .ref q] ∧ TrayAt K D H p g ∧ VG h w g ∧ WordAt C H q t ∧ Good t ∧
  (hlL t (lens (tilts h w t g)) = none → ∀ H', Same H H' → Q .non H') ∧ ∀ ys, hlL t (lens (tilts h w t g)) = some ys → ∀ H' l, Same H H' → H l = none → H' l = some (.lst (intV ys)) → Q (.ref l) H'
theorem ok_hl {f fR : Addr} {fd : FuncData} (F : Fun K "heap_lengths" "heap_lengths" sHeapLengths f fd) (b : Binds K fd ["tray", "word"] []) (CW : ClsW K mg C)
    (PC : PropOf K C "corner" pC gC) (GC : FnOk P w K mg base CX0 2 gC fdC ["self"] (TA.spCr C)) (bC : Binds K fdC ["self"] [])
    (GRl : FnRn n P w K mg base CX0 6 fR (spRl K C D)) (kR : PySem.W.keepIn K (.ref fR) = true) (mR : mg "row_lengths" = some (.ref fR)) :
    FnRn n P w K mg base CX0 7 f (spHl K C D) := by
  refine fn_n F b scHl (fun vs H Q E h => ?_) fun cdv A outer s H vs Q E hr h => ?_
  · obtain ⟨p, q, h, w, g, t, rfl, _⟩ := h
    rfl
  · obtain ⟨p, q, h, w, g, t, rfl, T0, hV, W0, gd, k0, k1⟩ := h
    have nd := scHl.nd
    refine ⟨_, pssn_cons (PS.up (ps_set (i := 2) nd rfl (.inl rfl) (pe_prop (pv 1) CW.cl PC GC (hr.mono (by decide)) bC .nil pass0 rfl)))
      (pssn_cons (PS.up (ps_if (pt_cmpR op_isN (pv 2) pe_non (nomark _)) (pss_one (ps_ret pe_non)) pss_nil))
      (pssn_cons (psn_set (i := 3) nd rfl (.inl rfl) (pen_call GRl hr rfl mR kR pass0 (pan_cons (PE.up (pv 0)) (pan_cons (PE.up (pv 1)) pan_nil))))
      (pssn_cons (PS.up (ps_if (pt_cmpR op_eq (pe_ix ix_str (pv 2) pe_int (fun _ _ => rfl)) pe_str (nomark _)) (pss_one (ps_expr (pe_bm0 PySem.F.plainAttrs_list PySem.F.slot_list_reverse PySem.F.type_list_reverse mt_reverse (pv 3)))) pss_nil))
      (pssn_one (PS.up (ps_ret (pe_lc (own := [("length", 4)]) (g := gName 4) rfl nd (pi_list (pv 3)) (blkOk_by (N := NHl) (sc := defScope sHeapLengths) (by decide +kernel)) (fun _ _ _ _ _ => pg_name (i := 4) nd rfl (.inl rfl))
        (fun _ _ _ _ _ => pts_one (pt_cmpR op_gt (pv 4) pe_int (nomark _))) (fun _ _ _ _ _ => pv 4)))))))), ?_⟩
    obtain ⟨dq, hq⟩ := id W0
    refine ⟨_, rfl, q, dq, _, rfl, hq, q, t, rfl, W0, gd, fun H1 sm1 => ?_⟩
    rw [crn_V]
    unfold hlL at k0 k1
    cases ec : crn t with
    | none =>
      rw [ec] at k0
      exact ⟨_, rfl, rfl, _, rfl, iteT (k0 rfl H1 sm1)⟩
    | some ab =>
      obtain ⟨a, c⟩ := ab
      rw [ec] at k1
      refine ⟨_, rfl, rfl, _, rfl, iteF ⟨_, rfl, _, rfl, p, q, h, w, g, t, rfl, T0.same sm1, hV, W0.same sm1, fun H2 l sm2 hl1 hl2 => ?_⟩⟩
      have V2 := VG.tilts t hV
      generalize tilts h w t g = g2 at k1 hl2 V2
      have hl0 : H l = none := by
        cases e : H l with
        | none => rfl
        | some o =>
          rw [sm1 _ _ e] at hl1
          cases hl1
      refine ⟨_, rfl, S [a, c], (0 : Int), a, rfl, rfl, by show 2 ≤ sizeLine; decide, rfl, rfl, _, rfl, ?_⟩
      rw [show decide (V.str ⟨#[a]⟩ = V.str (Str.ofString "d")) = (a == 100) from dL a 100]
      have fin : ∀ (ls : List Nat) (H3 : Hp), ls.length ≤ 8 → Same H H3 → H3 l = some (.lst (intV ls)) → posL ls = posL (if a = 100 then (lens g2).reverse else lens g2) →
          tLc (iList K (tVar 3)) (gName 4) (tTest (tOp (rI0 fun i j => V.bl (decide (i > j))) (tVar 4) (tC (V.int 0)))) (tVar 4) [4] [some (.ref p), some (.ref q), some (.str (S [a, c])), some (.ref l), none] H3 Q := fun ls H3 h8 sm3 hl3 ep => by
        refine ⟨_, rfl, l, rfl, ⟨_, SqL.of hl3⟩, fun E2 hE2 => lc_list (K := K) (a := l) (xs := intV ls) (fun i H4 => Same H3 H4 ∧ H4 E2 = some (.lst (intV (posL (ls.take i)))))
          ⟨same_new hE2, upd_same⟩ (fun i H4 _ ⟨sm, _⟩ => SqL.of (sm _ _ hl3)) ?_ ?_⟩
        · rintro i x H4 hi ⟨sm, hL⟩
          obtain ⟨m, hm, rfl⟩ := at_map hi
          have et : posL (ls.take (i + 1)) = posL (ls.take i) ++ if 0 < m then [m] else [] := by
            rw [List.take_add_one, hm]
            show (ls.take i ++ [m]).filter _ = _
            rw [List.filter_append]
            by_cases q : 0 < m
            · rw [if_pos q]; simp [q]
            · rw [if_neg q]; simp [q]
          refine ⟨rfl, _, rfl, _, _, rfl, rfl, _, rfl, ?_⟩
          by_cases q : 0 < m
          · rw [show decide ((m : Int) > 0) = true from decide_eq_true (by omega)]
            refine iteT ⟨_, rfl, _, hL, ?_, same_put sm hE2, ?_⟩
            · rw [List.length_map]
              have : (posL (ls.take i)).length ≤ (ls.take i).length := List.length_filter_le (fun x => decide (0 < x)) (ls.take i)
              rw [List.length_take] at this
              show _ < 16777216
              omega
            · rw [upd_same, et, if_pos q]
              simp [intV]
          · rw [show decide ((m : Int) > 0) = false from decide_eq_false (by omega)]
            refine iteF ⟨sm, ?_⟩
            rw [hL, et, if_neg q, List.append_nil]
        · rintro H4 ⟨sm, hL⟩
          rw [List.length_map, List.take_length, ep] at hL
          refine k1 _ rfl H4 E2 (sm3.trans sm) ?_ hL
          cases e : H E2 with
          | none => rfl
          | some o =>
            rw [sm3 _ _ e] at hE2
            cases hE2
      have l8 : (lens g2).length ≤ 8 := by rw [List.length_map]; exact V2.len
      by_cases h100 : a = 100
      · rw [beq_iff_eq.mpr h100]
        refine iteT ⟨_, rfl, .inl ⟨rfl, _, SqL.of hl2⟩, l, _, rfl, rfl, hl2, ?_⟩
        rw [show (intV (lens g2)).reverse = intV (lens g2).reverse from (List.map_reverse ..).symm]
        refine fin _ _ (by rw [List.length_reverse]; exact l8) (same_put (sm1.trans sm2) hl0) upd_same ?_
        rw [if_pos h100]
      · rw [beq_eq_false_iff_ne.mpr h100]
        refine iteF (fin _ _ l8 (sm1.trans sm2) hl2 ?_)
        rw [if_neg h100]
end
end TU
end
section
set_option Elab.async false
set_option maxRecDepth 100000
set_option linter.all false
namespace TR
open PySem PySem.Spec PyProof.Rows L2 TM TK TB TP TH TU
section
variable {X : Cx}
def tRevS (te : TE) : TE := fun σ H Q => te σ H fun x H1 => ∃ t : List Nat, x = .str (S t) ∧ t.length ≤ sizeLine ∧ Q (.str (S t.reverse)) H1
theorem rev_S (t : List Nat) (u : Tok) : Txt.sliceBy (S t) none none (-1, u) = S t.reverse := by
  have h := step_rev_list (S t) u
  have e : ((List.range (S t).length).map fun k => (S t).cps.getD ((S t).length - 1 - k) 0) = t.reverse := by
    rw [S_len]
    refine List.ext_getElem? fun i => ?_
    by_cases hi : i < t.length
    · rw [List.getElem?_map, List.getElem?_range hi, List.getElem?_reverse hi]
      show some ((S t).cps.getD (t.length - 1 - i) 0) = _
      rw [List.getElem?_eq_getElem (by omega : t.length - 1 - i < t.length)]
      simp [S, Array.getD, show t.length - 1 - i < t.length by omega]
    · rw [List.getElem?_eq_none (by simp; omega), List.getElem?_eq_none (by simp; omega)]
  rw [e] at h
  generalize Txt.sliceBy (S t) none none (-1, u) = z at h
  obtain ⟨c⟩ := z
  show Str.mk c = Str.mk _
  rw [← h]
theorem pe_revS {e : Expr} {te : TE} {k : Nat} {p1 p2 p3 pos : Pos} (he : PE X e te) : PE X (.Subscript e (.Slice none none (some (.UnaryOp .USub (.Constant (.int 1) k p1) p2)) p3) pos) (tRevS te) := by
  refine ⟨fun pins s σ H Q I h => ?_⟩
  refine Subscript_ (thn (he.run pins s σ H _ I h) fun v s1 ⟨x, H1, I1, r1, q1⟩ => ?_)
  obtain ⟨t, ex, hx, q⟩ := q1
  subst ex
  obtain ⟨tk, rfl⟩ := r1
  have hst : PO X (some (.UnaryOp .USub (.Constant (.int 1) k p1) p2)) (tPart (tUn (rU fun i => .int (-i)) (tC (.int 1)))) := po_some (pe_un un_neg pe_int)
  refine wpAny_Slice (thn (po_none.run pins s1 σ H1 (fun o H2 => o = none ∧ H2 = H1) I1 ⟨rfl, rfl⟩) fun vl s2 ⟨l, H2, I2, pl, el, e2⟩ => ?_)
  subst el e2
  refine thn (po_none.run pins s2 σ H2 (fun o H3 => o = none ∧ H3 = H2) I2 ⟨rfl, rfl⟩) fun vu s3 ⟨u, H3, I3, pu, eu, e3⟩ => ?_
  subst eu e3
  refine thn (hst.run pins s3 σ H3 (fun o H4 => o = some (-1) ∧ H4 = H3) I3 ⟨1, rfl, -1, rfl, rfl, rfl⟩) fun vs s4 ⟨o, H4, I4, ps, eo, e4⟩ => ?_
  subst eo e4
  have I5 : Inv X pins σ H4 { s4 with heap := s4.heap.push { cls := .type "slice", data := .fields #[vl, vu, vs] } } := I4.kept (t' := s4.toks) fun b ob q => Heap.get?_push_of_some _ q
  show wpAny (model X.prog X.w) X.A (subscriptTail e (.Slice none none (some (.UnaryOp .USub (.Constant (.int 1) k p1) p2)) p3) (.str (S t) tk) (.ref s4.heap.objs.size)) (EP X pins σ Q) X.xe { s4 with heap := s4.heap.push { cls := .type "slice", data := .fields #[vl, vu, vs] } }
  refine tail_any (ops := [.ref s4.heap.objs.size, .str (S t) tk]) (typeIs_str _ _ _) (F.slot_str_getitem.lookup) ?_ (by with_unfolding_all rfl)
  obtain ⟨l', rfl, hl'⟩ := IsPart.raw pl
  obtain ⟨u', rfl, hu'⟩ := IsPart.raw pu
  obtain ⟨o', rfl, ho'⟩ := IsPart.raw ps
  obtain rfl : l' = none := by cases l' <;> simp_all
  obtain rfl : u' = none := by cases u' <;> simp_all
  obtain ⟨z, rfl⟩ : ∃ z, o' = some (-1, z) := by
    cases o' with
    | none => simp at ho'
    | some p => exact ⟨p.2, by obtain ⟨p1, p2⟩ := p; simp at ho'; rw [ho']⟩
  refine wpAny_getItem_str_slice (l := none) (u := none) (st := some (-1, z)) ⟨_, Heap.get?_push_size _ rfl, rfl, rfl⟩ rfl ?_
  have e := rev_S t z
  unfold Txt.sliceBy at e
  unfold sliceMade
  have c0 : ¬ ((((some ((-1 : Int), z)).map (·.1)).getD 1 == 1 && (slicePicked (S t) none none (some (-1, z))).length == (S t).length) = true) := by
    rw [show (((some ((-1 : Int), z)).map (·.1)).getD 1 == 1) = false from rfl, Bool.false_and]
    exact Bool.false_ne_true
  rw [if_neg c0] at e ⊢
  rw [e]
  exact ⟨by show (S t.reverse).length ≤ sizeLine; rw [S_len, List.length_reverse]; exact hx, .str _, H4, I5.tok _, ⟨_, rfl⟩, q⟩
end
section
variable {P : Program} {w_ : World} {K : PySem.W.Frag} {mg : Str → Option Value} {base : Heap} {D pR gR pH gH pW gW : Addr} {fdR fdH fdW : FuncData}
abbrev NLi : List Str := ["_law_tray_here", "_law_corner", "_law_lengths", "_law_rows_here", "_law_k", "_law_size", "_law_line"]
theorem scLi : FnScope NLi ["_law_tray_here", "_law_corner", "_law_lengths"] (defScope sLawLies) := ⟨rfl, rfl, rfl, by decide +kernel, rfl, by decide +kernel, by decide +kernel⟩
def spLi (K : PySem.W.Frag) (D : Addr) : Sp := fun vs H Q _ => ∃ (p l a b h w : Nat) (g : Grid), vs = [.ref p, .str (S [a, b]), .ref l] ∧ TrayAt K D H p g ∧ VG h w g ∧ Sq h w (a == 117) (b == 108) g ∧ H l = some (.lst (intV (posN (hd (a == 117) g)))) ∧ ∀ H', Same H H' → Q (.bl true) H'
theorem cutS_lo {t : List Nat} {d : Nat} : cutS (S t) none (some (d : Int)) = S (t.take d) := by
  unfold cutS
  rw [S_len, S_list, show HT.sIx t.length 0 none = 0 from rfl, HT.sIx_nat, Nat.sub_zero, List.drop_zero]
  rcases Nat.le_total d t.length with h | h
  · rw [Nat.min_eq_left h]
  · rw [Nat.min_eq_right h, List.take_length, List.take_of_length_le h]
theorem cutS_hi {t : List Nat} {d : Nat} (h : d ≤ t.length) : cutS (S t) (some (d : Int)) none = S (t.drop d) := by
  unfold cutS
  rw [S_len, S_list, show HT.sIx t.length t.length none = t.length from rfl, HT.sIx_nat, Nat.min_eq_left h]
  rw [List.take_of_length_le (by rw [List.length_drop]; exact Nat.le_refl _)]
theorem ok_li {f : Addr} {fd : FuncData} (F : Fun K "_law_lies" "_law_lies" sLawLies f fd) (mlst : mg "list" = none) (mrng : mg "range" = none) (CT : ClsT K mg D)
    (PR : PropOf K D "rows" pR gR) (GR : FnOk P w_ K mg base CX0 1 gR fdR ["self"] (getSp D "_rows")) (bR : Binds K fdR ["self"] [])
    (PH : PropOf K D "height" pH gH) (GH : FnOk P w_ K mg base CX0 1 gH fdH ["self"] (spHt K D)) (bH : Binds K fdH ["self"] [])
    (PW_ : PropOf K D "width" pW gW) (GW : FnOk P w_ K mg base CX0 1 gW fdW ["self"] (spWd K D)) (bW : Binds K fdW ["self"] []) :
    FnOk P w_ K mg base CX0 3 f fd ["_law_tray_here", "_law_corner", "_law_lengths"] (spLi K D) := by
  refine F.ok scLi (fun vs H Q E h => ?_) (fun cdv A outer s H vs Q E hr h => ?_)
  · obtain ⟨p, l, a, b, h, w, g, rfl, _⟩ := h
    rfl
  · obtain ⟨p, l, a, b, h, w, g, rfl, T0, hV, hS, hl, k⟩ := h
    have nd := scLi.nd
    refine ⟨_, C8.pss_cut (ps_set (i := 3) nd rfl (.inl rfl) (pe_ifExp (pt_cmpR op_eq (pe_ix ix_str (pv 1) pe_int (fun _ _ => rfl)) pe_str (nomark _))
        (pe_callTy call_list_of (by rfl) mlst (by decide +kernel) (pa_cons (pe_prop (pv 0) CT.cl PR GR hr bR .nil pass0 rfl) pa_nil))
        (pe_revL (pe_callTy call_list_of (by rfl) mlst (by decide +kernel) (pa_cons (pe_prop (pv 0) CT.cl PR GR hr bR .nil pass0 rfl) pa_nil)))))
      (pss_cons (ps_for PassesOwn.never rfl (pi_range1 (by rfl) mrng (pa_cons (pe_prop (pv 0) CT.cl PH GH hr bH .nil pass0 rfl) pa_nil)) (pg_name (i := 4) nd rfl (.inl rfl))
        (pss_cons (ps_set (i := 5) nd rfl (.inl rfl) (pe_ix ix_list (pe_op op_cat (pv 2) (pe_op op_rep (pe_lst (pa_cons pe_int pa_nil)) (pe_prop (pv 0) CT.cl PH GH hr bH .nil pass0 rfl))) (pv 4) (fun _ _ => rfl)))
        (pss_cons (ps_set (i := 6) nd rfl (.inl rfl) (pe_ifExp (pt_cmpR op_eq (pe_ix ix_str (pv 1) pe_int (fun _ _ => rfl)) pe_str (nomark _)) (pe_ix ix_list (pv 3) (pv 4) (fun _ _ => rfl)) (pe_revS (pe_ix ix_list (pv 3) (pv 4) (fun _ _ => rfl)))))
        (pss_one (ps_if (PW.pt (pw_or (pt_cmpR op_in_sign pe_str (pe_slice sl_str (pv 6) po_none (po_some (pv 5))) (by rfl)) (pw_or1 (pt_cmpR op_ne (pe_slice sl_str (pv 6) (po_some (pv 5)) po_none) (pe_op op_repS pe_str (pe_op op_sub (pe_prop (pv 0) CT.cl PW_ GW hr bW .nil pass0 rfl) (pv 5))) (nomark _))))) pss_never pss_nil)))))
      (pss_one (ps_ret pe_bl))), ?_⟩
    have hn8 := hV.n8
    have hm8 := hV.m8
    obtain ⟨dp, ap, hp, hSp⟩ := id T0
    -- the rows from the corner on
    refine ⟨fun σ H1 => ∃ r, σ = [some (.ref p), some (.str (S [a, b])), some (.ref l), some (.ref r), none, none, none] ∧ H1 r = some (.lst (rowV (rws (a == 117) g))) ∧ Same H H1, ?_, ?_⟩
    · refine ⟨_, rfl, S [a, b], (0 : Int), a, rfl, rfl, by show 2 ≤ sizeLine; decide, rfl, rfl, _, rfl, ?_⟩
      rw [show decide (V.str ⟨#[a]⟩ = V.str (Str.ofString "u")) = (a == 117) from dL a 117]
      unfold rws
      cases hu : (a == 117) with
      | true =>
        refine iteT ⟨_, rfl, p, dp, _, rfl, hp, p, dp, _, _, rfl, hp, rfl, ap, _, rfl, .inr hSp, fun r hr => ⟨r, rfl, upd_same, same_new hr⟩⟩
      | false =>
        refine iteF ⟨_, rfl, p, dp, _, rfl, hp, p, dp, _, _, rfl, hp, rfl, ap, _, rfl, .inr hSp, fun r hr => ⟨r, _, rfl, SqL.of upd_same, fun r2 hr2 => ⟨r2, rfl, ?_, (same_new hr).trans (same_new hr2)⟩⟩⟩
        rw [upd_same, if_neg Bool.false_ne_true]
        exact congrArg (fun z => some (HO.lst z)) List.map_reverse.symm
    rintro σ H1 ⟨r, rfl, hr1, s1⟩
    refine ⟨_, rfl, p, dp, _, rfl, s1 _ _ hp, p, h, w, g, rfl, T0.same s1, hV, h, rfl, by omega, by omega, ?_⟩
    refine for_range (lo := 0) (n := h) (fun k σ H2 => ∃ v4 v5 v6, σ = [some (.ref p), some (.str (S [a, b])), some (.ref l), some (.ref r), v4, v5, v6] ∧ Same H1 H2) ⟨_, _, _, rfl, fun _ _ z => z⟩ ?_ ?_
    · rintro j σ H2 hj ⟨v4, v5, v6, rfl, s2⟩
      obtain ⟨rw_, ms, e1, e2, e3, e4, e5⟩ := hS.row hj
      have s02 := s1.trans s2
      have hl2 := s02 _ _ hl
      have hr2 := s2 _ _ hr1
      have hls : (posN (hd (a == 117) g)).length ≤ h := by
        have := posN_le (hd (a == 117) g)
        rw [hd_len hS.rc] at this
        exact this
      have hz : (0 : Int) + (j : Int) = ((j : Nat) : Int) := by omega
      have hms : ms.length ≤ 8 := by omega
      refine ⟨_, rfl, (by show 1 ≤ sizeLine; decide), fun q hq => ?_⟩
      have s3 := same_new (o := .lst [V.int 0]) hq
      have s03 := s02.trans s3
      refine ⟨_, rfl, p, dp, _, rfl, s03 _ _ hp, p, h, w, g, rfl, T0.same s03, hV, q, h, [V.int 0], rfl, rfl, upd_same, by omega, by omega, by show 1 * _ ≤ 16777216; omega, fun q2 hq2 => ?_⟩
      have s4 := same_new (o := .lst (List.replicate (h : Int).toNat [V.int 0]).flatten) hq2
      have s34 := s3.trans s4
      have ez : (List.replicate (h : Int).toNat [V.int 0]).flatten = intV (List.replicate h 0) := by
        rw [Int.toNat_natCast]
        simp [intV]
      refine ⟨l, q2, _, _, rfl, rfl, s34 _ _ hl2, upd_same, by rw [ez, List.length_map, List.length_map, List.length_replicate]; show _ ≤ 16777216; omega, fun q3 hq3 => ?_⟩
      have s5 := s34.trans (same_new (o := .lst (intV (posN (hd (a == 117) g)) ++ (List.replicate (h : Int).toNat [V.int 0]).flatten)) hq3)
      have s25 := s2.trans s5
      refine ⟨_, rfl, q3, _, _, V.int (ms.length : Nat), rfl, rfl, SqL.of upd_same, ?_, ?_⟩
      · rw [hz, ez]
        refine atI_nat ?_
        show (intV _ ++ intV _)[j]? = _
        rw [← List.map_append, List.getElem?_map, e2]
        rfl
      have hrow : atI (rowV (rws (a == 117) g)) (0 + (j : Int)) = some (V.str (S rw_)) := by
        rw [hz]
        refine atI_nat ?_
        rw [List.getElem?_map, e1]
        rfl
      have hrl : rw_.length = w := hS.rc.2 _ (rws_mem (List.mem_of_getElem? e1))
      have hsz : (S (ms ++ dots (w - ms.length))).length ≤ sizeLine := by
        rw [S_len, List.length_append]
        unfold dots
        rw [List.length_replicate]
        show _ ≤ 16777216
        omega
      have hcl : ms.length ≤ (ms ++ dots (w - ms.length)).length := by rw [List.length_append]; omega
      have hcut1 : (ms ++ dots (w - ms.length)).take ms.length = ms := by simp
      have hcut2 : (ms ++ dots (w - ms.length)).drop ms.length = dots (w - ms.length) := by simp
      have rep_dots : S (rep (w - ms.length) [46]) = S (dots (w - ms.length)) := by
        have e : ∀ n, rep n [46] = dots n := fun n => by
          unfold rep dots
          simp
        rw [e]
      refine ⟨_, rfl, S [a, b], (1 : Int), b, rfl, rfl, by show 2 ≤ sizeLine; decide, rfl, rfl, _, rfl, ?_⟩
      rw [show decide (V.str ⟨#[b]⟩ = V.str (Str.ofString "l")) = (b == 108) from dL b 108]
      cases hb : (b == 108) with
      | true =>
        rw [hb, if_pos rfl] at e3
        refine iteT ⟨_, rfl, _, rfl, r, _, _, _, rfl, rfl, SqL.of (s5 _ _ hr2), hrow, ?_⟩
        rw [e3]
        refine ⟨_, rfl, _, rfl, _, rfl, S (ms ++ dots (w - ms.length)), rfl, hsz, 46, _, rfl, rfl, _, rfl, ?_⟩
        rw [cutS_lo, hcut1, S_list, decide_eq_false (fun z => e5 46 z rfl)]
        refine iteF ⟨_, rfl, _, rfl, _, rfl, S (ms ++ dots (w - ms.length)), rfl, hsz, ?_⟩
        rw [cutS_hi hcl, hcut2]
        refine ⟨_, rfl, p, dp, _, rfl, (s02.trans s5) _ _ hp, p, h, w, g, rfl, T0.same (s02.trans s5), hV, _, rfl, _, _, rfl, rfl, [46], w - ms.length, rfl, congrArg V.int (by omega), by decide, by omega, rfl, _, rfl, ?_⟩
        rw [rep_dots, show (!decide (V.str (S (dots (w - ms.length))) = V.str (S (dots (w - ms.length))))) = false by simp]
        exact iteF ⟨_, _, _, rfl, s25⟩
      | false =>
        rw [hb, if_neg Bool.false_ne_true] at e3
        refine iteF ⟨_, rfl, _, rfl, r, _, _, _, rfl, rfl, SqL.of (s5 _ _ hr2), hrow, rw_, rfl, by show _ ≤ 16777216; omega, ?_⟩
        rw [e3]
        refine ⟨_, rfl, _, rfl, _, rfl, S (ms ++ dots (w - ms.length)), rfl, hsz, 46, _, rfl, rfl, _, rfl, ?_⟩
        rw [cutS_lo, hcut1, S_list, decide_eq_false (fun z => e5 46 z rfl)]
        refine iteF ⟨_, rfl, _, rfl, _, rfl, S (ms ++ dots (w - ms.length)), rfl, hsz, ?_⟩
        rw [cutS_hi hcl, hcut2]
        refine ⟨_, rfl, p, dp, _, rfl, (s02.trans s5) _ _ hp, p, h, w, g, rfl, T0.same (s02.trans s5), hV, _, rfl, _, _, rfl, rfl, [46], w - ms.length, rfl, congrArg V.int (by omega), by decide, by omega, rfl, _, rfl, ?_⟩
        rw [rep_dots, show (!decide (V.str (S (dots (w - ms.length))) = V.str (S (dots (w - ms.length))))) = false by simp]
        exact iteF ⟨_, _, _, rfl, s25⟩
    · rintro σ H2 ⟨v4, v5, v6, rfl, s2⟩
      exact k _ (s1.trans s2)
end
end TR
end
section
set_option maxHeartbeats 4000000
set_option linter.all false
namespace TM
open TA TU TK
theorem along_cons (c : Nat) (t X : List Nat) : along (c :: t) X = if c ∈ X then c :: along t X else along t X := by
  unfold along
  rw [List.filter_cons]
  simp
theorem last_or {α : Type} (c : α) (l : List α) (s : Option α) : ((c :: l).getLast?).or s = l.getLast?.or (some c) := by
  rw [List.getLast?_cons]
  cases l.getLast? <;> rfl
theorem isH_mem {c : Nat} (h : isT c = true) : (c ∈ [108, 114] ↔ isH c = true) ∧ (c ∈ [117, 100] ↔ isH c = false) := by
  have hc : c = 108 ∨ c = 114 ∨ c = 117 ∨ c = 100 := by
    simp only [isT, decide_eq_true_eq, List.mem_cons, List.not_mem_nil, or_false] at h
    exact h
  rcases hc with rfl | rfl | rfl | rfl <;> decide
theorem col_H {n m : Nat} : ∀ (t : List Nat) (g : Grid) (s : Option Nat), (∀ c ∈ t, isT c = true) → Rect n m g → (∀ a, s = some a → UT (a == 117) n m g = g) → ∀ a, ((along t [117, 100]).getLast?).or s = some a → UT (a == 117) n m (tilts n m t g) = tilts n m t g
  | [], g, s, _, _, hs => fun a e => hs a e
  | c :: t, g, s, hg, R, hs => fun a e => by
    have hc := hg c List.mem_cons_self
    have ht := fun d hd => hg d (List.mem_cons_of_mem _ hd)
    show UT _ n m (tilts n m t (tilt n m g c)) = tilts n m t (tilt n m g c)
    rw [along_cons] at e
    cases hh : isH c with
    | true =>
      rw [if_neg (fun z => by rw [(isH_mem hc).2.mp z] at hh; cases hh)] at e
      refine col_H t _ s ht (tilt_rect R) (fun b hb => ?_) a e
      unfold tilt
      rw [hh, if_pos rfl]
      have := ulu (a := b == 117) (o := c == 108) R
      rw [hs b hb] at this
      exact this
    | false =>
      rw [if_pos ((isH_mem hc).2.mpr hh), last_or] at e
      refine col_H t _ (some c) ht (tilt_rect R) (fun b hb => ?_) a e
      cases hb
      unfold tilt
      rw [hh, if_neg Bool.false_ne_true]
      exact ut_ut R
theorem row_H {n m : Nat} : ∀ (t : List Nat) (g : Grid) (s : Option Nat), (∀ c ∈ t, isT c = true) → Rect n m g → (∀ a, s = some a → LT (a == 108) g = g) → ∀ a, ((along t [108, 114]).getLast?).or s = some a → LT (a == 108) (tilts n m t g) = tilts n m t g
  | [], g, s, _, _, hs => fun a e => hs a e
  | c :: t, g, s, hg, R, hs => fun a e => by
    have hc := hg c List.mem_cons_self
    have ht := fun d hd => hg d (List.mem_cons_of_mem _ hd)
    show LT _ (tilts n m t (tilt n m g c)) = tilts n m t (tilt n m g c)
    rw [along_cons] at e
    cases hh : isH c with
    | false =>
      rw [if_neg (fun z => by rw [(isH_mem hc).1.mp z] at hh; cases hh)] at e
      refine row_H t _ s ht (tilt_rect R) (fun b hb => ?_) a e
      unfold tilt
      rw [hh, if_neg Bool.false_ne_true]
      have := lul (a := b == 108) (o := c == 117) R
      rw [hs b hb] at this
      exact this
    | true =>
      rw [if_pos ((isH_mem hc).1.mpr hh), last_or] at e
      refine row_H t _ (some c) ht (tilt_rect R) (fun b hb => ?_) a e
      cases hb
      unfold tilt
      rw [hh, if_pos rfl]
      exact lt_lt _ _ _
theorem crn_parts {t : List Nat} {a b : Nat} (h : crn t = some (a, b)) : (along t [117, 100]).getLast? = some a ∧ (along t [108, 114]).getLast? = some b := by
  unfold crn at h
  cases e1 : (along t [117, 100]).getLast? with
  | none => rw [e1] at h; cases h
  | some a' =>
    cases e2 : (along t [108, 114]).getLast? with
    | none => rw [e1, e2] at h; cases h
    | some b' => rw [e1, e2] at h; cases h; exact ⟨rfl, rfl⟩
theorem crn_mk {t : List Nat} {a b : Nat} (h1 : (along t [117, 100]).getLast? = some a) (h2 : (along t [108, 114]).getLast? = some b) : crn t = some (a, b) := by
  unfold crn
  rw [h1, h2]
theorem sq_tilts {n m a b : Nat} {t : List Nat} {g : Grid} (hg : ∀ c ∈ t, isT c = true) (R : Rect n m g) (h : crn t = some (a, b)) : Sq n m (a == 117) (b == 108) (tilts n m t g) := by
  obtain ⟨h1, h2⟩ := crn_parts h
  exact ⟨tilts_rect t R, row_H t g none hg R (fun _ z => nomatch z) b (by rw [h2]; rfl), col_H t g none hg R (fun _ z => nomatch z) a (by rw [h1]; rfl)⟩
theorem crn_mem {t : List Nat} {a b : Nat} (h : crn t = some (a, b)) : (a = 117 ∨ a = 100) ∧ (b = 108 ∨ b = 114) := by
  obtain ⟨h1, h2⟩ := crn_parts h
  have m1 := (List.mem_filter.mp (List.mem_of_getLast? h1)).2
  have m2 := (List.mem_filter.mp (List.mem_of_getLast? h2)).2
  constructor
  · simpa using m1
  · simpa using m2
theorem along_app (t u X : List Nat) : along (t ++ u) X = along t X ++ along u X := List.filter_append _ _
theorem crn_app {t u : List Nat} {p : Nat × Nat} (h : crn u = some p) : crn (t ++ u) = some p := by
  obtain ⟨a, b⟩ := p
  obtain ⟨h1, h2⟩ := crn_parts h
  refine crn_mk ?_ ?_
  · rw [along_app, List.getLast?_append, h1]
    rfl
  · rw [along_app, List.getLast?_append, h2]
    rfl
theorem crn_step {t : List Nat} {a b c : Nat} (h : crn t = some (a, b)) (hc : isT c = true) : crn (t ++ [c]) = some (if isH c then (a, c) else (c, b)) := by
  obtain ⟨h1, h2⟩ := crn_parts h
  cases hh : isH c with
  | true =>
    rw [if_pos rfl]
    refine crn_mk ?_ ?_
    · rw [along_app, along_cons, if_neg (fun z => by rw [(isH_mem hc).2.mp z] at hh; cases hh)]
      show (along t [117, 100] ++ []).getLast? = _
      rw [List.append_nil]
      exact h1
    · rw [along_app, along_cons, if_pos ((isH_mem hc).1.mpr hh), List.getLast?_append]
      rfl
  | false =>
    rw [if_neg Bool.false_ne_true]
    refine crn_mk ?_ ?_
    · rw [along_app, along_cons, if_pos ((isH_mem hc).2.mpr hh), List.getLast?_append]
      rfl
    · rw [along_app, along_cons, if_neg (fun z => by rw [(isH_mem hc).1.mp z] at hh; cases hh)]
      show (along t [108, 114] ++ []).getLast? = _
      rw [List.append_nil]
      exact h2
/-- the heap's lengths stay with each further tilt -/
theorem hd_ext {n m : Nat} {g : Grid} (R : Rect n m g) : ∀ (u t : List Nat) (a b : Nat), (∀ c ∈ t, isT c = true) → (∀ c ∈ u, isT c = true) → crn t = some (a, b) → ∃ a' b', crn (t ++ u) = some (a', b') ∧ hd (a' == 117) (tilts n m (t ++ u) g) = hd (a == 117) (tilts n m t g)
  | [], t, a, b, _, _, h => ⟨a, b, by rw [List.append_nil]; exact h, by rw [List.append_nil]⟩
  | c :: u, t, a, b, ht, hu, h => by
    have hc := hu c List.mem_cons_self
    have S0 := sq_tilts ht R h
    have ht' : ∀ d ∈ t ++ [c], isT d = true := fun d hd => by
      rcases List.mem_append.mp hd with hd | hd
      · exact ht d hd
      · rw [List.mem_singleton.mp hd]
        exact hc
    have hs := crn_step h hc
    have e : t ++ c :: u = (t ++ [c]) ++ u := by simp
    rw [e]
    cases hh : isH c with
    | true =>
      rw [hh, if_pos rfl] at hs
      obtain ⟨a', b', q1, q2⟩ := hd_ext R u (t ++ [c]) a c ht' (fun d hd => hu d (List.mem_cons_of_mem _ hd)) hs
      refine ⟨a', b', q1, q2.trans ?_⟩
      rw [tilts_snoc]
      unfold tilt
      rw [hh, if_pos rfl]
      exact S0.hd_lt _
    | false =>
      rw [hh, if_neg Bool.false_ne_true] at hs
      obtain ⟨a', b', q1, q2⟩ := hd_ext R u (t ++ [c]) c b ht' (fun d hd => hu d (List.mem_cons_of_mem _ hd)) hs
      refine ⟨a', b', q1, q2.trans ?_⟩
      rw [tilts_snoc]
      unfold tilt
      rw [hh, if_neg Bool.false_ne_true]
      exact S0.hd_ut _
/-- what heap_lengths tells of a word with a corner -/
theorem hl_crn {t : List Nat} {g : Grid} {a b : Nat} (h : crn t = some (a, b)) : hlL t (lens g) = some (posN (hd (a == 117) g)) := by
  unfold hlL
  rw [h]
  show some (posL _) = _
  unfold hd
  rcases (crn_mem h).1 with rfl | rfl
  · rfl
  · rfl
theorem hd_perm {n m : Nat} {A : Bool} {g : Grid} : (hd A g).Perm (lens g) := by
  unfold hd
  cases A
  · exact List.reverse_perm _
  · exact List.Perm.refl _
theorem sum_posN : ∀ l : List Nat, (posN l).sum = l.sum
  | [] => rfl
  | x :: l => by
    have ih := sum_posN l
    unfold posN at ih ⊢
    rw [List.filter_cons]
    by_cases q : 0 < x
    · rw [decide_eq_true q, if_pos rfl, List.sum_cons, List.sum_cons, ih]
    · rw [decide_eq_false q, if_neg Bool.false_ne_true, List.sum_cons, ih]
      omega
theorem sum_lens : ∀ g : Grid, (lens g).sum = (mb g.flatten).length
  | [] => rfl
  | r :: g => by
    rw [List.flatten_cons, mb_app, List.length_append, ← sum_lens g]
    rfl
/-- whole numbers, ascending, backwards -/
def intsN (l : List Nat) : List Int := l.map fun x => Int.ofNat x
theorem sorted_desc {l : List Nat} {ns : List Int} (hl : l.Pairwise (fun x y => y ≤ x)) (hp : ns.Perm (intsN l)) (hs : ns.Pairwise (· ≤ ·)) : ns.reverse = intsN l := by
  refine List.Perm.eq_of_pairwise (le := fun x y : Int => y ≤ x) (fun a b _ _ h1 h2 => by omega) (List.pairwise_reverse.mpr hs) ?_ ((List.reverse_perm _).trans hp)
  exact List.pairwise_map.mpr (hl.imp fun h => Int.ofNat_le.mpr h)
theorem desc_pos {l : List Nat} (h : l.Pairwise (fun x y => y ≤ x)) : (posN l).Pairwise (fun x y => y ≤ x) := h.sublist List.filter_sublist
theorem ints_sum : ∀ l : List Nat, (intsN l).sum = ((l.sum : Nat) : Int)
  | [] => rfl
  | x :: l => by
    show Int.ofNat x + (intsN l).sum = _
    rw [ints_sum l, List.sum_cons]
    rfl
/-- dots in a row -/
theorem count_dots : ∀ l : List Nat, PyProof.Rows.cnt 46 l = ((l.length : Nat) : Int) - (mb l).length
  | [] => rfl
  | c :: l => by
    rw [PyProof.Rows.cnt_cons, count_dots l]
    have := mb_le l
    unfold mb at this ⊢
    rw [List.filter_cons, List.length_cons]
    by_cases q : c = 46
    · subst q
      rw [if_pos rfl, show ((46 : Nat) != 46) = false from rfl, if_neg Bool.false_ne_true]
      omega
    · rw [if_neg q, show (c != 46) = true from bne_iff_ne.mpr q, if_pos rfl, List.length_cons]
      omega
end TM
end
section
set_option Elab.async false
set_option maxRecDepth 100000
set_option linter.all false
namespace TR
open PySem PySem.Spec PyProof.Rows L2 TM TK TB TP TH TU
section
variable {P : Program} {w_ : World} {K : PySem.W.Frag} {mg : Str → Option Value} {base : Heap} {C D fT pO gO : Addr} {mc : Value} {fdT : FuncData} {a : Addr} {ns : List Int}
theorem scTry : FnScope ["_law_rows_here"] ["_law_rows_here"] (defScope sLawTray) := ⟨rfl, rfl, rfl, by decide +kernel, rfl, by decide +kernel, by decide +kernel⟩
def spTry (K : PySem.W.Frag) (D : Addr) : Sp := fun vs H Q _ => ∃ (l : Addr) (h w : Nat) (g : Grid), vs = [.ref l] ∧ VG h w g ∧ H l = some (.lst (rowV g)) ∧ ∀ H' p, Same H H' → TrayAt K D H' p g → Q (.ref p) H'
theorem ok_try {f : Addr} {fd : FuncData} (F : Fun K "_law_tray" "_law_tray" sLawTray f fd) (CT : ClsT K mg D) (CR_ : ClX.CRead K D mc) (CM : ClX.CMet K D mc "of_text" pO gO) (GO : FnR P w_ K mg base CX0 5 gO (spOt K D)) :
    FnOk P w_ K mg base CX0 6 f fd ["_law_rows_here"] (spTry K D) := by
  refine F.ok scTry (fun vs H Q E h => ?_) (fun cdv A outer s H vs Q E hr h => ?_)
  · obtain ⟨l, h, w, g, rfl, _⟩ := h
    rfl
  · obtain ⟨l, h, w, g, rfl, hV, hl, k⟩ := h
    refine ⟨_, pss_one (ps_ret (ClX.pe_cmeth (pe_glob (v := .ref D) rfl CT.mgC rfl) CR_ CM GO hr pass0 (pa_cons (pe_join pe_str (pv 0)) pa_nil))), ?_⟩
    have h1 := row_sum 8 g fun r hr => hV.row hr
    have h2 := hV.len
    refine ⟨rfl, ⟨_, rfl⟩, _, rfl, _, l, g.map S, rfl, rfl, .inl ?_, ?_, h, w, g, ?_, hV, fun H' p sm ht => k H' p sm ht⟩
    · rw [List.map_map]
      exact SqL.of hl
    · rw [List.length_map]
      show _ + _ * 1 ≤ 16777216
      omega
    · show [V.ref D, V.str (Txt.join (S [10]) (g.map S))] = _
      rw [join_S]
end
end TR
end
section
set_option Elab.async false
set_option maxRecDepth 100000
set_option linter.all false
namespace TR
open PySem PySem.Spec PyProof.Rows L2 TM TK TB TP TH TU TW TG
def rNotInT (K : PySem.W.Frag) : R2 := fun x y H Q => ∃ d ds, Dp K H x d ∧ Dp K H y (.tuple ds) ∧ SeqAt.shaped d = true ∧ SeqAt.shaped (.tuple ds) = true ∧ Q (.bl (!ds.any fun z => PyData.eqv z d)) H
theorem op_notInT {X : Cx} (hu : X.A.units + 65 < cLine) : OpR X (compareOp .NotIn) (rNotInT X.K) := by
  intro pins s σ H x y v u Q I rx ry h
  obtain ⟨d, ds, hd, he, sd, se, q⟩ := h
  obtain ⟨as, r1⟩ := Dp.reads I d x v hd rx
  obtain ⟨bs, r2⟩ := Dp.reads I (.tuple ds) y u he ry
  exact SeqAt.notIn_tuple_reads r2 r1 (SeqAt.canLay_of_shaped se) (SeqAt.canLay_of_shaped sd) (room_in_shaped sd hu) ⟨.bl _, H, I, rfl, q⟩
section
variable {X : Cx} {n : Nat}
theorem pwn_andE1 {a : Expr} {tA : TT} {pos : Pos} (ha : PTn n X a tA) : PWn n X (.BoolOp .And [a] pos) tA := by
  intro whole pins s σ H Q hn I h
  refine isTrue_and (thn (ha pins s σ H Q hn I h) fun c s1 e => ?_)
  cases c with
  | true => exact isTrue_and_nil e
  | false => exact e
theorem pwn_andE {a b : Expr} {rest : List Expr} {tA tB : TT} {pos : Pos} (ha : PTn n X a tA) (hb : PWn n X (.BoolOp .And (b :: rest) pos) tB) : PWn n X (.BoolOp .And (a :: b :: rest) pos) (tAnd tA tB) := by
  intro whole pins s σ H Q hn I h
  refine isTrue_and (thnN hn (ha pins s σ H _ hn I h) fun c s1 hn1 ⟨H1, I1, q1⟩ => ?_)
  cases c with
  | true => exact hb whole pins s1 σ H1 Q hn1 I1 q1
  | false => exact ⟨H1, I1, q1⟩
end
theorem tray_but {K : PySem.W.Frag} {D p r : Addr} {H H' : Hp} {g : Grid} {xs : List V} (h : TrayAt K D H p g) (hr : H r = some (.lst xs)) (b : But r H H') : TrayAt K D H' p g := by
  obtain ⟨dx, a, h1, h2⟩ := h
  have ne : p ≠ r := fun e => by
    rw [e, hr] at h1
    cases h1
  refine ⟨dx, a, b _ _ h1 ne, ?_⟩
  rcases h2 with (h2 | ⟨u, h2⟩) | h2
  · exact .inl (.inl (b _ _ h2 fun e => by rw [e, hr] at h2; cases h2))
  · exact .inl (.inr ⟨u, b _ _ h2 fun e => by rw [e, hr] at h2; cases h2⟩)
  · exact .inr h2
theorem word_but {C p r : Addr} {H H' : Hp} {t : List Nat} {xs : List V} (h : WordAt C H p t) (hr : H r = some (.lst xs)) (b : But r H H') : WordAt C H' p t := by
  obtain ⟨dx, h1⟩ := h
  exact ⟨dx, b _ _ h1 fun e => by rw [e, hr] at h1; cases h1⟩
theorem un65 {A : Around} {k : Nat} (hr : Room k A) : A.units + 65 < cLine := by have := hr.un; omega
/-- a list of ints is not where the drawing stands -/
theorem ints_ne {K : PySem.W.Frag} {a r l : Addr} {ns : List Int} {H : Hp} {L : List Nat} (R : RowAt K a ns H r) (hl : H l = some (.lst (intV L))) : l ≠ r := fun e => by
  obtain ⟨_, _, _, e2, _⟩ := R
  rw [e, e2] at hl
  cases L with
  | nil => cases hl
  | cons x L => cases hl
/-- what the law holds of a heap -/
structure C18 (K : PySem.W.Frag) (C D a : Addr) (ns : List Int) (r p q l d : Addr) (g G : Grid) (t L : List Nat) (H : Hp) : Prop where
  tr : TrayAt K D H p g
  w1 : WordAt C H q t
  ln : H l = some (.lst (intV L))
  td : TrayAt K D H d G
  rw : RowAt K a ns H r
theorem C18.same {K : PySem.W.Frag} {C D a : Addr} {ns : List Int} {r p q l d : Addr} {g G : Grid} {t L : List Nat} {H H' : Hp} (c : C18 K C D a ns r p q l d g G t L H) (s : Same H H') : C18 K C D a ns r p q l d g G t L H' := ⟨c.tr.same s, c.w1.same s, s _ _ c.ln, c.td.same s, c.rw.same s⟩
theorem C18.but {K : PySem.W.Frag} {C D a : Addr} {ns : List Int} {r p q l d : Addr} {g G : Grid} {t L : List Nat} {H H' : Hp} (c : C18 K C D a ns r p q l d g G t L H) (b : But r H H') (R : RowAt K a ns H' r) : C18 K C D a ns r p q l d g G t L H' := by
  obtain ⟨_, _, _, h, _⟩ := id c.rw
  exact ⟨tray_but c.tr h b, word_but c.w1 h b, b _ _ c.ln (ints_ne c.rw c.ln), tray_but c.td h b, R⟩
/-- the trays behind, in a list -/
structure BehAt (K : PySem.W.Frag) (D : Addr) (h w c : Nat) (G : Grid) (tl : Addr) (ys : List V) (H : Hp) : Prop where
  ls : H tl = some (.lst ys)
  n : ys.length = 8
  at_ : ∀ k y, ys[k]? = some y → ∃ rr, y = .ref rr ∧ TrayAt K D H rr (tilts h w (clk c (k + 1)) G)
theorem BehAt.same {K : PySem.W.Frag} {D : Addr} {h w c : Nat} {G : Grid} {tl : Addr} {ys : List V} {H H' : Hp} (B : BehAt K D h w c G tl ys H) (s : Same H H') : BehAt K D h w c G tl ys H' := ⟨s _ _ B.ls, B.n, fun k y e => by
  obtain ⟨rr, e1, t⟩ := B.at_ k y e
  exact ⟨rr, e1, t.same s⟩⟩
theorem urdl_at {c j k : Nat} (h : [117, 114, 100, 108][j]? = some c) (hk : k < 8) : Txt.find (S [117, 114, 100, 108]) (S [c]) = (j : Int) ∧ (rep 4 [117, 114, 100, 108])[j + k]? = some (cwN c k) := by
  have hj : j < 4 := (List.getElem?_eq_some_iff.mp h).1
  have all : ∀ k < 8, (rep 4 [117, 114, 100, 108])[0 + k]? = some (cwN 117 k) ∧ (rep 4 [117, 114, 100, 108])[1 + k]? = some (cwN 114 k) ∧ (rep 4 [117, 114, 100, 108])[2 + k]? = some (cwN 100 k) ∧ (rep 4 [117, 114, 100, 108])[3 + k]? = some (cwN 108 k) := by decide
  obtain ⟨a0, a1, a2, a3⟩ := all k hk
  match j, h with
  | 0, h => cases h; exact ⟨by decide +kernel, a0⟩
  | 1, h => cases h; exact ⟨by decide +kernel, a1⟩
  | 2, h => cases h; exact ⟨by decide +kernel, a2⟩
  | 3, h => cases h; exact ⟨by decide +kernel, a3⟩
theorem ls_ok : ∀ j < 3, Good (rep j [108]) ∧ crn (rep j [108]) = none := by
  intro j hj
  have : j = 0 ∨ j = 1 ∨ j = 2 := by omega
  rcases this with rfl | rfl | rfl
  · exact ⟨⟨by decide, by decide⟩, rfl⟩
  · exact ⟨⟨by decide, by decide⟩, rfl⟩
  · exact ⟨⟨by decide, by decide⟩, rfl⟩
theorem urdl_t : ∀ c ∈ [117, 114, 100, 108], isT c = true := by decide
theorem intV_ints (L : List Nat) : intV L = (intsN L).map V.int := by
  unfold intsN
  rw [List.map_map]
  rfl
/-- the pairs of tilts along both axes -/
def prs : List (List Nat) := [[108, 117], [117, 114], [114, 100], [100, 108], [117, 108], [114, 117], [100, 114], [108, 100]]
theorem prs_ok : ∀ z ∈ prs, (∃ p, crn z = some p) ∧ z.length = 2 ∧ ∀ c ∈ z, isT c = true := by
  intro z hz
  simp only [prs, List.mem_cons, List.not_mem_nil, or_false] at hz
  rcases hz with rfl | rfl | rfl | rfl | rfl | rfl | rfl | rfl
  all_goals exact ⟨⟨_, rfl⟩, rfl, by decide⟩
theorem S_app (t u : List Nat) : S t ++ S u = S (t ++ u) := by
  show Str.mk (t.toArray ++ u.toArray) = _
  simp
/-- ints as data -/
def intD (l : List Nat) : List PyData := l.map fun n => PyData.int (n : Nat)
theorem int_dp {K : PySem.W.Frag} {H : Hp} : ∀ l : List Nat, DpAll K H (intV l) (intD l)
  | [] => .nil
  | _ :: r => .cons (.int _) (int_dp r)
theorem int_lay : ∀ l : List Nat, PyData.canLayAll0 (intD l) = true
  | [] => rfl
  | c :: r => by
    show (PyData.canLay0 (.int (c : Nat)) && PyData.canLayAll0 (intD r)) = true
    rw [int_lay r]
    rfl
theorem int_depth : ∀ l : List Nat, PyData.depthAll (intD l) = 0
  | [] => rfl
  | x :: l => by
    show max (PyData.depth (.int _)) (PyData.depthAll (intD l)) = 0
    rw [int_depth l]
    rfl
theorem int_shaped (l : List Nat) : SeqAt.shaped (.list (intD l)) = true := by
  show (PyData.canLayAll0 (intD l) && decide (PyData.depthAll (intD l) + 1 ≤ 64)) = true
  rw [int_lay, int_depth]
  rfl
theorem int_same (l : List Nat) : PyData.eqv (.list (intD l)) (.list (intD l)) = true := SeqAt.eqv_refl _ (int_lay l)
section
variable {P : Program} {w_ : World} {K : PySem.W.Frag} {mg : Str → Option Value} {base : Heap} {C fI : Addr} {fdI : FuncData}
theorem scAd0 : FnScope ["self", "other"] ["self", "other"] (defScope sWordAdd) := ⟨rfl, rfl, rfl, by decide +kernel, rfl, by decide +kernel, by decide +kernel⟩
def spAd0 (C : Addr) : Sp := fun vs H Q _ => ∃ (p q : Addr) (t u : List Nat), vs = [.ref p, .ref q] ∧ WordAt C H p t ∧ WordAt C H q u ∧ Good (t ++ u) ∧ ∀ H2 r, Same H H2 → WordAt C H2 r (t ++ u) → Q (.ref r) H2
theorem ok_ad0 {f : Addr} {fd : FuncData} (F : Fun K "__add__" "Word.__add__" sWordAdd f fd) (CW : ClsW K mg C) (T : TxtW K mg) (IC : C8.InsC K C) (M : Mk K C fI) (GI : FnOk P w_ K mg base CX0 3 fI fdI ["self", "text"] (spWi C)) (bI : Binds K fdI ["self", "text"] []) :
    FnOk P w_ K mg base CX0 5 f fd ["self", "other"] (spAd0 C) := by
  refine F.ok scAd0 (fun vs H Q E h => ?_) (fun cdv A outer s H vs Q E hr h => ?_)
  · obtain ⟨p, q, t, u, rfl, _⟩ := h
    rfl
  · obtain ⟨p, q, t, u, rfl, ⟨dx, hp⟩, ⟨dy, hq⟩, g1, h1⟩ := h
    refine ⟨_, pss_cons (ps_if (pt_not (pt_val (pe_callB (C8.call_isC IC) (by rfl) T.isi (by decide +kernel) (pa_cons (pv 1) (pa_cons (pe_glob (v := .ref C) rfl CW.mgC rfl) pa_nil))))) pss_never pss_nil)
      (pss_one (ps_ret (pe_make M GI hr rfl CW.mgC bI .nil pass0 (pa_cons (pe_op op_add_str (pe_fld (pv 0) rfl) (pe_fld (pv 1) rfl)) pa_nil)))), ?_⟩
    refine ⟨_, rfl, q, dy, _, rfl, hq, true, rfl, iteF ?_⟩
    refine ⟨_, rfl, p, C, dx, _, _, rfl, hp, CW.cl, CW.nT, rfl, _, rfl, q, C, dy, _, _, rfl, hq, CW.cl, CW.nT, rfl, S t, S u, rfl, rfl, ?_, ?_⟩
    · rw [S_len, S_len]
      have := g1.1
      rw [List.length_append] at this
      show _ ≤ 16777216
      omega
    · have e : S t ++ S u = S (t ++ u) := by
        show Str.mk (t.toArray ++ u.toArray) = _
        simp
      rw [e]
      intro x dx nx ndx nex
      exact ⟨x, dx, t ++ u, rfl, upd_same, g1, fun H6 hw kp => ⟨rfl, h1 _ _ (Same.made nx ndx kp) hw⟩⟩
end
section
variable {P : Program} {w_ : World} {K : PySem.W.Frag} {mg : Str → Option Value} {base : Heap} {n : Nat} {C D fTk fTx fRw fTy fLi fHl fRl fTb fRs fWi pR gR pH gH pW gW pM gM pC gC pT gT fLe fAd : Addr} {fdTk fdTx fdRw fdTy fdLi fdR fdH fdW fdM fdC fdT fdWi fdLe fdAd : FuncData}
abbrev NLw : List Str := ["_law_script", "_law_row", "_law_turn", "_law_tray_here", "_law_word", "_law_lengths", "_law_there", "_law_rows_here", "_law_first", "_law_tilts", "_law_text_here", "_law_k", "_law_more", "_law_line"]
theorem scLw : FnScope NLw ["_law_script"] (defScope sLaw) := ⟨rfl, rfl, rfl, by decide +kernel, rfl, by decide +kernel, by decide +kernel⟩
def spLaw (K : PySem.W.Frag) : Sp := fun vs H Q _ => ∃ (a : Addr) (ns : List Int), vs = [.ref a] ∧ SqL K H a (ns.map V.int) ∧ ∀ H', Q (.bl true) H'
theorem ok_law {f : Addr} {fd : FuncData} (F : Fun K "law" "law" sLaw f fd) (b : Binds K fd ["_law_script"] []) (T : TxtW K mg) (mrng : mg "range" = none) (mlst : mg "list" = none) (msrt : mg "sorted" = none) (msum : mg "sum" = none) (CW : ClsW K mg C) (CT : ClsT K mg D)
    (GTk : ∀ a ns, FnOk P w_ K mg base CX0 1 fTk fdTk ["_law_row", "_law_many"] (spTk K a ns)) (kTk : PySem.W.keepIn K (.ref fTk) = true) (bTk : Binds K fdTk ["_law_row", "_law_many"] []) (mTk : mg "_law_taken" = some (.ref fTk))
    (GTx : ∀ a ns, FnOk P w_ K mg base CX0 2 fTx fdTx ["_law_row", "_law_most"] (spTx K a ns)) (kTx : PySem.W.keepIn K (.ref fTx) = true) (bTx : Binds K fdTx ["_law_row", "_law_most"] []) (mTx : mg "_law_text" = some (.ref fTx))
    (GRw : ∀ a ns, FnOk P w_ K mg base CX0 2 fRw fdRw ["_law_row", "_law_most"] (spRw K a ns)) (kRw : PySem.W.keepIn K (.ref fRw) = true) (bRw : Binds K fdRw ["_law_row", "_law_most"] []) (mRw : mg "_law_rows" = some (.ref fRw))
    (GTy : FnOk P w_ K mg base CX0 6 fTy fdTy ["_law_rows_here"] (spTry K D)) (kTy : PySem.W.keepIn K (.ref fTy) = true) (bTy : Binds K fdTy ["_law_rows_here"] []) (mTy : mg "_law_tray" = some (.ref fTy))
    (GLi : FnOk P w_ K mg base CX0 3 fLi fdLi ["_law_tray_here", "_law_corner", "_law_lengths"] (spLi K D)) (kLi : PySem.W.keepIn K (.ref fLi) = true) (bLi : Binds K fdLi ["_law_tray_here", "_law_corner", "_law_lengths"] []) (mLi : mg "_law_lies" = some (.ref fLi))
    (GHl : FnRn n P w_ K mg base CX0 7 fHl (spHl K C D)) (kHl : PySem.W.keepIn K (.ref fHl) = true) (mHl : mg "heap_lengths" = some (.ref fHl))
    (GRl : FnRn n P w_ K mg base CX0 6 fRl (spRl K C D)) (kRl : PySem.W.keepIn K (.ref fRl) = true) (mRl : mg "row_lengths" = some (.ref fRl))
    (GTb : FnG n P w_ K mg base 6 fTb (spTb K D)) (kTb : PySem.W.keepIn K (.ref fTb) = true) (mTb : mg "trays_behind" = some (.ref fTb))
    (hDC : D ≠ C) (sf : PySem.W.selfFirst K D = true) (NO : NoOp K C Operator.RShift.info.2) (hs : PySem.W.findIn K (.ref D) (PySem.dunder Operator.RShift.info.2) = some (some (.ref fRs))) (hf : PySem.W.isFn K (.ref fRs) = true) (GRs : FnRn n P w_ K mg base CX0 5 fRs (spRs K C D))
    (MW : Mk K C fWi) (GWi : FnOk P w_ K mg base CX0 3 fWi fdWi ["self", "text"] (spWi C)) (bWi : Binds K fdWi ["self", "text"] [])
    (PR : PropOf K D "rows" pR gR) (GR : FnOk P w_ K mg base CX0 1 gR fdR ["self"] (getSp D "_rows")) (bR : Binds K fdR ["self"] [])
    (PH : PropOf K D "height" pH gH) (GH : FnOk P w_ K mg base CX0 1 gH fdH ["self"] (spHt K D)) (bH : Binds K fdH ["self"] [])
    (PW_ : PropOf K D "width" pW gW) (GW : FnOk P w_ K mg base CX0 1 gW fdW ["self"] (spWd K D)) (bW : Binds K fdW ["self"] [])
    (PM : PropOf K D "marbles" pM gM) (GM : FnOk P w_ K mg base CX0 1 gM fdM ["self"] (spMb K D)) (bM : Binds K fdM ["self"] [])
    (PC : PropOf K C "corner" pC gC) (GC : FnOk P w_ K mg base CX0 2 gC fdC ["self"] (TA.spCr C)) (bC : Binds K fdC ["self"] [])
    (PT_ : PropOf K C "text" pT gT) (GT : FnOk P w_ K mg base CX0 1 gT fdT ["self"] (getSp C "_text")) (bT : Binds K fdT ["self"] [])
    (hLe : PySem.W.findIn K (.ref C) "__len__" = some (some (.ref fLe))) (iLe : PySem.W.isFn K (.ref fLe) = true) (GLe : FnR P w_ K mg base CX0 1 fLe (TA.spLe C))
    (sfC : PySem.W.selfFirst K C = true) (hAd : PySem.W.findIn K (.ref C) (PySem.dunder Operator.Add.info.2) = some (some (.ref fAd))) (iAd : PySem.W.isFn K (.ref fAd) = true) (GAd : FnR P w_ K mg base CX0 5 fAd (spAd0 C)) :
    FnRn n P w_ K mg base CX0 11 f (spLaw K) := by
  refine fn_n F b scLw (fun vs H Q E h => ?_) fun cdv A outer s H vs Q E hr h => ?_
  · obtain ⟨a, ns, rfl, _⟩ := h
    rfl
  · obtain ⟨a, ns, rfl, hS, k⟩ := h
    have nd := scLw.nd
    have r1 : Room 1 _ := hr.mono (by decide)
    have r2 : Room 2 _ := hr.mono (by decide)
    have r3 : Room 3 _ := hr.mono (by decide)
    have r4 : Room 4 _ := hr.mono (by decide)
    have r5 : Room 5 _ := hr.mono (by decide)
    have r6 : Room 6 _ := hr.mono (by decide)
    have r7 : Room 7 _ := hr.mono (by decide)
    have hu65 := un65 hr
    refine ⟨_, pssn_cut (PS.up (ps_set (i := 1) nd rfl (.inl rfl) (pe_lst (pa_cons (pv 0) (pa_cons pe_int (pa_cons pe_int (pa_cons pe_int pa_nil)))))))
      (pssn_cons (psn_for PassesOwn.never rfl (pi_range1 (by rfl) mrng (pa_cons pe_int pa_nil)) (pg_name (i := 2) nd rfl (.inl rfl))
        (pssn_cut (PS.up (ps_set (i := 3) nd rfl (.inr rfl) (pe_call GTy r6 rfl mTy kTy bTy .nil pass0 (pa_cons (pe_call (GRw a ns) r2 rfl mRw kRw bRw .nil pass0 (pa_cons (pv 1) (pa_cons pe_int pa_nil))) pa_nil))))
        (pssn_cut (PS.up (ps_set (i := 4) nd rfl (.inl rfl) (pe_make MW GWi r4 rfl CW.mgC bWi .nil pass0 (pa_cons (pe_op op_add_str (pe_ix ix_list (pe_lst (pa_cons pe_str (pa_cons pe_str (pa_cons pe_str (pa_cons pe_str (pa_cons pe_str (pa_cons pe_str (pa_cons pe_str (pa_cons pe_str pa_nil)))))))))
            (pe_call (GTk a ns) r1 rfl mTk kTk bTk .nil pass0 (pa_cons (pv 1) (pa_cons pe_int pa_nil))) (fun _ _ => rfl)) (pe_call (GTx a ns) r2 rfl mTx kTx bTx .nil pass0 (pa_cons (pv 1) (pa_cons pe_int pa_nil)))) pa_nil))))
        (pssn_cut (psn_par (i := 5) (j := 6) rfl nd rfl rfl (by decide) rfl rfl (pan_cons (pen_call GHl r7 rfl mHl kHl pass0 (pan_cons (PE.up (pv 3)) (pan_cons (PE.up (pv 4)) pan_nil))) (pan_cons (pen_op (op_twoN hDC sf NO hs hf GRs r5 pass0) (PE.up (pv 3)) (PE.up (pv 4))) pan_nil)) (by rfl))
        (pssn_cut (PS.up (ps_if (PW.pt (pw_or (pt_cmpR (op_neD hr.units) (pv 5) (pe_revL (pe_callB cr_sortedI (by rfl) msrt (by decide +kernel) (pa_cons (pv 5) pa_nil))) (nomark _)) (pw_or1 (pt_cmpR op_ne (pe_callB (cr_sum rfl) (by rfl) msum (by decide +kernel) (pa_cons (pv 5) pa_nil)) (pe_callB call_len_str (by rfl) T.len PySem.boot_len (pa_cons (pe_prop (pv 3) CT.cl PM GM r2 bM .nil pass0 rfl) pa_nil)) (nomark _))))) pss_never pss_nil))
        (pssn_cut (PS.up (ps_if (pt_not (pt_val (pe_call GLi r3 rfl mLi kLi bLi .nil pass0 (pa_cons (pv 6) (pa_cons (pe_prop (pv 4) CW.cl PC GC r3 bC .nil pass0 rfl) (pa_cons (pv 5) pa_nil)))))) pss_never pss_nil))
        (pssn_cut (psn_set (i := 7) nd rfl (.inl rfl) (pen_call GRl r6 rfl mRl kRl pass0 (pan_cons (PE.up (pv 3)) (pan_cons (PE.up (pv 4)) pan_nil))))
        (pssn_cut (PS.up (ps_if (PW.pt (pw_or (pt_cmpR (op_neD hr.units) (pe_revL (pe_callB cr_sortedI (by rfl) msrt (by decide +kernel) (pa_cons (pv 7) pa_nil))) (pe_op op_cat (pv 5) (pe_op op_rep (pe_lst (pa_cons pe_int pa_nil)) (pe_op op_sub (pe_prop (pv 3) CT.cl PH GH r2 bH .nil pass0 rfl) (pe_callB call_len_seq (by rfl) T.len PySem.boot_len (pa_cons (pv 5) pa_nil))))) (nomark _))
            (pw_or1 (pt_cmpR op_ne (pe_callB call_len_seq (by rfl) T.len PySem.boot_len (pa_cons (pv 7) pa_nil)) (pe_prop (pv 3) CT.cl PH GH r2 bH .nil pass0 rfl) (nomark _))))) pss_never pss_nil))
        (pssn_cut (PS.up (ps_if (pt_cmpR (op_neD hr.units) (pv 7) (pe_lc (own := [("_law_line", 13)]) (g := gName 13) (tt := tYes) rfl nd (pi_tup (pe_prop (pv 6) CT.cl PR GR r2 bR .nil pass0 rfl)) (blkOk_by (N := NLw) (sc := defScope sLaw) (by decide +kernel)) (fun _ _ _ _ _ => pg_name (i := 13) nd rfl (.inl rfl)) (fun _ _ _ _ _ => pts_nil)
            (fun _ _ _ _ _ => pe_op op_sub (pe_prop (pv 3) CT.cl PW_ GW r2 bW .nil pass0 rfl) (TA.pe_bmK (K := K) rfl PySem.F.plainAttrs_str PySem.F.slot_str_count PySem.F.type_str_count mt_count (pv 13) (pa_cons pe_str pa_nil)))) (nomark _)) pss_never pss_nil))
        (pssn_cut (psn_for PassesOwn.never rfl (pi_str pe_str) (pg_name (i := 8) nd rfl (.inl rfl))
          (pssn_cut (psn_par (i := 9) (j := 10) rfl nd rfl rfl (by decide) rfl rfl (pan_cons (pen_listG GTb hr rfl mTb kTb rfl mlst (pan_cons (PE.up (pv 6)) (pan_cons (PE.up (pv 8)) (pan_cons (PE.up pe_int) pan_nil)))) (pan_cons (PE.up (pe_prop (pv 4) CW.cl PT_ GT r2 bT .nil pass0 rfl)) pan_nil)) (by rfl))
          (pssn_one (psn_for PassesOwn.never rfl (pi_range1 (by rfl) mrng (pa_cons pe_int pa_nil)) (pg_name (i := 11) nd rfl (.inl rfl))
            (pssn_cut (PS.up (ps_set (i := 10) nd rfl (.inl rfl) (pe_op op_add_str (pv 10) (pe_ix ix_str (pe_op op_repS pe_str pe_int) (pe_op op_add (pe_bm PySem.F.plainAttrs_str PySem.F.slot_str_find PySem.F.type_str_find mt_find pe_str (pa_cons (pv 8) pa_nil)) (pv 11)) (fun _ _ => rfl)))))
            (pssn_cut (psn_set (i := 12) nd rfl (.inl rfl) (pen_call GHl r7 rfl mHl kHl pass0 (pan_cons (PE.up (pv 6)) (pan_cons (PE.up (pe_make MW GWi r4 rfl CW.mgC bWi .nil pass0 (pa_cons (pe_slice sl_str (pv 10) (po_some (pe_callB (call_lenOwn hLe iLe GLe r2 pass0) (by rfl) T.len PySem.boot_len (pa_cons (pv 4) pa_nil))) po_none) pa_nil))) pan_nil))))
            (pssn_one (PS.up (ps_if (PW.pt (pw_or (pt_not (pt_val (pe_call GLi r3 rfl mLi kLi bLi .nil pass0 (pa_cons (pe_ix ix_list (pv 9) (pv 11) (fun _ _ => rfl)) (pa_cons (pe_prop (pe_make MW GWi r4 rfl CW.mgC bWi .nil pass0 (pa_cons (pv 10) pa_nil)) CW.cl PC GC r3 bC .nil pass0 rfl) (pa_cons (pv 5) pa_nil)))))) (pw_or1 (pt_cmpR (op_notInT hu65) (pv 12) (pe_tup (pa_cons pe_non (pa_cons (pv 5) pa_nil))) (by rfl))))) pss_never pss_nil)))))))))
        (pssn_cut (psn_if (PWn.pt (pwn_andE (PT.up (pt_cmpR op_eq (pe_call (GTk a ns) r1 rfl mTk kTk bTk .nil pass0 (pa_cons (pv 1) (pa_cons pe_int pa_nil))) pe_int (nomark _))) (pwn_andE1 (ptn_cmpR op_notN (pen_call GHl r7 rfl mHl kHl pass0 (pan_cons (PE.up (pv 3)) (pan_cons (PE.up (pe_make MW GWi r4 rfl CW.mgC bWi .nil pass0 (pa_cons (pe_op op_repS pe_str (pe_call (GTk a ns) r1 rfl mTk kTk bTk .nil pass0 (pa_cons (pv 1) (pa_cons pe_int pa_nil)))) pa_nil))) pan_nil))) (PE.up pe_non) (nomark _))))) (PSs.up pss_never) (PSs.up pss_nil))
        (pssn_cut (PS.up (ps_set (i := 12) nd rfl (.inl rfl) (pe_make MW GWi r4 rfl CW.mgC bWi .nil pass0 (pa_cons (pe_call (GTx a ns) r2 rfl mTx kTx bTx .nil pass0 (pa_cons (pv 1) (pa_cons pe_int pa_nil))) pa_nil))))
        (pssn_one (psn_if (ptn_not (ptn_val (pen_call (fnOk_n GLi bLi) r3 rfl mLi kLi pass0 (pan_cons (pen_op (op_twoN hDC sf NO hs hf GRs r5 pass0) (PE.up (pv 6)) (PE.up (pv 12))) (pan_cons (PE.up (pe_prop (pe_op (op_sameOwn sfC hAd iAd GAd r5 pass0) (pv 4) (pv 12)) CW.cl PC GC r3 bC .nil pass0 rfl)) (pan_cons (PE.up (pv 5)) pan_nil)))))) (PSs.up pss_never) (PSs.up pss_nil)))))))))))))))
      (pssn_one (PS.up (ps_ret pe_bl)))), ?_⟩
    refine ⟨fun σ H1 => ∃ r, σ = [some (.ref a), some (.ref r), none, none, none, none, none, none, none, none, none, none, none, none] ∧ RowAt K a ns H1 r, ?_, ?_⟩
    · refine ⟨_, rfl, (by show 4 ≤ sizeLine; decide), fun p hp => ?_⟩
      exact ⟨p, rfl, 0, 0, 0, upd_same, Int.le_refl 0, (same_new hp).seq hS⟩
    rintro σ H1 ⟨r, rfl, R1⟩
    refine ⟨(3 : Int), rfl, by decide, by decide, for_range (lo := 0) (n := (3 : Int).toNat) (fun i σ H2 => ∃ v2 v3 v4 v5 v6 v7 v8 v9 v10 v11 v12 v13, σ = [some (.ref a), some (.ref r), v2, v3, v4, v5, v6, v7, v8, v9, v10, v11, v12, v13] ∧ RowAt K a ns H2 r)
      ⟨none, none, none, none, none, none, none, none, none, none, none, none, rfl, R1⟩ ?_ fun σ H2 _ => k H2⟩
    rintro i σ H2 hi ⟨v2, v3, v4, v5, v6, v7, v8, v9, v10, v11, v12, v13, rfl, R2⟩
    generalize V.int (0 + (i : Int)) = vi
    clear R1 H1 hS
    -- a tray
    refine ⟨fun σ H3 => ∃ p h w g, σ = [some (.ref a), some (.ref r), some vi, some (.ref p), v4, v5, v6, v7, v8, v9, v10, v11, v12, v13] ∧ VG h w g ∧ TrayAt K D H3 p g ∧ RowAt K a ns H3 r, ?_, ?_⟩
    · refine ⟨_, rfl, r, 20, rfl, R2, by decide, fun H3 l h w g hV hl R3 b3 => ?_⟩
      exact ⟨l, h, w, g, rfl, hV, hl, fun H4 p s4 tp => ⟨p, h, w, g, rfl, hV, tp, R3.same s4⟩⟩
    rintro σ H3 ⟨p, h, w, g, rfl, hV, T3, R3⟩
    clear R2 H2
    -- a word with a corner
    refine ⟨fun σ H4 => ∃ q t c1 c2, σ = [some (.ref a), some (.ref r), some vi, some (.ref p), some (.ref q), v5, v6, v7, v8, v9, v10, v11, v12, v13] ∧ WordAt C H4 q t ∧ Good t ∧ t.length ≤ 10 ∧ crn t = some (c1, c2) ∧ TrayAt K D H4 p g ∧ RowAt K a ns H4 r, ?_, ?_⟩
    · refine ⟨(by show 8 ≤ sizeLine; decide), fun l hl => ?_⟩
      have s4 := same_new (o := .lst (prs.map fun z => V.str (S z))) hl
      have hl4 : upd H3 l (.lst (prs.map fun z => V.str (S z))) l = some (.lst (prs.map fun z => V.str (S z))) := upd_same
      have R4 := R3.same s4
      have lr := R3.ne hl
      refine ⟨_, rfl, r, 8, rfl, R4, by decide, by decide, fun H5 j hj R5 b5 => ?_⟩
      have hj8 : j < prs.length := by show j < 8; omega
      obtain ⟨q1, q2, q3⟩ := prs_ok _ (List.getElem_mem hj8)
      have hl5 := b5 _ _ hl4 lr
      obtain ⟨_, _, _, rr4, _⟩ := id R4
      have T5 := tray_but (T3.same s4) rr4 b5
      refine ⟨l, _, _, V.str (S prs[j]), rfl, rfl, SqL.of hl5, atI_nat (by rw [List.getElem?_map, List.getElem?_eq_getElem hj8]; rfl), ?_⟩
      refine ⟨_, rfl, r, 8, rfl, R5, by decide, fun H6 u gu lu R6 b6 => ?_⟩
      obtain ⟨_, _, _, rr5, _⟩ := id R5
      have T6 := tray_but T5 rr5 b6
      refine ⟨S prs[j], S u, rfl, rfl, by rw [S_len, S_len]; show _ ≤ 16777216; omega, ?_⟩
      rw [S_app]
      intro x dx nx ndx nex
      have gpu : Good (prs[j] ++ u) := ⟨by rw [List.length_append]; omega, fun c hc => by
        rcases List.mem_append.mp hc with z | z
        · exact q3 c z
        · exact gu.2 c z⟩
      obtain ⟨⟨c1, c2⟩, hc⟩ := q1
      obtain ⟨a', b', e1, _⟩ := hd_ext hV.rc u prs[j] c1 c2 q3 gu.2 hc
      refine ⟨x, dx, prs[j] ++ u, rfl, upd_same, gpu, fun H7 hw kp => ⟨rfl, ?_⟩⟩
      have s7 := Same.made nx ndx kp
      exact ⟨x, _, a', b', rfl, hw, gpu, by rw [List.length_append]; omega, e1, T6.same s7, R6.same s7⟩
    rintro σ H4 ⟨q, t, c1, c2, rfl, W4, gt, lt, hc, T4, R4⟩
    clear R3 T3 H3
    generalize hG : tilts h w t g = G
    have V2 : VG h w G := by rw [← hG]; exact VG.tilts t hV
    have Sq0 : Sq h w (c1 == 117) (c2 == 108) G := by rw [← hG]; exact sq_tilts gt.2 hV.rc hc
    generalize hL : posN (hd (c1 == 117) G) = L
    have hL8 : L.length ≤ 8 := by
      rw [← hL]
      exact Nat.le_trans (posN_le _) (by rw [hd_len V2.rc]; exact hV.n8)
    have hn8 := hV.n8
    have hm8 := hV.m8
    have hLh : L.length ≤ h := by
      rw [← hL]
      exact Nat.le_trans (posN_le _) (by rw [hd_len V2.rc]; exact Nat.le_refl _)
    have hLd : L.Pairwise (fun x y => y ≤ x) := by rw [← hL]; exact desc_pos Sq0.desc
    -- the lengths, the tilted tray
    refine ⟨fun σ H5 => ∃ l d, σ = [some (.ref a), some (.ref r), some vi, some (.ref p), some (.ref q), some (.ref l), some (.ref d), v7, v8, v9, v10, v11, v12, v13] ∧ C18 K C D a ns r p q l d g G t L H5, ?_, ?_⟩
    · have ehl : hlL t (lens (tilts h w t g)) = some L := by rw [hG, hl_crn hc, hL]
      refine ⟨_, rfl, _, rfl, p, q, h, w, g, t, rfl, T4, hV, W4, gt, (fun z => by rw [ehl] at z; cases z), fun ys hys H5 l s5 hln hl5 => ?_⟩
      rw [ehl] at hys
      cases hys
      obtain ⟨dp, ap, hp, _⟩ := id (T4.same s5)
      obtain ⟨dq, hq⟩ := id (W4.same s5)
      refine ⟨_, rfl, _, rfl, p, dp, _, q, dq, _, rfl, rfl, hp, hq, p, q, h, w, g, t, rfl, T4.same s5, hV, W4.same s5, fun H6 d s6 td => ?_⟩
      have s46 := s5.trans s6
      rw [hG] at td
      exact ⟨_, _, rfl, l, d, rfl, T4.same s46, W4.same s46, s6 _ _ hl5, td, R4.same s46⟩
    rintro σ H5 ⟨l, d, rfl, c5⟩
    clear R4 T4 W4 H4
    -- the lengths descend, their sum
    refine ⟨fun σ H6 => σ = [some (.ref a), some (.ref r), some vi, some (.ref p), some (.ref q), some (.ref l), some (.ref d), v7, v8, v9, v10, v11, v12, v13] ∧ C18 K C D a ns r p q l d g G t L H6, ?_, ?_⟩
    · obtain ⟨dp, ap, hp, _⟩ := id c5.tr
      refine ⟨_, rfl, _, rfl, l, intsN L, rfl, by rw [← intV_ints]; exact SqL.of c5.ln, fun ns' p' hpm hso hp' => ?_⟩
      have s6 := same_new (o := .lst (ns'.map V.int)) hp'
      refine ⟨p', _, rfl, SqL.of upd_same, fun p2 hp2 => ?_⟩
      have s7 := same_new (o := .lst (ns'.map V.int).reverse) hp2
      have s57 := s6.trans s7
      have e2 : (ns'.map V.int).reverse = intV L := by rw [← List.map_reverse, sorted_desc hLd hpm hso, ← intV_ints]
      refine ⟨.list (intD L), .list (intD L), .lst (SqL.of (s57 _ _ c5.ln)) (int_dp L), ?_, int_shaped L, int_shaped L, _, rfl, ?_⟩
      · refine .lst (SqL.of (xs := intV L) ?_) (int_dp L)
        rw [upd_same, e2]
      rw [int_same]
      refine iteF ⟨_, rfl, l, intsN L, rfl, by rw [← intV_ints]; exact SqL.of (s57 _ _ c5.ln), ?_⟩
      refine ⟨_, rfl, p, dp, _, rfl, s57 _ _ hp, p, h, w, g, rfl, c5.tr.same s57, hV, fun H8 s8 => ?_⟩
      have hm26 := mb_26 hV
      have hlen : (srt (mb g.flatten)).length = (mb g.flatten).length := (srt_perm _).length_eq
      refine ⟨S (srt (mb g.flatten)), rfl, by rw [S_len, hlen]; show _ ≤ 16777216; omega, rfl, _, rfl, ?_⟩
      have es : (intsN L).sum = ((S (srt (mb g.flatten))).length : Int) := by
        rw [ints_sum, S_len, hlen, ← hL, sum_posN]
        congr 1
        rw [(hd_perm (n := h) (m := w)).sum_nat, sum_lens, ← hG]
        exact ((like_tilts t hV.rc).pm).length_eq
      rw [es]
      rw [show (!decide (V.int ((S (srt (mb g.flatten))).length : Int) = V.int ((S (srt (mb g.flatten))).length : Int))) = false by simp]
      exact iteF ⟨rfl, c5.same (s57.trans s8)⟩
    rintro σ H6 ⟨rfl, c6⟩
    clear c5 H5
    have ecv : TA.cornerV t = V.str (S [c1, c2]) := by rw [crn_V, hc]
    -- the heap lies in the word's corner
    refine ⟨fun σ H7 => σ = [some (.ref a), some (.ref r), some vi, some (.ref p), some (.ref q), some (.ref l), some (.ref d), v7, v8, v9, v10, v11, v12, v13] ∧ C18 K C D a ns r p q l d g G t L H7, ?_, ?_⟩
    · obtain ⟨dq, hq⟩ := id c6.w1
      refine ⟨_, rfl, _, rfl, q, dq, _, rfl, hq, q, t, rfl, c6.w1, gt, fun H7 s7 => ?_⟩
      rw [ecv]
      have c7 := c6.same s7
      exact ⟨_, rfl, d, l, c1, c2, h, w, G, rfl, c7.td, V2, Sq0, by rw [hL]; exact c7.ln, fun H8 s8 => ⟨true, rfl, iteF ⟨rfl, c7.same s8⟩⟩⟩
    rintro σ H7 ⟨rfl, c7⟩
    clear c6 H6
    -- the rows' lengths
    refine ⟨fun σ H8 => ∃ l2, σ = [some (.ref a), some (.ref r), some vi, some (.ref p), some (.ref q), some (.ref l), some (.ref d), some (.ref l2), v8, v9, v10, v11, v12, v13] ∧ C18 K C D a ns r p q l d g G t L H8 ∧ H8 l2 = some (.lst (intV (lens G))), ?_, ?_⟩
    · refine ⟨_, rfl, _, rfl, p, q, h, w, g, t, rfl, c7.tr, hV, c7.w1, fun H8 l2 s8 hln hl2 => ?_⟩
      rw [hG] at hl2
      exact ⟨l2, rfl, c7.same s8, hl2⟩
    rintro σ H8 ⟨l2, rfl, c8, hl8⟩
    clear c7 H7
    have lG : (lens G).length = h := by rw [List.length_map]; exact V2.rc.1
    refine ⟨fun σ H9 => σ = [some (.ref a), some (.ref r), some vi, some (.ref p), some (.ref q), some (.ref l), some (.ref d), some (.ref l2), v8, v9, v10, v11, v12, v13] ∧ C18 K C D a ns r p q l d g G t L H9 ∧ H9 l2 = some (.lst (intV (lens G))), ?_, ?_⟩
    · obtain ⟨dp, ap, hp, _⟩ := id c8.tr
      refine ⟨_, rfl, l2, intsN (lens G), rfl, by rw [← intV_ints]; exact SqL.of hl8, fun ns' p' hpm hso hp' => ?_⟩
      have s9 := same_new (o := .lst (ns'.map V.int)) hp'
      refine ⟨p', _, rfl, SqL.of upd_same, fun p2 hp2 => ?_⟩
      have s10 := s9.trans (same_new (o := .lst (ns'.map V.int).reverse) hp2)
      have e2 : (ns'.map V.int).reverse = intV (hd (c1 == 117) G) := by
        rw [← List.map_reverse, sorted_desc (l := hd (c1 == 117) G) Sq0.desc (hpm.trans ((hd_perm (n := h) (m := w)).symm.map _)) hso, ← intV_ints]
      refine ⟨_, rfl, (by show 1 ≤ sizeLine; decide), fun z hz => ?_⟩
      have s11 := s10.trans (same_new (o := .lst [V.int 0]) hz)
      refine ⟨_, rfl, p, dp, _, rfl, s11 _ _ hp, p, h, w, g, rfl, (c8.same s11).tr, hV, ?_⟩
      refine ⟨_, rfl, l, _, rfl, .inl (SqL.of (c8.same s11).ln), _, _, rfl, rfl, z, ((h - L.length : Nat) : Int), [V.int 0], rfl, ?_, upd_same, by omega, by omega, ?_, fun z2 hz2 => ?_⟩
      · rw [List.length_map]
        exact congrArg V.int (by omega)
      · rw [Int.toNat_natCast]
        show 1 * _ ≤ 16777216
        omega
      have ez : (List.replicate ((h - L.length : Nat) : Int).toNat [V.int 0]).flatten = intV (List.replicate (h - L.length) 0) := by
        rw [Int.toNat_natCast]
        simp [intV]
      have s12 := s11.trans (same_new (o := .lst (List.replicate ((h - L.length : Nat) : Int).toNat [V.int 0]).flatten) hz2)
      refine ⟨l, z2, _, _, rfl, rfl, (c8.same s12).ln, upd_same, by rw [ez, List.length_map, List.length_map, List.length_replicate]; show _ ≤ 16777216; omega, fun z3 hz3 => ?_⟩
      have s13 := s12.trans (same_new (o := .lst (intV L ++ (List.replicate ((h - L.length : Nat) : Int).toNat [V.int 0]).flatten)) hz3)
      have e4 : intV L ++ (List.replicate ((h - L.length : Nat) : Int).toNat [V.int 0]).flatten = intV (hd (c1 == 117) G) := by
        have e5 := posN_desc Sq0.desc
        rw [hL, hd_len V2.rc] at e5
        rw [ez, ← List.map_append, e5]
      refine ⟨.list (intD (hd (c1 == 117) G)), .list (intD (hd (c1 == 117) G)), ?_, ?_, int_shaped _, int_shaped _, _, rfl, ?_⟩
      · refine .lst (SqL.of (xs := intV (hd (c1 == 117) G)) ?_) (int_dp _)
        rw [← e2]
        exact (same_new (o := .lst (intV L ++ (List.replicate ((h - L.length : Nat) : Int).toNat [V.int 0]).flatten)) hz3) _ _ ((same_new (o := .lst (List.replicate ((h - L.length : Nat) : Int).toNat [V.int 0]).flatten) hz2) _ _ ((same_new (o := .lst [V.int 0]) hz) _ _ upd_same))
      · refine .lst (SqL.of (xs := intV (hd (c1 == 117) G)) ?_) (int_dp _)
        rw [upd_same, e4]
      rw [int_same]
      refine iteF ⟨_, rfl, l2, _, rfl, .inl (SqL.of (s13 _ _ hl8)), _, rfl, p, dp, _, rfl, s13 _ _ hp, p, h, w, g, rfl, (c8.same s13).tr, hV, rfl, _, rfl, ?_⟩
      rw [List.length_map, lG, show (!decide (V.int (h : Int) = V.int (h : Int))) = false by simp]
      exact iteF ⟨rfl, c8.same s13, s13 _ _ hl8⟩
    rintro σ H9 ⟨rfl, c9, hl9⟩
    clear c8 hl8 H8
    -- the cells that are not free
    refine ⟨fun σ H10 => ∃ v13, σ = [some (.ref a), some (.ref r), some vi, some (.ref p), some (.ref q), some (.ref l), some (.ref d), some (.ref l2), v8, v9, v10, v11, v12, v13] ∧ C18 K C D a ns r p q l d g G t L H10, ?_, ?_⟩
    · obtain ⟨dd, ad, hd_, hSd⟩ := id c9.td
      refine ⟨_, rfl, _, rfl, d, dd, _, rfl, hd_, d, dd, _, _, rfl, hd_, rfl, ad, rfl, ⟨_, hSd⟩, fun E2 hE2 => lc_tup (K := K) (a := ad) (xs := rowV G) (fun i H10 => Same H9 H10 ∧ H10 E2 = some (.lst (intV ((G.take i).map fun r => (mb r).length))))
        ⟨same_new hE2, upd_same⟩ (fun i H10 _ ⟨sm, _⟩ => sm.tup hSd) ?_ ?_⟩
      · rintro i x H10 hi ⟨sm, hL10⟩
        obtain ⟨rw_, hri, rfl⟩ := at_map hi
        have hrl : rw_.length = w := V2.rc.2 _ (List.mem_of_getElem? hri)
        have hm := mb_le rw_
        have c10 := c9.same sm
        obtain ⟨dp, ap, hp, _⟩ := id c10.tr
        refine ⟨rfl, _, rfl, p, dp, _, rfl, hp, p, h, w, g, rfl, c10.tr, hV, _, rfl, rfl, S rw_, S [46], rfl, rfl, _, _, rfl, rfl, ?_⟩
        have ec : (w : Int) - Txt.count (S rw_) (S [46]) = ((mb rw_).length : Nat) := by
          have e : Txt.count (S rw_) (S [46]) = PyProof.Rows.cnt 46 rw_ := by
            have e1 := count_is (S rw_) 46
            rw [S_list] at e1
            exact e1
          rw [e, count_dots, hrl]
          omega
        simp only []
        rw [ec]
        refine ⟨_, hL10, ?_, same_put sm hE2, ?_⟩
        · rw [List.length_map, List.length_map, List.length_take]
          have := V2.rc.1
          show _ < 16777216
          omega
        · rw [upd_same, take_map_snoc hri]
          simp [intV]
      · rintro H10 ⟨sm, hL10⟩
        rw [List.length_map, List.take_length] at hL10
        refine ⟨.list (intD (lens G)), .list (intD (lens G)), .lst (SqL.of (sm _ _ hl9)) (int_dp _), .lst (SqL.of hL10) (int_dp _), int_shaped _, int_shaped _, _, rfl, ?_⟩
        rw [int_same]
        exact iteF ⟨_, rfl, c9.same sm⟩
    rintro σ H10 ⟨v13', rfl, c10⟩
    clear c9 hl9 H9
    -- what comes behind further tilts
    have corner : ∀ u : List Nat, (∀ c ∈ u, isT c = true) → ∃ a' b', crn (t ++ u) = some (a', b') ∧ posN (hd (a' == 117) (tilts h w u G)) = L ∧ Sq h w (a' == 117) (b' == 108) (tilts h w u G) := fun u hu => by
      obtain ⟨a', b', e1, e2⟩ := hd_ext hV.rc u t c1 c2 gt.2 hu hc
      have e3 := sq_tilts (n := h) (m := w) (g := g) (t := t ++ u) (fun c hc => by
        rcases List.mem_append.mp hc with z | z
        · exact gt.2 c z
        · exact hu c z) hV.rc e1
      rw [tilts_app, hG] at e2 e3
      exact ⟨a', b', e1, by rw [e2, hL], e3⟩
    have goodApp : ∀ u : List Nat, (∀ c ∈ u, isT c = true) → u.length ≤ 8 → Good (t ++ u) := fun u hu hl => ⟨by rw [List.length_append]; omega, fun c hc => by
      rcases List.mem_append.mp hc with z | z
      · exact gt.2 c z
      · exact hu c z⟩
    refine ⟨fun σ H11 => ∃ v8 v9 v10 v11 v12 v13, σ = [some (.ref a), some (.ref r), some vi, some (.ref p), some (.ref q), some (.ref l), some (.ref d), some (.ref l2), v8, v9, v10, v11, v12, v13] ∧ C18 K C D a ns r p q l d g G t L H11, ?_, ?_⟩
    · refine ⟨S [117, 114, 100, 108], rfl, for_it (walk_str (z := S [117, 114, 100, 108])) (fun i σ H11 => ∃ v8 v9 v10 v11 v12 v13, σ = [some (.ref a), some (.ref r), some vi, some (.ref p), some (.ref q), some (.ref l), some (.ref d), some (.ref l2), v8, v9, v10, v11, v12, v13] ∧ C18 K C D a ns r p q l d g G t L H11)
        ⟨_, _, _, _, _, _, rfl, c10⟩ (fun _ _ _ _ _ => True.intro) ?_ fun σ H11 z => z⟩
      rintro j x σ H11 H12 hj ⟨v8, v9, v10, v11, v12, v13, rfl, c11⟩ ⟨rfl, c, hcj, rfl⟩
      rw [S_at] at hcj
      have hcT : isT c = true := urdl_t c (List.mem_of_getElem? hcj)
      refine ⟨fun σ H12 => ∃ tl ys, σ = [some (.ref a), some (.ref r), some vi, some (.ref p), some (.ref q), some (.ref l), some (.ref d), some (.ref l2), some (sg c), some (.ref tl), some (.str (S t)), v11, v12, v13] ∧ C18 K C D a ns r p q l d g G t L H12 ∧ BehAt K D h w c G tl ys H12, ?_, ?_⟩
      · refine ⟨_, rfl, _, rfl, 8, _, ⟨d, c, h, w, G, rfl, c11.td, V2, hcT, by decide, rfl⟩, by decide, fun i H2 ys => Kept (S0of H12) H12 H2 ∧ ys.length = i ∧ ∀ k y, ys[k]? = some y → ∃ rr, y = .ref rr ∧ TrayAt K D H2 rr (tilts h w (clk c (k + 1)) G), ⟨Kept.of_same fun _ _ e => e, rfl, fun k y z => by simp at z⟩, ?_, ?_⟩
        · rintro i x H2 H3 ys hi ⟨kp, hl, hy⟩ kp2 ⟨rr, rfl, tr⟩
          refine ⟨Kept.trans kp kp2, by rw [List.length_append, hl]; rfl, fun k y hk => ?_⟩
          by_cases q : k < ys.length
          · rw [List.getElem?_append_left q] at hk
            obtain ⟨rr2, e, tr2⟩ := hy k y hk
            exact ⟨rr2, e, tray_kept tr2 kp2⟩
          · rw [List.getElem?_append_right (by omega)] at hk
            have hk0 : k - ys.length = 0 := by
              have := (List.getElem?_eq_some_iff.mp hk).1
              simp at this
              omega
            rw [hk0] at hk
            cases hk
            have : k = i := by omega
            subst this
            exact ⟨rr, rfl, tr⟩
        · rintro H2 H3 ys St ⟨kp, hl, hy⟩ _ kp2 hSt
          have sm : Same H12 H3 := fun b o e => kp2 b o (.inl (by unfold S0of; rw [e]; exact fun z => nomatch z)) (kp b o (.inl (by unfold S0of; rw [e]; exact fun z => nomatch z)) e)
          have s4 := same_new (o := .lst ys) hSt
          have c4 := c11.same (sm.trans s4)
          obtain ⟨dq, hq⟩ := id c4.w1
          refine ⟨_, rfl, q, dq, _, rfl, hq, q, dq, _, _, rfl, hq, rfl, _, _, rfl, St, ys, rfl, c4, upd_same, hl, fun k y hk => ?_⟩
          obtain ⟨rr, e, tr⟩ := hy k y hk
          exact ⟨rr, e, (tray_kept tr kp2).same s4⟩
      rintro σ H13 ⟨tl, ys, rfl, c13, B13⟩
      refine ⟨8, rfl, by decide, by decide, for_range (lo := 0) (n := 8) (fun k σ H14 => ∃ v11 v12, σ = [some (.ref a), some (.ref r), some vi, some (.ref p), some (.ref q), some (.ref l), some (.ref d), some (.ref l2), some (sg c), some (.ref tl), some (.str (S (t ++ clk c k))), v11, v12, v13] ∧ C18 K C D a ns r p q l d g G t L H14 ∧ BehAt K D h w c G tl ys H14)
        ⟨_, _, by rw [show clk c 0 = [] from rfl, List.append_nil], c13, B13⟩ ?_ fun σ H14 ⟨v11, v12, e, z, _⟩ => ⟨_, _, _, _, _, _, e, z⟩⟩
      rintro k_ σ H14 hk ⟨v11', v12', rfl, c14, B14⟩
      have tk : ∀ z ∈ clk c (k_ + 1), isT z = true := fun z hz => by
        obtain ⟨i, _, rfl⟩ := List.mem_map.mp hz
        exact cwN_t hcT i
      have lk_ : ∀ k, (clk c k).length = k := fun k => by
        show ((List.range k).map _).length = k
        rw [List.length_map, List.length_range]
      -- the text
      refine ⟨fun σ H15 => σ = [some (.ref a), some (.ref r), some vi, some (.ref p), some (.ref q), some (.ref l), some (.ref d), some (.ref l2), some (sg c), some (.ref tl), some (.str (S (t ++ clk c (k_ + 1)))), some (.int (0 + (k_ : Int))), v12', v13] ∧ C18 K C D a ns r p q l d g G t L H15 ∧ BehAt K D h w c G tl ys H15, ?_, ?_⟩
      · obtain ⟨e1, e2⟩ := urdl_at hcj hk
        refine ⟨_, rfl, [117, 114, 100, 108], 4, rfl, rfl, by decide, by decide, rfl, _, rfl, S [117, 114, 100, 108], S [c], rfl, rfl, _, rfl, _, _, rfl, rfl, S (rep 4 [117, 114, 100, 108]), _, cwN c k_, rfl, rfl, by decide, ?_, S (t ++ clk c k_), S [cwN c k_], rfl, rfl, ?_, ?_⟩
        · rw [e1, S_list, show (j : Int) + (0 + (k_ : Int)) = ((j + k_ : Nat) : Int) by omega]
          exact atI_nat e2
        · rw [S_len, S_len, List.length_append, lk_]
          show _ + 1 ≤ 16777216
          omega
        · rw [S_app, List.append_assoc, ← clk_snoc]
          exact ⟨rfl, c14, B14⟩
      rintro σ H15 ⟨rfl, c15, B15⟩
      have gk : Good (clk c (k_ + 1)) := ⟨by rw [lk_]; omega, tk⟩
      have gtk := goodApp _ tk (by rw [lk_]; omega)
      obtain ⟨a', b', ea, eb, Sk⟩ := corner _ tk
      have Vk : VG h w (tilts h w (clk c (k_ + 1)) G) := VG.tilts _ V2
      -- more lengths: none, or the same
      refine ⟨fun σ H16 => ∃ m, σ = [some (.ref a), some (.ref r), some vi, some (.ref p), some (.ref q), some (.ref l), some (.ref d), some (.ref l2), some (sg c), some (.ref tl), some (.str (S (t ++ clk c (k_ + 1)))), some (.int (0 + (k_ : Int))), some m, v13] ∧ C18 K C D a ns r p q l d g G t L H16 ∧ BehAt K D h w c G tl ys H16 ∧ (m = .non ∨ ∃ l3, m = .ref l3 ∧ H16 l3 = some (.lst (intV L))), ?_, ?_⟩
      · obtain ⟨dq, hq⟩ := id c15.w1
        refine ⟨_, rfl, _, rfl, _, rfl, q, dq, _, rfl, hq, q, t, rfl, c15.w1, gt, ?_⟩
        refine ⟨t.length, rfl, by omega, _, rfl, S (t ++ clk c (k_ + 1)), rfl, by rw [S_len]; have := gtk.1; show _ ≤ 16777216; omega, ?_⟩
        rw [cutS_hi (by rw [List.length_append]; omega), List.drop_left]
        intro x dx nx ndx nex
        refine ⟨x, dx, clk c (k_ + 1), rfl, upd_same, gk, fun H16 hw kp => ⟨rfl, ?_⟩⟩
        have s16 := Same.made nx ndx kp
        refine ⟨d, x, h, w, G, clk c (k_ + 1), rfl, (c15.same s16).td, V2, hw, gk, fun z H17 s17 => ⟨_, rfl, c15.same (s16.trans s17), B15.same (s16.trans s17), .inl rfl⟩, fun ys' hys H17 l3 s17 hn3 hl3 => ?_⟩
        refine ⟨_, rfl, c15.same (s16.trans s17), B15.same (s16.trans s17), .inr ⟨l3, rfl, ?_⟩⟩
        rw [hl3]
        have : ys' = L := by
          cases e : crn (clk c (k_ + 1)) with
          | none =>
            unfold hlL at hys
            rw [e] at hys
            cases hys
          | some ab =>
            obtain ⟨a2, b2⟩ := ab
            have e3 := crn_app (t := t) e
            rw [ea] at e3
            cases e3
            rw [hl_crn e, eb] at hys
            cases hys
            rfl
        rw [this]
      rintro σ H16 ⟨m, rfl, c16, B16, hm⟩
      have ecv2 : TA.cornerV (t ++ clk c (k_ + 1)) = V.str (S [a', b']) := by rw [crn_V, ea]
      have hky : k_ < ys.length := by rw [B16.n]; exact hk
      obtain ⟨rr, er, tr⟩ := B16.at_ k_ _ (List.getElem?_eq_getElem hky)
      refine ⟨_, rfl, _, rfl, tl, ys, _, V.ref rr, rfl, rfl, SqL.of B16.ls, ?_, ?_⟩
      · rw [show (0 : Int) + (k_ : Int) = ((k_ : Nat) : Int) by omega]
        exact atI_nat (by rw [List.getElem?_eq_getElem hky, er])
      refine ⟨_, rfl, ?_⟩
      intro x dx nx ndx nex
      refine ⟨x, dx, t ++ clk c (k_ + 1), rfl, upd_same, gtk, fun H17 hw kp => ⟨rfl, ?_⟩⟩
      have s17 := Same.made nx ndx kp
      obtain ⟨dw, hw1⟩ := id hw
      refine ⟨x, dw, _, rfl, hw1, x, _, rfl, hw, gtk, fun H18 s18 => ?_⟩
      rw [ecv2]
      have s1618 := s17.trans s18
      refine ⟨_, rfl, rr, l, a', b', h, w, _, rfl, tr.same s1618, Vk, Sk, by rw [eb]; exact (c16.same s1618).ln, fun H19 s19 => ⟨true, rfl, iteF ?_⟩⟩
      have s1619 := s1618.trans s19
      refine ⟨_, rfl, _, rfl, by show 2 ≤ sizeLine; decide, fun tt htt => ?_⟩
      have s20 := s1619.trans (same_new (o := .tup [V.non, V.ref l]) htt)
      have hdp : Dp K (upd H19 tt (.tup [V.non, V.ref l])) (.ref tt) (.tuple [.none, .list (intD L)]) := .tup (SqT.of upd_same) (.cons .non (.cons (.lst (SqL.of (c16.same s20).ln) (int_dp L)) .nil))
      have shp : SeqAt.shaped (.tuple [.none, .list (intD L)]) = true := by
        show (PyData.canLay0 .none && (PyData.canLay0 (.list (intD L)) && true) && decide (max (PyData.depth .none) (max (PyData.depth (.list (intD L))) 0) + 1 ≤ 64)) = true
        rw [show PyData.canLay0 (.list (intD L)) = true from int_lay L, show PyData.depth (.list (intD L)) = 1 from by
          show PyData.depthAll (intD L) + 1 = 1
          rw [int_depth]]
        rfl
      rcases hm with rfl | ⟨l3, rfl, hl3⟩
      · refine ⟨.none, _, .non, hdp, rfl, shp, _, rfl, ?_⟩
        rw [show (!([PyData.none, .list (intD L)].any fun z => PyData.eqv z .none)) = false from rfl]
        exact iteF ⟨_, _, rfl, c16.same s20, B16.same s20⟩
      · refine ⟨.list (intD L), _, .lst (SqL.of (s20 _ _ hl3)) (int_dp L), hdp, int_shaped L, shp, _, rfl, ?_⟩
        rw [show (!([PyData.none, .list (intD L)].any fun z => PyData.eqv z (.list (intD L)))) = false by simp [int_same]]
        exact iteF ⟨_, _, rfl, c16.same s20, B16.same s20⟩
    rintro σ H11 ⟨v8', v9', v10', v11', v12', v13'', rfl, c11⟩
    clear c10 H10
    -- a word along one axis alone
    refine ⟨fun σ H12 => σ = [some (.ref a), some (.ref r), some vi, some (.ref p), some (.ref q), some (.ref l), some (.ref d), some (.ref l2), v8', v9', v10', v11', v12', v13''] ∧ C18 K C D a ns r p q l d g G t L H12, ?_, ?_⟩
    · refine ⟨_, rfl, r, 2, rfl, c11.rw, by decide, by decide, fun H12 j hj R12 b12 => ⟨rfl, _, rfl, ?_⟩⟩
      have c12 := c11.but b12 R12
      by_cases hj0 : j = 0
      · subst hj0
        rw [show decide (V.int ((0 : Nat) : Int) = V.int 0) = true from rfl]
        refine iteT ?_
        refine ⟨_, rfl, _, rfl, r, 3, rfl, c12.rw, by decide, by decide, fun H13 j2 hj2 R13 b13 => ?_⟩
        have c13 := c12.but b13 R13
        have hj3 : j2 < 3 := by omega
        obtain ⟨gr, er⟩ := ls_ok j2 hj3
        refine ⟨[108], j2, rfl, rfl, by decide, by omega, ?_⟩
        intro x dx nx ndx nex
        refine ⟨x, dx, rep j2 [108], rfl, upd_same, gr, fun H14 hw kp => ⟨rfl, ?_⟩⟩
        have s14 := Same.made nx ndx kp
        have e0 : hlL (rep j2 [108]) (lens (tilts h w (rep j2 [108]) g)) = none := by
          unfold hlL
          rw [er]
        refine ⟨p, x, h, w, g, rep j2 [108], rfl, (c13.same s14).tr, hV, hw, gr, fun _ H15 s15 => ⟨rfl, _, rfl, iteF ⟨rfl, c13.same (s14.trans s15)⟩⟩, fun ys z => ?_⟩
        rw [e0] at z
        cases z
      · have : decide (V.int (j : Int) = V.int 0) = false := decide_eq_false fun z => hj0 (by have := V.int.inj z; omega)
        rw [this]
        exact iteF (iteF ⟨rfl, c12⟩)
    rintro σ H12 ⟨rfl, c12⟩
    clear c11 H11
    -- more tilts
    refine ⟨fun σ H13 => ∃ m u, σ = [some (.ref a), some (.ref r), some vi, some (.ref p), some (.ref q), some (.ref l), some (.ref d), some (.ref l2), v8', v9', v10', v11', some (.ref m), v13''] ∧ C18 K C D a ns r p q l d g G t L H13 ∧ WordAt C H13 m u ∧ Good u ∧ u.length ≤ 8, ?_, ?_⟩
    · refine ⟨_, rfl, r, 8, rfl, c12.rw, by decide, fun H13 u gu lu R13 b13 => ?_⟩
      have c13 := c12.but b13 R13
      intro x dx nx ndx nex
      refine ⟨x, dx, u, rfl, upd_same, gu, fun H14 hw kp => ⟨rfl, x, u, rfl, c13.same (Same.made nx ndx kp), hw, gu, lu⟩⟩
    rintro σ H13 ⟨m, u, rfl, c13, wm, gu, lu⟩
    clear c12 H12
    obtain ⟨dd, ad, hd_, hSd⟩ := id c13.td
    obtain ⟨dm, hm⟩ := id wm
    obtain ⟨a', b', ea, eb, Sk⟩ := corner u gu.2
    have gtu := goodApp u gu.2 lu
    refine ⟨_, rfl, _, rfl, d, dd, _, m, dm, _, rfl, rfl, hd_, hm, d, m, h, w, G, u, rfl, c13.td, V2, wm, fun H14 e s14 te => ?_⟩
    have c14 := c13.same s14
    obtain ⟨dq, hq⟩ := id c14.w1
    refine ⟨_, rfl, _, rfl, q, dq, _, m, dm, _, rfl, rfl, hq, s14 _ _ hm, q, m, t, u, rfl, c14.w1, wm.same s14, gtu, fun H15 x s15 wx => ?_⟩
    obtain ⟨dx, hx⟩ := id wx
    refine ⟨x, dx, _, rfl, hx, x, _, rfl, wx, gtu, fun H16 s16 => ?_⟩
    rw [show TA.cornerV (t ++ u) = V.str (S [a', b']) by rw [crn_V, ea]]
    have s1416 := s15.trans s16
    refine ⟨_, rfl, e, l, a', b', h, w, _, rfl, te.same s1416, VG.tilts _ V2, Sk, by rw [eb]; exact (c14.same s1416).ln, fun H17 s17 => ⟨true, rfl, iteF ?_⟩⟩
    exact ⟨_, _, _, _, _, _, _, _, _, _, _, _, rfl, (c14.same (s1416.trans s17)).rw⟩
end
end TR
end
section
set_option Elab.async false
set_option maxRecDepth 100000
set_option linter.all false
namespace TR
open PySem PySem.Spec PyProof.Rows L2 LamX TM TX TK TB TP TH TU TW TG
set_option maxHeartbeats 4000000
theorem all_mk {P : Program} {w : World} {K : PySem.W.Frag} {h : Heap} {mg : Str → Option Value} {fa : Addr} {C D fIt fFw fWi fWt qWt fTi fTo qTo fRs fFc fIr fTd fSl fTr qTr fMb qMb fWd qWd fHt qHt fNu fCn fLe fAd fCr qCr fLa fRl fHl fTb fTk fRw fTx fTy fLi fLw aO : Addr} {tAR tAC t0 tLE tMS tMX tMC tOu tOr tOd tOl : Tok} {zAR zAC zEM zLE zOu zOr zOd zOl : Str} {iMS iMX iMC : Int}
    {odIt anIt : Option Addr} {slIt : Array (Option Value)} {ocIt kVIt dcIt pmIt cdIt ctIt : Value} {odFw anFw : Option Addr} {slFw : Array (Option Value)} {ocFw kVFw dcFw pmFw cdFw ctFw : Value} {odWi anWi : Option Addr} {slWi : Array (Option Value)} {ocWi kVWi dcWi pmWi cdWi ctWi : Value} {rWt : List Value} {odWt anWt : Option Addr} {slWt : Array (Option Value)} {ocWt kVWt dcWt pmWt cdWt ctWt : Value} {odTi anTi : Option Addr} {slTi : Array (Option Value)} {ocTi kVTi dcTi pmTi cdTi ctTi : Value} {rTo : List Value} {odTo anTo : Option Addr} {slTo : Array (Option Value)} {ocTo kVTo dcTo pmTo cdTo ctTo : Value} {odRs anRs : Option Addr} {slRs : Array (Option Value)} {ocRs kVRs dcRs pmRs cdRs ctRs : Value} {odFc anFc : Option Addr} {slFc : Array (Option Value)} {ocFc kVFc dcFc pmFc cdFc ctFc : Value} {odIr anIr : Option Addr} {slIr : Array (Option Value)} {ocIr kVIr dcIr pmIr cdIr ctIr : Value} {odTd anTd : Option Addr} {slTd : Array (Option Value)} {ocTd kVTd dcTd pmTd cdTd ctTd : Value} {odSl anSl : Option Addr} {slSl : Array (Option Value)} {ocSl kVSl dcSl pmSl cdSl ctSl : Value} {rTr : List Value} {odTr anTr : Option Addr} {slTr : Array (Option Value)} {ocTr kVTr dcTr pmTr cdTr ctTr : Value} {cdC : ClassData} {rMb : List Value} {odMb anMb : Option Addr} {slMb : Array (Option Value)} {ocMb kVMb dcMb pmMb cdMb ctMb : Value} {rWd : List Value} {odWd anWd : Option Addr} {slWd : Array (Option Value)} {ocWd kVWd dcWd pmWd cdWd ctWd : Value} {rHt : List Value} {odHt anHt : Option Addr} {slHt : Array (Option Value)} {ocHt kVHt dcHt pmHt cdHt ctHt : Value} {odNu anNu : Option Addr} {slNu : Array (Option Value)} {ocNu kVNu dcNu pmNu cdNu ctNu : Value} {odCn anCn : Option Addr} {slCn : Array (Option Value)} {ocCn kVCn dcCn pmCn cdCn ctCn : Value} {odLe anLe : Option Addr} {slLe : Array (Option Value)} {ocLe kVLe dcLe pmLe cdLe ctLe : Value} {odAd anAd : Option Addr} {slAd : Array (Option Value)} {ocAd kVAd dcAd pmAd cdAd ctAd : Value} {rCr : List Value} {odCr anCr : Option Addr} {slCr : Array (Option Value)} {ocCr kVCr dcCr pmCr cdCr ctCr : Value} {odLa anLa : Option Addr} {slLa : Array (Option Value)} {ocLa kVLa dcLa pmLa cdLa ctLa : Value} {odRl anRl : Option Addr} {slRl : Array (Option Value)} {ocRl kVRl dcRl pmRl cdRl ctRl : Value} {odHl anHl : Option Addr} {slHl : Array (Option Value)} {ocHl kVHl dcHl pmHl cdHl ctHl : Value} {odTb anTb : Option Addr} {slTb : Array (Option Value)} {ocTb kVTb dcTb pmTb cdTb ctTb : Value} {odTk anTk : Option Addr} {slTk : Array (Option Value)} {ocTk kVTk dcTk pmTk cdTk ctTk : Value} {odRw anRw : Option Addr} {slRw : Array (Option Value)} {ocRw kVRw dcRw pmRw cdRw ctRw : Value} {odTx anTx : Option Addr} {slTx : Array (Option Value)} {ocTx kVTx dcTx pmTx cdTx ctTx : Value} {odTy anTy : Option Addr} {slTy : Array (Option Value)} {ocTy kVTy dcTy pmTy cdTy ctTy : Value} {odLi anLi : Option Addr} {slLi : Array (Option Value)} {ocLi kVLi dcLi pmLi cdLi ctLi : Value} {odLw anLw : Option Addr} {slLw : Array (Option Value)} {ocLw kVLw dcLw pmLw cdLw ctLw : Value} {esO : Array DictEntry} {nO : Nat}
    (X : K.In h) (G : h.Ns mainGlobals mg) (hfa : mg "law" = some (.ref fa))
    (aC : PySem.W.nsIn K mainGlobals "Word" = some (some (.ref C)))
    (pgC : PySem.W.plainGet K C Str.empty = true)
    (hdC : PySem.W.hasDictIn K C = true)
    (poC : PySem.W.plainOver K C = true)
    (saC : PySem.W.findIn K (.ref C) "__setattr__" = some (some (.builtin "object.__setattr__")))
    (mkC : PySem.W.makesIn K C = true)
    (kcC : PySem.W.keepIn K (.ref C) = true)
    (rdC : PySem.W.readsIn K C (.type "type") = true)
    (gaC : PySem.W.specialIn K (.ref C) "__getattribute__" = some (some (.builtin "type.__getattribute__")))
    (aD : PySem.W.nsIn K mainGlobals "Tray" = some (some (.ref D)))
    (pgD : PySem.W.plainGet K D Str.empty = true)
    (hdD : PySem.W.hasDictIn K D = true)
    (poD : PySem.W.plainOver K D = true)
    (saD : PySem.W.findIn K (.ref D) "__setattr__" = some (some (.builtin "object.__setattr__")))
    (mkD : PySem.W.makesIn K D = true)
    (kcD : PySem.W.keepIn K (.ref D) = true)
    (rdD : PySem.W.readsIn K D (.type "type") = true)
    (gaD : PySem.W.specialIn K (.ref D) "__getattribute__" = some (some (.builtin "type.__getattribute__")))
    (cAR : PySem.W.nsIn K mainGlobals "ALONG_ROWS" = some (some (.str zAR tAR)))
    (cAC : PySem.W.nsIn K mainGlobals "ALONG_COLUMNS" = some (some (.str zAC tAC)))
    (cEM : PySem.W.nsIn K mainGlobals "EMPTY" = some (some (.str zEM t0)))
    (cLE : PySem.W.nsIn K mainGlobals "LETTERS" = some (some (.str zLE tLE)))
    (cMS : PySem.W.nsIn K mainGlobals "MAX_SIDE" = some (some (.int iMS tMS)))
    (nT : PySem.W.findIn K (.ref C) "_text" = some none)
    (nR : PySem.W.findIn K (.ref D) "_rows" = some none)
    (ih : PySem.W.findIn K (.ref C) "__class__" = some (some (.builtin "object.__class__")))
    (in_ : PySem.W.specialIn K (.builtin "object.__class__") "__get__" = some (some (.builtin "getset_descriptor.__get__")))
    (itk : PySem.W.takesIn K (.builtin "object.__class__") = some true)
    (im : PySem.W.mroIn K C (.type "object") = some true)
    (ihD : PySem.W.findIn K (.ref D) "__class__" = some (some (.builtin "object.__class__")))
    (imD : PySem.W.mroIn K D (.type "object") = some true)
    (mx : PySem.W.findCls K (.ref C) (.type "type") "MAX_TILTS" = some (.val (.int iMX tMX)))
    (b_len : PySem.W.nsIn K mainGlobals "len" = some (none))
    (b_isinstance : PySem.W.nsIn K mainGlobals "isinstance" = some (none))
    (b_str : PySem.W.nsIn K mainGlobals "str" = some (none))
    (b_enumerate : PySem.W.nsIn K mainGlobals "enumerate" = some (none))
    (b_set : PySem.W.nsIn K mainGlobals "set" = some (none))
    (b_zip : PySem.W.nsIn K mainGlobals "zip" = some (none))
    (b_tuple : PySem.W.nsIn K mainGlobals "tuple" = some (none))
    (b_int : PySem.W.nsIn K mainGlobals "int" = some (none))
    (b_range : PySem.W.nsIn K mainGlobals "range" = some (none))
    (b_min : PySem.W.nsIn K mainGlobals "min" = some (none))
    (b_list : PySem.W.nsIn K mainGlobals "list" = some (none))
    (b_bool : PySem.W.nsIn K mainGlobals "bool" = some (none))
    (b_sorted : PySem.W.nsIn K mainGlobals "sorted" = some (none))
    (b_sum : PySem.W.nsIn K mainGlobals "sum" = some (none))
    (aIt : PySem.W.nsIn K mainGlobals "is_tilt" = some (some (.ref fIt)))
    (lIt : K.lookup fIt = some ⟨ocIt, odIt, .func (PySem.W.fnOf "is_tilt" "is_tilt" (defArgs sIsTilt) (defBody sIsTilt) (defScope sIsTilt) .none kVIt dcIt pmIt anIt cdIt ctIt), slIt⟩)
    (cIt : PySem.W.codeIn K cdIt "is_tilt" = true)
    (kIt : PySem.W.keepIn K (.ref fIt) = true)
    (aFw : PySem.W.nsIn K mainGlobals "_first_wrong_index" = some (some (.ref fFw)))
    (lFw : K.lookup fFw = some ⟨ocFw, odFw, .func (PySem.W.fnOf "_first_wrong_index" "_first_wrong_index" (defArgs sFirstWrongIndex) (defBody sFirstWrongIndex) (defScope sFirstWrongIndex) .none kVFw dcFw pmFw anFw cdFw ctFw), slFw⟩)
    (cFw : PySem.W.codeIn K cdFw "_first_wrong_index" = true)
    (kFw : PySem.W.keepIn K (.ref fFw) = true)
    (aWi : PySem.W.findIn K (.ref C) "__init__" = some (some (.ref fWi)))
    (iWi : PySem.W.isFn K (.ref fWi) = true)
    (lWi : K.lookup fWi = some ⟨ocWi, odWi, .func (PySem.W.fnOf "__init__" "Word.__init__" (defArgs sWordInit) (defBody sWordInit) (defScope sWordInit) .none kVWi dcWi pmWi anWi cdWi ctWi), slWi⟩)
    (cWi : PySem.W.codeIn K cdWi "Word.__init__" = true)
    (kWi : PySem.W.keepIn K (.ref fWi) = true)
    (pWt : PySem.W.findIn K (.ref C) "text" = some (some (.ref qWt)))
    (pgtWt : PySem.W.specialIn K (.ref qWt) "__get__" = some (some (.builtin "property.__get__")))
    (ptkWt : PySem.W.takesIn K (.ref qWt) = some true)
    (aWt : PySem.W.recIn K qWt "property" = some (.ref fWt :: rWt))
    (lWt : K.lookup fWt = some ⟨ocWt, odWt, .func (PySem.W.fnOf "text" "Word.text" (defArgs sWordText) (defBody sWordText) (defScope sWordText) .none kVWt dcWt pmWt anWt cdWt ctWt), slWt⟩)
    (cWt : PySem.W.codeIn K cdWt "Word.text" = true)
    (kWt : PySem.W.keepIn K (.ref fWt) = true)
    (aTi : PySem.W.findIn K (.ref D) "__init__" = some (some (.ref fTi)))
    (iTi : PySem.W.isFn K (.ref fTi) = true)
    (lTi : K.lookup fTi = some ⟨ocTi, odTi, .func (PySem.W.fnOf "__init__" "Tray.__init__" (defArgs sTrayInit) (defBody sTrayInit) (defScope sTrayInit) .none kVTi dcTi pmTi anTi cdTi ctTi), slTi⟩)
    (cTi : PySem.W.codeIn K cdTi "Tray.__init__" = true)
    (kTi : PySem.W.keepIn K (.ref fTi) = true)
    (pTo : PySem.W.findCls K (.ref D) (.type "type") "of_text" = some (.get (.builtin "classmethod.__get__") (.ref qTo) .none (.ref D)))
    (aTo : PySem.W.recIn K qTo "classmethod" = some (.ref fTo :: rTo))
    (fiTo : PySem.W.fnIn K fTo = true)
    (lTo : K.lookup fTo = some ⟨ocTo, odTo, .func (PySem.W.fnOf "of_text" "Tray.of_text" (defArgs sTrayOfText) (defBody sTrayOfText) (defScope sTrayOfText) .none kVTo dcTo pmTo anTo cdTo ctTo), slTo⟩)
    (cTo : PySem.W.codeIn K cdTo "Tray.of_text" = true)
    (kTo : PySem.W.keepIn K (.ref fTo) = true)
    (aRs : PySem.W.findIn K (.ref D) "__rshift__" = some (some (.ref fRs)))
    (iRs : PySem.W.isFn K (.ref fRs) = true)
    (lRs : K.lookup fRs = some ⟨ocRs, odRs, .func (PySem.W.fnOf "__rshift__" "Tray.__rshift__" (defArgs sTrayRshift) (defBody sTrayRshift) (defScope sTrayRshift) .none kVRs dcRs pmRs anRs cdRs ctRs), slRs⟩)
    (cRs : PySem.W.codeIn K cdRs "Tray.__rshift__" = true)
    (kRs : PySem.W.keepIn K (.ref fRs) = true)
    (aFc : PySem.W.nsIn K mainGlobals "_first_wrong_cell" = some (some (.ref fFc)))
    (lFc : K.lookup fFc = some ⟨ocFc, odFc, .func (PySem.W.fnOf "_first_wrong_cell" "_first_wrong_cell" (defArgs sFirstWrongCell) (defBody sFirstWrongCell) (defScope sFirstWrongCell) .none kVFc dcFc pmFc anFc cdFc ctFc), slFc⟩)
    (cFc : PySem.W.codeIn K cdFc "_first_wrong_cell" = true)
    (kFc : PySem.W.keepIn K (.ref fFc) = true)
    (aIr : PySem.W.nsIn K mainGlobals "_is_row" = some (some (.ref fIr)))
    (lIr : K.lookup fIr = some ⟨ocIr, odIr, .func (PySem.W.fnOf "_is_row" "_is_row" (defArgs sIsRow) (defBody sIsRow) (defScope sIsRow) .none kVIr dcIr pmIr anIr cdIr ctIr), slIr⟩)
    (cIr : PySem.W.codeIn K cdIr "_is_row" = true)
    (kIr : PySem.W.keepIn K (.ref fIr) = true)
    (aTd : PySem.W.nsIn K mainGlobals "_tilted" = some (some (.ref fTd)))
    (lTd : K.lookup fTd = some ⟨ocTd, odTd, .func (PySem.W.fnOf "_tilted" "_tilted" (defArgs sTilted) (defBody sTilted) (defScope sTilted) .none kVTd dcTd pmTd anTd cdTd ctTd), slTd⟩)
    (cTd : PySem.W.codeIn K cdTd "_tilted" = true)
    (kTd : PySem.W.keepIn K (.ref fTd) = true)
    (aSl : PySem.W.nsIn K mainGlobals "_slid" = some (some (.ref fSl)))
    (lSl : K.lookup fSl = some ⟨ocSl, odSl, .func (PySem.W.fnOf "_slid" "_slid" (defArgs sSlid) (defBody sSlid) (defScope sSlid) .none kVSl dcSl pmSl anSl cdSl ctSl), slSl⟩)
    (cSl : PySem.W.codeIn K cdSl "_slid" = true)
    (kSl : PySem.W.keepIn K (.ref fSl) = true)
    (pTr : PySem.W.findIn K (.ref D) "rows" = some (some (.ref qTr)))
    (pgtTr : PySem.W.specialIn K (.ref qTr) "__get__" = some (some (.builtin "property.__get__")))
    (ptkTr : PySem.W.takesIn K (.ref qTr) = some true)
    (aTr : PySem.W.recIn K qTr "property" = some (.ref fTr :: rTr))
    (lTr : K.lookup fTr = some ⟨ocTr, odTr, .func (PySem.W.fnOf "rows" "Tray.rows" (defArgs sTrayRows) (defBody sTrayRows) (defScope sTrayRows) .none kVTr dcTr pmTr anTr cdTr ctTr), slTr⟩)
    (cTr : PySem.W.codeIn K cdTr "Tray.rows" = true)
    (kTr : PySem.W.keepIn K (.ref fTr) = true)
    (sf : PySem.W.selfFirst K D = true)
    (nc : PySem.W.clsIn K C = some cdC)
    (nm : cdC.mro = [.ref C, .type "object"])
    (n1 : PySem.W.findIn K (.ref C) "__rshift__" = some none)
    (n2 : PySem.W.findIn K (.ref C) "__rrshift__" = some none)
    (n3 : PySem.W.findIn K (.type "object") "__rshift__" = some none)
    (n4 : PySem.W.findIn K (.type "object") "__rrshift__" = some none)
    (pMb : PySem.W.findIn K (.ref D) "marbles" = some (some (.ref qMb)))
    (pgtMb : PySem.W.specialIn K (.ref qMb) "__get__" = some (some (.builtin "property.__get__")))
    (ptkMb : PySem.W.takesIn K (.ref qMb) = some true)
    (aMb : PySem.W.recIn K qMb "property" = some (.ref fMb :: rMb))
    (lMb : K.lookup fMb = some ⟨ocMb, odMb, .func (PySem.W.fnOf "marbles" "Tray.marbles" (defArgs sTrayMarbles) (defBody sTrayMarbles) (defScope sTrayMarbles) .none kVMb dcMb pmMb anMb cdMb ctMb), slMb⟩)
    (cMb : PySem.W.codeIn K cdMb "Tray.marbles" = true)
    (kMb : PySem.W.keepIn K (.ref fMb) = true)
    (pWd : PySem.W.findIn K (.ref D) "width" = some (some (.ref qWd)))
    (pgtWd : PySem.W.specialIn K (.ref qWd) "__get__" = some (some (.builtin "property.__get__")))
    (ptkWd : PySem.W.takesIn K (.ref qWd) = some true)
    (aWd : PySem.W.recIn K qWd "property" = some (.ref fWd :: rWd))
    (lWd : K.lookup fWd = some ⟨ocWd, odWd, .func (PySem.W.fnOf "width" "Tray.width" (defArgs sTrayWidth) (defBody sTrayWidth) (defScope sTrayWidth) .none kVWd dcWd pmWd anWd cdWd ctWd), slWd⟩)
    (cWd : PySem.W.codeIn K cdWd "Tray.width" = true)
    (kWd : PySem.W.keepIn K (.ref fWd) = true)
    (pHt : PySem.W.findIn K (.ref D) "height" = some (some (.ref qHt)))
    (pgtHt : PySem.W.specialIn K (.ref qHt) "__get__" = some (some (.builtin "property.__get__")))
    (ptkHt : PySem.W.takesIn K (.ref qHt) = some true)
    (aHt : PySem.W.recIn K qHt "property" = some (.ref fHt :: rHt))
    (lHt : K.lookup fHt = some ⟨ocHt, odHt, .func (PySem.W.fnOf "height" "Tray.height" (defArgs sTrayHeight) (defBody sTrayHeight) (defScope sTrayHeight) .none kVHt dcHt pmHt anHt cdHt ctHt), slHt⟩)
    (cHt : PySem.W.codeIn K cdHt "Tray.height" = true)
    (kHt : PySem.W.keepIn K (.ref fHt) = true)
    (aNu : PySem.W.nsIn K mainGlobals "is_number" = some (some (.ref fNu)))
    (lNu : K.lookup fNu = some ⟨ocNu, odNu, .func (PySem.W.fnOf "is_number" "is_number" (defArgs sIsNumber) (defBody sIsNumber) (defScope sIsNumber) .none kVNu dcNu pmNu anNu cdNu ctNu), slNu⟩)
    (cNu : PySem.W.codeIn K cdNu "is_number" = true)
    (kNu : PySem.W.keepIn K (.ref fNu) = true)
    (aCn : PySem.W.nsIn K mainGlobals "check_number" = some (some (.ref fCn)))
    (lCn : K.lookup fCn = some ⟨ocCn, odCn, .func (PySem.W.fnOf "check_number" "check_number" (defArgs sCheckNumber) (defBody sCheckNumber) (defScope sCheckNumber) .none kVCn dcCn pmCn anCn cdCn ctCn), slCn⟩)
    (cCn : PySem.W.codeIn K cdCn "check_number" = true)
    (kCn : PySem.W.keepIn K (.ref fCn) = true)
    (aLe : PySem.W.findIn K (.ref C) "__len__" = some (some (.ref fLe)))
    (iLe : PySem.W.isFn K (.ref fLe) = true)
    (lLe : K.lookup fLe = some ⟨ocLe, odLe, .func (PySem.W.fnOf "__len__" "Word.__len__" (defArgs sWordLen) (defBody sWordLen) (defScope sWordLen) .none kVLe dcLe pmLe anLe cdLe ctLe), slLe⟩)
    (cLe : PySem.W.codeIn K cdLe "Word.__len__" = true)
    (kLe : PySem.W.keepIn K (.ref fLe) = true)
    (aAd : PySem.W.findIn K (.ref C) "__add__" = some (some (.ref fAd)))
    (iAd : PySem.W.isFn K (.ref fAd) = true)
    (lAd : K.lookup fAd = some ⟨ocAd, odAd, .func (PySem.W.fnOf "__add__" "Word.__add__" (defArgs sWordAdd) (defBody sWordAdd) (defScope sWordAdd) .none kVAd dcAd pmAd anAd cdAd ctAd), slAd⟩)
    (cAd : PySem.W.codeIn K cdAd "Word.__add__" = true)
    (kAd : PySem.W.keepIn K (.ref fAd) = true)
    (pCr : PySem.W.findIn K (.ref C) "corner" = some (some (.ref qCr)))
    (pgtCr : PySem.W.specialIn K (.ref qCr) "__get__" = some (some (.builtin "property.__get__")))
    (ptkCr : PySem.W.takesIn K (.ref qCr) = some true)
    (aCr : PySem.W.recIn K qCr "property" = some (.ref fCr :: rCr))
    (lCr : K.lookup fCr = some ⟨ocCr, odCr, .func (PySem.W.fnOf "corner" "Word.corner" (defArgs sWordCorner) (defBody sWordCorner) (defScope sWordCorner) .none kVCr dcCr pmCr anCr cdCr ctCr), slCr⟩)
    (cCr : PySem.W.codeIn K cdCr "Word.corner" = true)
    (kCr : PySem.W.keepIn K (.ref fCr) = true)
    (aLa : PySem.W.nsIn K mainGlobals "_last_along" = some (some (.ref fLa)))
    (lLa : K.lookup fLa = some ⟨ocLa, odLa, .func (PySem.W.fnOf "_last_along" "_last_along" (defArgs sLastAlong) (defBody sLastAlong) (defScope sLastAlong) .none kVLa dcLa pmLa anLa cdLa ctLa), slLa⟩)
    (cLa : PySem.W.codeIn K cdLa "_last_along" = true)
    (kLa : PySem.W.keepIn K (.ref fLa) = true)
    (aRl : PySem.W.nsIn K mainGlobals "row_lengths" = some (some (.ref fRl)))
    (lRl : K.lookup fRl = some ⟨ocRl, odRl, .func (PySem.W.fnOf "row_lengths" "row_lengths" (defArgs sRowLengths) (defBody sRowLengths) (defScope sRowLengths) .none kVRl dcRl pmRl anRl cdRl ctRl), slRl⟩)
    (cRl : PySem.W.codeIn K cdRl "row_lengths" = true)
    (kRl : PySem.W.keepIn K (.ref fRl) = true)
    (aHl : PySem.W.nsIn K mainGlobals "heap_lengths" = some (some (.ref fHl)))
    (lHl : K.lookup fHl = some ⟨ocHl, odHl, .func (PySem.W.fnOf "heap_lengths" "heap_lengths" (defArgs sHeapLengths) (defBody sHeapLengths) (defScope sHeapLengths) .none kVHl dcHl pmHl anHl cdHl ctHl), slHl⟩)
    (cHl : PySem.W.codeIn K cdHl "heap_lengths" = true)
    (kHl : PySem.W.keepIn K (.ref fHl) = true)
    (aTb : PySem.W.nsIn K mainGlobals "trays_behind" = some (some (.ref fTb)))
    (lTb : K.lookup fTb = some ⟨ocTb, odTb, .func (PySem.W.fnOf "trays_behind" "trays_behind" (defArgs sTraysBehind) (defBody sTraysBehind) (defScope sTraysBehind) .none kVTb dcTb pmTb anTb cdTb ctTb), slTb⟩)
    (cTb : PySem.W.codeIn K cdTb "trays_behind" = true)
    (kTb : PySem.W.keepIn K (.ref fTb) = true)
    (aTk : PySem.W.nsIn K mainGlobals "_law_taken" = some (some (.ref fTk)))
    (lTk : K.lookup fTk = some ⟨ocTk, odTk, .func (PySem.W.fnOf "_law_taken" "_law_taken" (defArgs sLawTaken) (defBody sLawTaken) (defScope sLawTaken) .none kVTk dcTk pmTk anTk cdTk ctTk), slTk⟩)
    (cTk : PySem.W.codeIn K cdTk "_law_taken" = true)
    (kTk : PySem.W.keepIn K (.ref fTk) = true)
    (aRw : PySem.W.nsIn K mainGlobals "_law_rows" = some (some (.ref fRw)))
    (lRw : K.lookup fRw = some ⟨ocRw, odRw, .func (PySem.W.fnOf "_law_rows" "_law_rows" (defArgs sLawRows) (defBody sLawRows) (defScope sLawRows) .none kVRw dcRw pmRw anRw cdRw ctRw), slRw⟩)
    (cRw : PySem.W.codeIn K cdRw "_law_rows" = true)
    (kRw : PySem.W.keepIn K (.ref fRw) = true)
    (aTx : PySem.W.nsIn K mainGlobals "_law_text" = some (some (.ref fTx)))
    (lTx : K.lookup fTx = some ⟨ocTx, odTx, .func (PySem.W.fnOf "_law_text" "_law_text" (defArgs sLawText) (defBody sLawText) (defScope sLawText) .none kVTx dcTx pmTx anTx cdTx ctTx), slTx⟩)
    (cTx : PySem.W.codeIn K cdTx "_law_text" = true)
    (kTx : PySem.W.keepIn K (.ref fTx) = true)
    (aTy : PySem.W.nsIn K mainGlobals "_law_tray" = some (some (.ref fTy)))
    (lTy : K.lookup fTy = some ⟨ocTy, odTy, .func (PySem.W.fnOf "_law_tray" "_law_tray" (defArgs sLawTray) (defBody sLawTray) (defScope sLawTray) .none kVTy dcTy pmTy anTy cdTy ctTy), slTy⟩)
    (cTy : PySem.W.codeIn K cdTy "_law_tray" = true)
    (kTy : PySem.W.keepIn K (.ref fTy) = true)
    (aLi : PySem.W.nsIn K mainGlobals "_law_lies" = some (some (.ref fLi)))
    (lLi : K.lookup fLi = some ⟨ocLi, odLi, .func (PySem.W.fnOf "_law_lies" "_law_lies" (defArgs sLawLies) (defBody sLawLies) (defScope sLawLies) .none kVLi dcLi pmLi anLi cdLi ctLi), slLi⟩)
    (cLi : PySem.W.codeIn K cdLi "_law_lies" = true)
    (kLi : PySem.W.keepIn K (.ref fLi) = true)
    (aLw : PySem.W.nsIn K mainGlobals "law" = some (some (.ref fLw)))
    (lLw : K.lookup fLw = some ⟨ocLw, odLw, .func (PySem.W.fnOf "law" "law" (defArgs sLaw) (defBody sLaw) (defScope sLaw) .none kVLw dcLw pmLw anLw cdLw ctLw), slLw⟩)
    (cLw : PySem.W.codeIn K cdLw "law" = true)
    (kLw : PySem.W.keepIn K (.ref fLw) = true)
    (cMC : PySem.W.nsIn K mainGlobals "MAX_COUNT" = some (some (.int iMC tMC)))
    (sfC : PySem.W.selfFirst K C = true)
    (cOP : PySem.W.nsIn K mainGlobals "CLOCKWISE" = some (some (.ref aO)))
    (lO : K.lookup aO = some ⟨.type "dict", none, .dict esO nO, #[]⟩)
    (hO : PySem.W.KeysLit w.params esO.toList)
    (Ou : PySem.W.nsIn K aO "u" = some (some (.str zOu tOu)))
    (Or : PySem.W.nsIn K aO "r" = some (some (.str zOr tOr)))
    (Od : PySem.W.nsIn K aO "d" = some (some (.str zOd tOd)))
    (Ol : PySem.W.nsIn K aO "l" = some (some (.str zOl tOl)))
    (eAR : zAR = S [108, 114])
    (eAC : zAC = S [117, 100])
    (eEM : zEM = S [46])
    (eLE : zLE = S letters)
    (eMS : iMS = 8)
    (eMX : iMX = 60)
    (eMC : iMC = ((1000 : Nat) : Int))
    (eOu : zOu = S [114])
    (eOr : zOr = S [100])
    (eOd : zOd = S [108])
    (eOl : zOl = S [117])
    (hDC : D ≠ C)
    (h0 : t0 ≠ 0)
    : ∀ base : Heap, K.In base → base.Ns mainGlobals mg → FnRn (t0 + 1) P w K mg base CX0 11 fa (spLaw K) := by
  intro base _ _
  subst eAR eAC eEM eLE eMS eMX eMC eOu eOr eOd eOl
  have g : ∀ {n : Str} {v : Value}, PySem.W.nsIn K mainGlobals n = some (some v) → mg n = some v := fun e => PySem.W.mg_of X G e
  have g0 : ∀ {n : Str}, PySem.W.nsIn K mainGlobals n = some none → mg n = none := fun e => PySem.W.mg_none_of X G e
  obtain rfl : fLw = fa := by
    have e := hfa.symm.trans (g aLw)
    cases e
    rfl
  have raw0 : ∀ {CX : CXT} {k : Nat} {f : Addr} {fd : FuncData} {ps : List Str} {sp : Sp}, FnOk P w K mg base CX k f fd ps sp → Binds K fd ps [] → FnR P w K mg base CX k f sp := fun F b => (F.raw b .nil).imp fun vs H Q E h => by rw [List.append_nil]; exact h
  have T : TxtW K mg := ⟨g0 b_len, g0 b_isinstance, g0 b_str, g0 b_enumerate, ⟨_, g cAR, _, rfl⟩, ⟨_, g cAC, _, rfl⟩⟩
  have U : TxtT K mg t0 := ⟨g cEM, ⟨_, g cLE, _, rfl⟩, ⟨_, g cMS, _, rfl⟩, g0 b_set, g0 b_zip, g0 b_tuple⟩
  have L : TxtL K mg := ⟨g0 b_int, g0 b_range, g0 b_min⟩
  have clC : Cls K C := ⟨pgC, hdC, poC, saC⟩
  have clD : Cls K D := ⟨pgD, hdD, poD, saD⟩
  have CW : ClsW K mg C := ⟨clC, nT, g aC, .type "type", _, ⟨rdC, gaC⟩, mx, _, rfl⟩
  have CT : ClsT K mg D := ⟨clD, nR, g aD⟩
  have IC : C8.InsC K C := ⟨clC, ih, in_, itk, im, if_pos (by simp)⟩
  have ID : C8.InsC K D := ⟨clD, ihD, in_, itk, imD, if_pos (by simp)⟩
  have FIt := fun_mk (st := sIsTilt) lIt cIt kIt
  have BIt := FIt.binds (ps := ["value"]) fun _ _ _ _ _ _ us hl => match us, hl with | [_], _ => rfl
  have FFw := fun_mk (st := sFirstWrongIndex) lFw cFw kFw
  have BFw := FFw.binds (ps := ["text"]) fun _ _ _ _ _ _ us hl => match us, hl with | [_], _ => rfl
  have FWi := fun_mk (st := sWordInit) lWi cWi kWi
  have BWi := FWi.binds (ps := ["self", "text"]) fun _ _ _ _ _ _ us hl => match us, hl with | [_, _], _ => rfl
  have FWt := fun_mk (st := sWordText) lWt cWt kWt
  have BWt := FWt.binds (ps := ["self"]) fun _ _ _ _ _ _ us hl => match us, hl with | [_], _ => rfl
  have FTo := fun_mk (st := sTrayOfText) lTo cTo kTo
  have BTo := FTo.binds (ps := ["cls", "text"]) fun _ _ _ _ _ _ us hl => match us, hl with | [_, _], _ => rfl
  have FRs := fun_mk (st := sTrayRshift) lRs cRs kRs
  have BRs := FRs.binds (ps := ["self", "other"]) fun _ _ _ _ _ _ us hl => match us, hl with | [_, _], _ => rfl
  have FFc := fun_mk (st := sFirstWrongCell) lFc cFc kFc
  have BFc := FFc.binds (ps := ["rows"]) fun _ _ _ _ _ _ us hl => match us, hl with | [_], _ => rfl
  have FIr := fun_mk (st := sIsRow) lIr cIr kIr
  have BIr := FIr.binds (ps := ["row"]) fun _ _ _ _ _ _ us hl => match us, hl with | [_], _ => rfl
  have FTd := fun_mk (st := sTilted) lTd cTd kTd
  have BTd := FTd.binds (ps := ["rows", "tilt"]) fun _ _ _ _ _ _ us hl => match us, hl with | [_, _], _ => rfl
  have FSl := fun_mk (st := sSlid) lSl cSl kSl
  have BSl := FSl.binds (ps := ["line", "to_beginning"]) fun _ _ _ _ _ _ us hl => match us, hl with | [_, _], _ => rfl
  have FTr := fun_mk (st := sTrayRows) lTr cTr kTr
  have BTr := FTr.binds (ps := ["self"]) fun _ _ _ _ _ _ us hl => match us, hl with | [_], _ => rfl
  have FMb := fun_mk (st := sTrayMarbles) lMb cMb kMb
  have BMb := FMb.binds (ps := ["self"]) fun _ _ _ _ _ _ us hl => match us, hl with | [_], _ => rfl
  have FWd := fun_mk (st := sTrayWidth) lWd cWd kWd
  have BWd := FWd.binds (ps := ["self"]) fun _ _ _ _ _ _ us hl => match us, hl with | [_], _ => rfl
  have FHt := fun_mk (st := sTrayHeight) lHt cHt kHt
  have BHt := FHt.binds (ps := ["self"]) fun _ _ _ _ _ _ us hl => match us, hl with | [_], _ => rfl
  have FNu := fun_mk (st := sIsNumber) lNu cNu kNu
  have BNu := FNu.binds (ps := ["value", "limit"]) fun _ _ _ _ _ _ us hl => match us, hl with | [_, _], _ => rfl
  have FCn := fun_mk (st := sCheckNumber) lCn cCn kCn
  have BCn := FCn.binds (ps := ["value", "limit"]) fun _ _ _ _ _ _ us hl => match us, hl with | [_, _], _ => rfl
  have FLe := fun_mk (st := sWordLen) lLe cLe kLe
  have BLe := FLe.binds (ps := ["self"]) fun _ _ _ _ _ _ us hl => match us, hl with | [_], _ => rfl
  have FAd := fun_mk (st := sWordAdd) lAd cAd kAd
  have BAd := FAd.binds (ps := ["self", "other"]) fun _ _ _ _ _ _ us hl => match us, hl with | [_, _], _ => rfl
  have FCr := fun_mk (st := sWordCorner) lCr cCr kCr
  have BCr := FCr.binds (ps := ["self"]) fun _ _ _ _ _ _ us hl => match us, hl with | [_], _ => rfl
  have FLa := fun_mk (st := sLastAlong) lLa cLa kLa
  have BLa := FLa.binds (ps := ["text", "axis"]) fun _ _ _ _ _ _ us hl => match us, hl with | [_, _], _ => rfl
  have FRl := fun_mk (st := sRowLengths) lRl cRl kRl
  have BRl := FRl.binds (ps := ["tray", "word"]) fun _ _ _ _ _ _ us hl => match us, hl with | [_, _], _ => rfl
  have FHl := fun_mk (st := sHeapLengths) lHl cHl kHl
  have BHl := FHl.binds (ps := ["tray", "word"]) fun _ _ _ _ _ _ us hl => match us, hl with | [_, _], _ => rfl
  have FTb := fun_mk (st := sTraysBehind) lTb cTb kTb
  have BTb := FTb.binds (ps := ["tray", "first", "count"]) fun _ _ _ _ _ _ us hl => match us, hl with | [_, _, _], _ => rfl
  have FTk := fun_mk (st := sLawTaken) lTk cTk kTk
  have BTk := FTk.binds (ps := ["_law_row", "_law_many"]) fun _ _ _ _ _ _ us hl => match us, hl with | [_, _], _ => rfl
  have FRw := fun_mk (st := sLawRows) lRw cRw kRw
  have BRw := FRw.binds (ps := ["_law_row", "_law_most"]) fun _ _ _ _ _ _ us hl => match us, hl with | [_, _], _ => rfl
  have FTx := fun_mk (st := sLawText) lTx cTx kTx
  have BTx := FTx.binds (ps := ["_law_row", "_law_most"]) fun _ _ _ _ _ _ us hl => match us, hl with | [_, _], _ => rfl
  have FTy := fun_mk (st := sLawTray) lTy cTy kTy
  have BTy := FTy.binds (ps := ["_law_rows_here"]) fun _ _ _ _ _ _ us hl => match us, hl with | [_], _ => rfl
  have FLi := fun_mk (st := sLawLies) lLi cLi kLi
  have BLi := FLi.binds (ps := ["_law_tray_here", "_law_corner", "_law_lengths"]) fun _ _ _ _ _ _ us hl => match us, hl with | [_, _, _], _ => rfl
  have FLw := fun_mk (st := sLaw) lLw cLw kLw
  have BLw := FLw.binds (ps := ["_law_script"]) fun _ _ _ _ _ _ us hl => match us, hl with | [_], _ => rfl
  have FTi := fun_mk (st := sTrayInit) lTi cTi kTi
  have GIt : FnOk P w K mg base CX0 1 fIt _ ["value"] spIt := ok_it FIt T
  have GFw : FnOk P w K mg base CX0 2 fFw _ ["text"] spFwi := ok_fwi FFw T CW FIt BIt (g aIt)
  have GWi : FnOk P w K mg base CX0 3 fWi _ ["self", "text"] (spWi C) := ok_wi FWi CW GFw kFw BFw (g aFw)
  have MC : Mk K C fWi := ⟨mkC, aWi, iWi, kcC⟩
  have scWt : FnScope ["self"] ["self"] (defScope sWordText) := ⟨rfl, rfl, rfl, by decide +kernel, rfl, by decide +kernel, by decide +kernel⟩
  have GWg : FnOk P w K mg base CX0 1 fWt _ ["self"] (getSp C "_text") := fn_getter (k := 0) lWt cWt scWt rfl rfl clC nT
  have PWt : PropOf K C "text" qWt fWt := ⟨pWt, pgtWt, ptkWt, _, aWt⟩
  have GFc : FnOk P w K mg base CX0 2 fFc _ ["rows"] (spFc K) := ok_fc FFc T U FIr BIr (g aIr)
  have GTi := ok_ti (P := P) (w := w) (base := base) FTi CT GFc kFc BFc (g aFc)
  have MD : Mk K D fTi := ⟨mkD, aTi, iTi, kcD⟩
  have GTo : FnOk P w K mg base CX0 5 fTo _ ["cls", "text"] (spOt K D) := ok_ot FTo T MD GTi
  have GSl : FnRn (t0 + 1) P w K mg base CX0 1 fSl spSl := ok_sl FSl T U BSl h0 (Nat.lt_succ_self _)
  have GTd : FnRn (t0 + 1) P w K mg base CX0 2 fTd (spTd K) := ok_td FTd T U BTd GSl kSl (g aSl)
  have eR1 : PySem.dunder Operator.RShift.info.2 = ("__rshift__" : Str) := by decide +kernel
  have eR2 : PySem.dunderR Operator.RShift.info.2 = ("__rrshift__" : Str) := by decide +kernel
  have NO : NoOp K C Operator.RShift.info.2 := ⟨⟨_, nc, nm⟩, by rw [eR1]; exact n1, by rw [eR2]; exact n2, by rw [eR1]; exact n3, by rw [eR2]; exact n4⟩
  have hs : PySem.W.findIn K (.ref D) (PySem.dunder Operator.RShift.info.2) = some (some (.ref fRs)) := by rw [eR1]; exact aRs
  have GRs : FnRn (t0 + 1) P w K mg base CX0 5 fRs (spRs K C D) := ok_rs FRs T CW CT IC BRs PWt GWg BWt GTd kTd (g aTd) MD GTi
  have scTr : FnScope ["self"] ["self"] (defScope sTrayRows) := ⟨rfl, rfl, rfl, by decide +kernel, rfl, by decide +kernel, by decide +kernel⟩
  have GTr : FnOk P w K mg base CX0 1 fTr _ ["self"] (getSp D "_rows") := fn_getter (k := 0) lTr cTr scTr rfl rfl clD nR
  have PTr : PropOf K D "rows" qTr fTr := ⟨pTr, pgtTr, ptkTr, _, aTr⟩
  have GTk : ∀ a ns, FnOk P w K mg base CX0 1 fTk _ ["_law_row", "_law_many"] (spTk K a ns) := fun a ns => ok_tk FTk T L
  have GTx : ∀ a ns, FnOk P w K mg base CX0 2 fTx _ ["_law_row", "_law_most"] (spTx K a ns) := fun a ns => ok_tx FTx L (GTk a ns) kTk BTk (g aTk)
  have GRw : ∀ a ns, FnOk P w K mg base CX0 2 fRw _ ["_law_row", "_law_most"] (spRw K a ns) := fun a ns => ok_rw FRw T L (GTk a ns) kTk BTk (g aTk)
  have GRwN : ∀ a ns, FnOk P w K mg base CX0 2 fRw _ ["_law_row", "_law_most"] (spRwN K a ns) := fun a ns => ok_rwN FRw T L (GTk a ns) kTk BTk (g aTk)
  have TM_ : TxtM K mg := ⟨⟨_, g cEM, _, rfl⟩, g0 b_sorted, g0 b_len⟩
  have PMb : PropOf K D "marbles" qMb fMb := ⟨pMb, pgtMb, ptkMb, _, aMb⟩
  have PHt : PropOf K D "height" qHt fHt := ⟨pHt, pgtHt, ptkHt, _, aHt⟩
  have PWd : PropOf K D "width" qWd fWd := ⟨pWd, pgtWd, ptkWd, _, aWd⟩
  have PCr : PropOf K C "corner" qCr fCr := ⟨pCr, pgtCr, ptkCr, _, aCr⟩
  have GMb : FnOk P w K mg base CX0 1 fMb _ ["self"] (spMb K D) := ok_mb FMb TM_ CT
  have GHt : FnOk P w K mg base CX0 1 fHt _ ["self"] (spHt K D) := ok_ht FHt TM_ CT
  have GWd : FnOk P w K mg base CX0 1 fWd _ ["self"] (spWd K D) := ok_wd FWd TM_ CT
  have N : TA.TxtN K mg := ⟨g0 b_isinstance, g0 b_bool, g0 b_int⟩
  have GNu : FnOk P w K mg base CX0 1 fNu _ ["value", "limit"] (TA.spNum K) := TA.ok_num FNu N
  have GCn : FnOk P w K mg base CX0 2 fCn _ ["value", "limit"] spCn := ok_cn FCn GNu kNu BNu (g aNu)
  have GLe : FnOk P w K mg base CX0 1 fLe _ ["self"] (TA.spLe C) := TA.ok_le FLe CW T
  have GLa : FnOk P w K mg base CX0 1 fLa _ ["text", "axis"] TA.spLa := TA.ok_la FLa
  have GCr : FnOk P w K mg base CX0 2 fCr _ ["self"] (TA.spCr C) := TA.ok_cr FCr CW T GLa kLa BLa (g aLa)
  have GAd : FnOk P w K mg base CX0 5 fAd _ ["self", "other"] (spAd0 C) := ok_ad0 FAd CW T IC MC GWi BWi
  have hAd : PySem.W.findIn K (.ref C) (PySem.dunder Operator.Add.info.2) = some (some (.ref fAd)) := by rw [show PySem.dunder Operator.Add.info.2 = ("__add__" : Str) by decide +kernel]; exact aAd
  have GRl : FnRn (t0 + 1) P w K mg base CX0 6 fRl (spRl K C D) := ok_rl FRl BRl T CT hDC (g cEM) h0 (Nat.lt_succ_self _) sf NO hs iRs GRs PTr GTr BTr
  have GHl : FnRn (t0 + 1) P w K mg base CX0 7 fHl (spHl K C D) := ok_hl FHl BHl CW PCr GCr BCr GRl kRl (g aRl)
  have dO : ∀ c, isT c = true → KDct K w aO (S [c]) (sg (cwT c)) := fun c hc => by
    have h4 : c = 108 ∨ c = 114 ∨ c = 117 ∨ c = 100 := by
      simp only [isT, decide_eq_true_eq, List.mem_cons, List.not_mem_nil, or_false] at hc
      exact hc
    rcases h4 with rfl | rfl | rfl | rfl
    · exact ⟨_, _, _, lO, hO, Ol, _, rfl⟩
    · exact ⟨_, _, _, lO, hO, Or, _, rfl⟩
    · exact ⟨_, _, _, lO, hO, Ou, _, rfl⟩
    · exact ⟨_, _, _, lO, hO, Od, _, rfl⟩
  have GTb : TG.FnG (t0 + 1) P w K mg base 6 fTb (spTb K D) := ok_tb lTb cTb BTb CW hDC sf NO hs iRs GRs GCn kCn BCn (g aCn) ⟨_, g cMC, _, rfl⟩ GIt kIt BIt (g aIt) MC GWi BWi (g cOP) dO (g0 b_range)
  have GTy : FnOk P w K mg base CX0 6 fTy _ ["_law_rows_here"] (spTry K D) := ok_try FTy CT ⟨rdD, gaD⟩ ⟨pTo, ⟨_, aTo⟩, fiTo⟩ (raw0 GTo BTo)
  have GLi : FnOk P w K mg base CX0 3 fLi _ ["_law_tray_here", "_law_corner", "_law_lengths"] (spLi K D) := ok_li FLi (g0 b_list) (g0 b_range) CT PTr GTr BTr PHt GHt BHt PWd GWd BWd
  exact ok_law FLw BLw T (g0 b_range) (g0 b_list) (g0 b_sorted) (g0 b_sum) CW CT GTk kTk BTk (g aTk) GTx kTx BTx (g aTx) GRw kRw BRw (g aRw) GTy kTy BTy (g aTy) GLi kLi BLi (g aLi) GHl kHl (g aHl) GRl kRl (g aRl) GTb kTb (g aTb) hDC sf NO hs iRs GRs MC GWi BWi PTr GTr BTr PHt GHt BHt PWd GWd BWd PMb GMb BMb PCr GCr BCr PWt GWg BWt aLe iLe (raw0 GLe BLe) sfC hAd iAd (raw0 GAd BAd)
end TR
end
section
set_option Elab.async false
set_option maxRecDepth 100000
set_option linter.all false
namespace TK
open PySem L2 TM
open PySem.Spec PyProof.Rows TH
/-- the script as the law finds it: locked, unless it is an object of the top -/
def scr (K : PySem.W.Frag) (a : Addr) (vs : List Value) (ns : List Int) : Hp := fun b => if b = a ∧ K.lookup a = none then some (.frz { cls := .type "list", data := .seq vs.toArray } (.lst (ns.map V.int))) else none
theorem scr_at {K : PySem.W.Frag} {a b : Addr} {vs : List Value} {ns : List Int} {u : HO} (h : scr K a vs ns b = some u) : b = a ∧ K.lookup a = none ∧ u = .frz { cls := .type "list", data := .seq vs.toArray } (.lst (ns.map V.int)) := by
  unfold scr at h
  split at h
  · rename_i c
    exact ⟨c.1, c.2, (Option.some.inj h).symm⟩
  · cases h
theorem law_n {P : Program} {w : World} {K : PySem.W.Frag} {mg mb : Str → Option Value} {n k : Nat} {fa a : Addr} {sp : Sp} {s₁ : Shared} {vs : List Value} {ns : List Int}
    (KX : K.In s₁.heap) (hns : s₁.heap.Ns mainGlobals mg) (hb : s₁.heap.Ns builtinsNs mb) (hbb : ∀ x : Str, x ≠ "__name__" → mb x = bootBuiltins x) (hlim : s₁.heap.NoLimit) (hg : s₁.gens = #[]) (hn : n ≤ s₁.toks)
    (ha : s₁.heap.get? a = some { cls := .type "list", data := .seq vs.toArray }) (hi : Vals (ns.map V.int) vs) (hl : ns.length ≤ sizeLine) (hr : Room k callerA)
    (F : ∀ base : Heap, K.In base → base.Ns mainGlobals mg → FnRn n P w K mg base CX0 k fa sp)
    (hsp : ∀ H : Hp, SqL K H a (ns.map V.int) → sp [.ref a] H (fun v _ => v = .bl true) fun _ _ _ => False) :
    codeAny (model P w) callerA (.call (.ref fa) ⟨[.ref a], []⟩) (fun r s' => r = .ok (.ret (.bool true)) ∧ OldK s₁.heap s'.heap ∧ s'.os = s₁.os ∧ AllBare s'.gens) s₁ := by
  have hvl : vs.length = ns.length := by rw [← hi.length, List.length_map]
  have seen : SqL K (scr K a vs ns) a (ns.map V.int) := by
    cases hk : K.lookup a with
    | none => exact .inl (.inr ⟨_, if_pos ⟨rfl, hk⟩⟩)
    | some o =>
      have e := KX a o hk
      rw [ha] at e
      cases e
      exact .inr ⟨_, vs.toArray, _, hk, rfl, rfl, rfl, by rw [List.size_toArray, hvl]; exact hl, by simpa using hi⟩
  have fine : HOk P w (scr K a vs ns) s₁.heap := fun b u h => by
    obtain ⟨rfl, _, rfl⟩ := scr_at h
    exact ⟨ha, by rw [List.length_map]; exact hl, vs, _, hi, ha⟩
  generalize hH : scr K a vs ns = H at seen fine
  have only : ∀ {b : Addr} {u : HO}, H b = some u → b = a ∧ K.lookup a = none ∧ ∃ o xs, u = .frz o (.lst xs) := fun {b u} h => by
    rw [← hH] at h
    obtain ⟨z1, z2, z3⟩ := scr_at h
    exact ⟨z1, z2, _, _, z3⟩
  have dict : ∀ {b : Addr} {m : Str → Option Value}, s₁.heap.Ns b m → (hidT s₁.heap H).Ns b m := fun {b m} ⟨o, es, ep, e, d, q⟩ => by
    refine ⟨o, es, ep, hidT_get e ?_, d, q⟩
    cases hz : H b with
    | none => rfl
    | some u =>
      obtain ⟨rfl, _⟩ := only hz
      rw [ha] at e
      cases e
      cases d
  have inB : K.In (hidT s₁.heap H) := fun b o e => hidT_get (KX b o e) (by
    cases hz : H b with
    | none => rfl
    | some u =>
      obtain ⟨rfl, z, _⟩ := only hz
      rw [z] at e
      cases e)
  obtain ⟨mc, l1, l2⟩ := hlim
  have start : Env0 P w K mg (hidT s₁.heap H) callerA [] s₁ H := ⟨rfl, ⟨inB, dict hns, ⟨mb, dict hb, hbb⟩, mc, dict l1, l2⟩, fun b o e => of_hidT e, Nat.le_of_eq (hidT_size _ _), trivial, fun b z => absurd (show b ∈ ([] : List Addr) from z) (by simp), fine, .of_eq hg⟩
  refine codeAny_mono (F _ inB (dict hns) callerA [] s₁ H [.ref a] [.ref a] _ _ hn hr start (.cons rfl .nil) (hsp H seen)) fun r s' h => ?_
  cases r with
  | error e => exact False.elim h
  | ok fl =>
    cases fl with
    | next => exact False.elim h
    | brk => exact False.elim h
    | cont => exact False.elim h
    | ret u =>
      obtain ⟨v, H', os, bare, un, fine', rv, q⟩ := h
      obtain rfl : v = .bl true := q
      obtain rfl : u = Value.bool true := rv
      refine ⟨rfl, OldK.of_keep fun b o e => ?_, os, bare⟩
      cases hz : H b with
      | none => exact un.keep b o e hz (fun z => absurd (show b ∈ ([] : List Addr) from z) (by simp)) (by simp)
      | some u =>
        obtain ⟨_, _, ob, xs, rfl⟩ := only hz
        have e1 := (fine b _ hz).1
        have e2 := (fine' b _ (un.frzs b ob _ hz)).1
        rw [e] at e1
        cases e1
        exact e2
end TK
end
section
set_option Elab.async false
set_option maxRecDepth 100000
set_option linter.all false
namespace TK
open PySem PySem.W PySem.W.X PySem.Spec PyProof.Rows L2 TH
theorem ofPys_ints : ∀ ns : List Int, ofPys (ns.map PyData.int) = ns.map WData.int
  | [] => by simp [ofPys]
  | n :: ns => by
    rw [List.map_cons, List.map_cons, ofPys, ofPys_ints ns]
    rfl
theorem end_nk {l : OpenLaw} {w : World} {s₀ s₁ : Shared} {args : List WData} {vals : List Value} {as : List Addr} {fa : Addr} {K : PySem.W.Frag} {mg mb : Str → Option Value} {cl : Str → Option Addr} {mean : ExcName → Option Value} {tk n k : Nat} {sp : Sp}
    (hr : Room k callerA) (hsp : ∀ (a : Addr) (ns : List Int) (H : Hp), SqL K H a (ns.map V.int) → sp [.ref a] H (fun v _ => v = .bl true) fun _ _ _ => False)
    (hm : l.most = some 63) (KX : K.In s₁.heap) (hns : s₁.heap.Ns mainGlobals mg) (hb : s₁.heap.Ns builtinsNs mb) (hbb : ∀ x : Str, x ≠ "__name__" → mb x = bootBuiltins x) (hlim : s₁.heap.NoLimit) (hg : s₁.gens = #[])
    (L : Laid l.row.toRowW.records w s₀ s₁ args vals as) (ZT : s₀.toks = tk) (hn : n ≤ tk) (hpre : l.row.toRowW.claim.pre args = true) (hwl : WellAll w.params s₁.heap vals args)
    (F : ∀ base : Heap, K.In base → base.Ns mainGlobals mg → FnRn n l.row.toRowW.prog w K mg base CX0 k fa sp) :
    wpAny (model l.row.toRowW.prog w) callerA (PySem.call (.ref fa) vals) (fun v s' => GoodWG l.row.toRowW.claim cl mean args s₁ (.ok (.ret v)) s') (fun e s' => GoodWG l.row.toRowW.claim cl mean args s₁ (.error e) s') s₁ := by
  obtain ⟨a, vs, ns, rfl, rfl, hobj, hints, hlen⟩ := Att.script_of hm hpre hwl
  have L' : Laid l.row.toRowW.records w s₀ s₁ [ofPy (PyData.list (ns.map PyData.int))] [.ref a] as := by
    rw [show ofPy (PyData.list (ns.map PyData.int)) = WData.list (ns.map WData.int) by rw [ofPy, ofPys_ints]]
    exact L
  have htk := script_toks L' ZT
  refine enter_call (codeAny_mono (law_n (k := k) KX hns hb hbb hlim hg (Nat.le_trans hn htk) hobj (vals_ints hints) (Nat.le_trans hlen (by decide)) hr F fun H hS => hsp a ns H hS) fun r s' hq => ?_)
  obtain ⟨rfl, h2, h3, h4⟩ := hq
  exact ⟨.inl ⟨.bool true, .bool true, [], rfl, fun _ => rfl, .bool true, Att.post_true l _, fun _ => ⟨List.Pairwise.nil, fun _ hm => (nomatch hm)⟩⟩, h2, h3, h4⟩
end TK
end
set_option Elab.async false
open PySem PySem.W PySem.W.X PySem.W.ZRun PyProof.Rows
set_option maxRecDepth 100000 in
set_option maxHeartbeats 0 in
theorem PySem.Challenge.cw_tiltheap_k18_whole_heaps_and_corners_holds : PySem.Challenge.rw_tiltheap_k18_whole_heaps_and_corners.Holds := by
  w_on; o_law; z_head; (case hw => w_witness2)
  k_fill
  intro w s₀ s₁ mg mb G y fa o pm cd doc dV kV ho hd hcd hD hmg hg args vals as L hpre hlay hrd hwl hlo
  z_open y L KX ZH ZN ZT
  have hmg' : mg (PySem.Str.ofString "law") = some (Value.ref fa) := hmg
  clear y ZH ZN hlay hrd hlo hd hcd hD ho hmg
  refine' TK.end_nk (k := 11) (l := PySem.Challenge.rw_tiltheap_k18_whole_heaps_and_corners) ⟨rfl, by decide, by decide⟩ (fun a ns H hS => ⟨a, ns, rfl, hS, fun _ => rfl⟩) rfl KX G.T.g G.T.b G.T.builtins G.T.nolimit hg L ZT ?hn hpre hwl (TR.all_mk KX G.T.g hmg' ?aC ?pgC ?hdC ?poC ?saC ?mkC ?kcC ?rdC ?gaC ?aD ?pgD ?hdD ?poD ?saD ?mkD ?kcD ?rdD ?gaD ?cAR ?cAC ?cEM ?cLE ?cMS ?nT ?nR ?ih ?in_ ?itk ?im ?ihD ?imD ?mx ?b_len ?b_isinstance ?b_str ?b_enumerate ?b_set ?b_zip ?b_tuple ?b_int ?b_range ?b_min ?b_list ?b_bool ?b_sorted ?b_sum ?aIt ?lIt ?cIt ?kIt ?aFw ?lFw ?cFw ?kFw ?aWi ?iWi ?lWi ?cWi ?kWi ?pWt ?pgtWt ?ptkWt ?aWt ?lWt ?cWt ?kWt ?aTi ?iTi ?lTi ?cTi ?kTi ?pTo ?aTo ?fiTo ?lTo ?cTo ?kTo ?aRs ?iRs ?lRs ?cRs ?kRs ?aFc ?lFc ?cFc ?kFc ?aIr ?lIr ?cIr ?kIr ?aTd ?lTd ?cTd ?kTd ?aSl ?lSl ?cSl ?kSl ?pTr ?pgtTr ?ptkTr ?aTr ?lTr ?cTr ?kTr ?sf ?nc ?nm ?n1 ?n2 ?n3 ?n4 ?pMb ?pgtMb ?ptkMb ?aMb ?lMb ?cMb ?kMb ?pWd ?pgtWd ?ptkWd ?aWd ?lWd ?cWd ?kWd ?pHt ?pgtHt ?ptkHt ?aHt ?lHt ?cHt ?kHt ?aNu ?lNu ?cNu ?kNu ?aCn ?lCn ?cCn ?kCn ?aLe ?iLe ?lLe ?cLe ?kLe ?aAd ?iAd ?lAd ?cAd ?kAd ?pCr ?pgtCr ?ptkCr ?aCr ?lCr ?cCr ?kCr ?aLa ?lLa ?cLa ?kLa ?aRl ?lRl ?cRl ?kRl ?aHl ?lHl ?cHl ?kHl ?aTb ?lTb ?cTb ?kTb ?aTk ?lTk ?cTk ?kTk ?aRw ?lRw ?cRw ?kRw ?aTx ?lTx ?cTx ?kTx ?aTy ?lTy ?cTy ?kTy ?aLi ?lLi ?cLi ?kLi ?aLw ?lLw ?cLw ?kLw ?cMC ?sfC ?cOP ?lO ?hO ?Ou ?Or ?Od ?Ol ?eAR ?eAC ?eEM ?eLE ?eMS ?eMX ?eMC ?eOu ?eOr ?eOd ?eOl ?hDC ?h0)
  (case aC => k_is)
  (case pgC => k_is)
  (case hdC => k_is)
  (case poC => k_is)
  (case saC => k_is)
  (case mkC => k_is)
  (case kcC => k_is)
  (case rdC => k_is)
  (case gaC => k_is)
  (case aD => k_is)
  (case pgD => k_is)
  (case hdD => k_is)
  (case poD => k_is)
  (case saD => k_is)
  (case mkD => k_is)
  (case kcD => k_is)
  (case rdD => k_is)
  (case gaD => k_is)
  (case cAR => k_is)
  (case cAC => k_is)
  (case cEM => k_is)
  (case cLE => k_is)
  (case cMS => k_is)
  (case nT => k_is)
  (case nR => k_is)
  (case ih => k_is)
  (case in_ => k_is)
  (case itk => k_is)
  (case im => k_is)
  (case ihD => k_is)
  (case imD => k_is)
  (case mx => k_is)
  (case b_len => k_is)
  (case b_isinstance => k_is)
  (case b_str => k_is)
  (case b_enumerate => k_is)
  (case b_set => k_is)
  (case b_zip => k_is)
  (case b_tuple => k_is)
  (case b_int => k_is)
  (case b_range => k_is)
  (case b_min => k_is)
  (case b_list => k_is)
  (case b_bool => k_is)
  (case b_sorted => k_is)
  (case b_sum => k_is)
  (case aIt => k_is)
  (case lIt => k_is)
  (case cIt => k_is)
  (case kIt => k_is)
  (case aFw => k_is)
  (case lFw => k_is)
  (case cFw => k_is)
  (case kFw => k_is)
  (case aWi => k_is)
  (case iWi => k_is)
  (case lWi => k_is)
  (case cWi => k_is)
  (case kWi => k_is)
  (case pWt => k_is)
  (case pgtWt => k_is)
  (case ptkWt => k_is)
  (case aWt => k_is)
  (case lWt => k_is)
  (case cWt => k_is)
  (case kWt => k_is)
  (case aTi => k_is)
  (case iTi => k_is)
  (case lTi => k_is)
  (case cTi => k_is)
  (case kTi => k_is)
  (case pTo => k_is)
  (case aTo => k_is)
  (case fiTo => k_is)
  (case lTo => k_is)
  (case cTo => k_is)
  (case kTo => k_is)
  (case aRs => k_is)
  (case iRs => k_is)
  (case lRs => k_is)
  (case cRs => k_is)
  (case kRs => k_is)
  (case aFc => k_is)
  (case lFc => k_is)
  (case cFc => k_is)
  (case kFc => k_is)
  (case aIr => k_is)
  (case lIr => k_is)
  (case cIr => k_is)
  (case kIr => k_is)
  (case aTd => k_is)
  (case lTd => k_is)
  (case cTd => k_is)
  (case kTd => k_is)
  (case aSl => k_is)
  (case lSl => k_is)
  (case cSl => k_is)
  (case kSl => k_is)
  (case pTr => k_is)
  (case pgtTr => k_is)
  (case ptkTr => k_is)
  (case aTr => k_is)
  (case lTr => k_is)
  (case cTr => k_is)
  (case kTr => k_is)
  (case sf => k_is)
  (case nc => k_is)
  (case nm => rfl)
  (case n1 => k_is)
  (case n2 => k_is)
  (case n3 => k_is)
  (case n4 => k_is)
  (case pMb => k_is)
  (case pgtMb => k_is)
  (case ptkMb => k_is)
  (case aMb => k_is)
  (case lMb => k_is)
  (case cMb => k_is)
  (case kMb => k_is)
  (case pWd => k_is)
  (case pgtWd => k_is)
  (case ptkWd => k_is)
  (case aWd => k_is)
  (case lWd => k_is)
  (case cWd => k_is)
  (case kWd => k_is)
  (case pHt => k_is)
  (case pgtHt => k_is)
  (case ptkHt => k_is)
  (case aHt => k_is)
  (case lHt => k_is)
  (case cHt => k_is)
  (case kHt => k_is)
  (case aNu => k_is)
  (case lNu => k_is)
  (case cNu => k_is)
  (case kNu => k_is)
  (case aCn => k_is)
  (case lCn => k_is)
  (case cCn => k_is)
  (case kCn => k_is)
  (case aLe => k_is)
  (case iLe => k_is)
  (case lLe => k_is)
  (case cLe => k_is)
  (case kLe => k_is)
  (case aAd => k_is)
  (case iAd => k_is)
  (case lAd => k_is)
  (case cAd => k_is)
  (case kAd => k_is)
  (case pCr => k_is)
  (case pgtCr => k_is)
  (case ptkCr => k_is)
  (case aCr => k_is)
  (case lCr => k_is)
  (case cCr => k_is)
  (case kCr => k_is)
  (case aLa => k_is)
  (case lLa => k_is)
  (case cLa => k_is)
  (case kLa => k_is)
  (case aRl => k_is)
  (case lRl => k_is)
  (case cRl => k_is)
  (case kRl => k_is)
  (case aHl => k_is)
  (case lHl => k_is)
  (case cHl => k_is)
  (case kHl => k_is)
  (case aTb => k_is)
  (case lTb => k_is)
  (case cTb => k_is)
  (case kTb => k_is)
  (case aTk => k_is)
  (case lTk => k_is)
  (case cTk => k_is)
  (case kTk => k_is)
  (case aRw => k_is)
  (case lRw => k_is)
  (case cRw => k_is)
  (case kRw => k_is)
  (case aTx => k_is)
  (case lTx => k_is)
  (case cTx => k_is)
  (case kTx => k_is)
  (case aTy => k_is)
  (case lTy => k_is)
  (case cTy => k_is)
  (case kTy => k_is)
  (case aLi => k_is)
  (case lLi => k_is)
  (case cLi => k_is)
  (case kLi => k_is)
  (case aLw => k_is)
  (case lLw => k_is)
  (case cLw => k_is)
  (case kLw => k_is)
  (case cMC => k_is)
  (case sfC => k_is)
  (case cOP => k_is)
  (case lO => k_is)
  (case hO => exact ⟨⟨_, _, rfl, rfl⟩, ⟨_, _, rfl, rfl⟩, ⟨_, _, rfl, rfl⟩, ⟨_, _, rfl, rfl⟩, trivial⟩)
  (case Ou => k_is)
  (case Or => k_is)
  (case Od => k_is)
  (case Ol => k_is)
  (case eAR => first | rfl | decide +kernel)
  (case eAC => first | rfl | decide +kernel)
  (case eEM => first | rfl | decide +kernel)
  (case eLE => first | rfl | decide +kernel)
  (case eMS => first | rfl | decide +kernel)
  (case eMX => first | rfl | decide +kernel)
  (case eMC => first | rfl | decide +kernel)
  (case eOu => first | rfl | decide +kernel)
  (case eOr => first | rfl | decide +kernel)
  (case eOd => first | rfl | decide +kernel)
  (case eOl => first | rfl | decide +kernel)
  (case hDC => first | decide | omega)
  (case h0 => first | decide | omega)
  (case hn => first | decide | omega)
