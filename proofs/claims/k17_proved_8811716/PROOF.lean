import PyProof.Rows.All
import Wide.All
import OpenK.AllK
import Wide.FinOn
import KE.GoesMore
import KE.KStar
import HandS.ForMost
import HandS.Star
import HandS.Walk
import HandS.SlotsOwn
import HandS.ClsMeth
import HandS.Property
import HandS.OwnEq
import KE.KOpsOwn
import HandS.Text
import HandS.Replace
import HandS.Codes
import HandS.IsInst
import HandS.SetKeys
import HandS.Comp
import PyProof.Rows.StrPadFill
import PyProof.Rows.StrStrike
import HandS.ExcInit
import HandS.Nested
import HandS.FStr
import KE.KExcSuper
import KE.KSuper
import HandS.WordsExc
import HandS.ExcIs
import HandS.ExcField
import HandS.Lambda
import KE.KExcIs
import HandS.TupSets
import PyProof.InstNe
import HandS.ExcOwn
import PyProof.ExcBaseAll.ValueError
import HandS.StrMore
import HandS.DictComp
import PyProof.StrBlock2
import PyProof.ListStr
import HandS.Dict
import KE.KMathG
import HandS.Gcd
import HandS.DictTup
import HandS.Style
import KE.KDictZip
import HandS.Conv
import HandS.SortRule
import KE.LtData
import KE.KDictCopyH
import PyProof.CollectStr
import PyProof.ConsumeS
import PyProof.MinMaxWalk
import PyProof.SeqI3
import HandS.SetBool
import HandS.More
import PyProof.CollectIter
import PyProof.WalksMore
import PyProof.Rows.TupIter
import HandS.RaiseMore
import HandS.Small
import HandS.Ends
import HandS.EndTab
import KE.SortData
import KE.KDictPairs
import HandS.Flow
import KE.KNestM
import PySem.Challenge.RW_tiltheap_k17_whole_observers_keep_the_tr
section
set_option Elab.async false
set_option maxRecDepth 100000
set_option maxHeartbeats 4000000
namespace TH
open PySem PySem.Spec PyProof.Rows L2

/-- texts with their tokens -/
abbrev Tx := List (Str × Tok)
abbrev txv (ts : Tx) : List Value := ts.map fun v => .str v.1 v.2
abbrev txo (v : Str × Tok) : Obj := { cls := .type (strIterType v.1), data := .fields #[.str v.1 v.2, .int 0 0] }
def laid (h : Heap) : Tx → Heap
  | [] => h
  | v :: r => laid (h.push (txo v)) r
def refs (n : Nat) : Nat → List Value
  | 0 => []
  | k + 1 => .ref n :: refs (n + 1) k
theorem laid_size : ∀ (ts : Tx) (h : Heap), (laid h ts).objs.size = h.objs.size + ts.length
  | [], h => rfl
  | v :: r, h => by
    show (laid (h.push (txo v)) r).objs.size = _
    rw [laid_size r, Heap.size_push, List.length_cons]
    omega
theorem laid_old : ∀ (ts : Tx) (h : Heap) (b : Addr) (o : Obj), h.get? b = some o → (laid h ts).get? b = some o
  | [], _, _, _, e => e
  | _ :: r, _, b, o, e => laid_old r _ b o (Heap.get?_push_of_some _ e)
theorem laid_at : ∀ (ts : Tx) (h : Heap) (k : Nat) (v : Str × Tok), ts[k]? = some v → (laid h ts).get? (h.objs.size + k) = some (txo v)
  | [], _, k, _, e => by simp at e
  | u :: r, h, 0, v, e => by
    have e' : u = v := by simpa using e
    subst e'
    exact laid_old r _ _ _ (Heap.get?_push_size _ rfl)
  | u :: r, h, k + 1, v, e => by
    have z := laid_at r (h.push (txo u)) k v (by simpa using e)
    rw [Heap.size_push] at z
    have e2 : h.objs.size + 1 + k = h.objs.size + (k + 1) := by omega
    rw [e2] at z
    exact z
theorem refs_length (n : Nat) : ∀ k, (refs n k).length = k := fun k => by
  induction k generalizing n with
  | zero => rfl
  | succ k ih => show (refs (n + 1) k).length + 1 = k + 1; rw [ih]
theorem refs_at : ∀ (n k i : Nat), i < k → (refs n k)[i]? = some (.ref (n + i))
  | n, 0, i, h => absurd h (Nat.not_lt_zero _)
  | n, k + 1, 0, _ => rfl
  | n, k + 1, i + 1, h => by
    have z := refs_at (n + 1) k i (Nat.lt_of_succ_lt_succ h)
    have e : n + 1 + i = n + (i + 1) := by omega
    rw [e] at z
    simpa [refs] using z

section
variable {prog : Program} {w : World} {A : Around} {E : Value → Shared → Prop}
theorem iterAll_texts : ∀ (ts : Tx) (acc : Array Value) (s : Shared) (Q : Array Value → Shared → Prop), Q (acc ++ (refs s.heap.objs.size ts.length).toArray) { s with heap := laid s.heap ts } →
    wpAny (model prog w) A (forIn (txv ts) acc fun x r => (do let y ← holding r.toList (pyIter x); pure (ForInStep.yield (r.push y)))) Q E s
  | [], acc, s, Q, h => by
    rw [txv, List.map_nil, List.forIn_nil]
    refine wpAny_pure ?_
    simpa [refs, laid] using h
  | v :: r, acc, s, Q, h => by
    rw [txv, List.map_cons, List.forIn_cons]
    refine wpAny_bind (wpAny_bind (wpAny_holding (wpAny_pyIter_strU (wpAny_pure ?_))))
    refine iterAll_texts r _ _ Q ?_
    have e : acc.push (.ref s.heap.objs.size) ++ (refs (s.heap.push (txo v)).objs.size r.length).toArray = acc ++ (refs s.heap.objs.size (r.length + 1)).toArray := by
      rw [Heap.size_push]
      apply Array.toList_inj.mp
      simp [refs]
    show Q (acc.push (.ref s.heap.objs.size) ++ (refs (s.heap.push (txo v)).objs.size r.length).toArray) _
    rw [e]
    exact h
theorem iterAll_ok (ts : Tx) {s : Shared} {Q : List Value → Shared → Prop} (h : Q (refs s.heap.objs.size ts.length) { s with heap := laid s.heap ts }) :
    wpAny (model prog w) A (Builtin.SmallTypes.iterAll (txv ts)) Q E s := by
  unfold Builtin.SmallTypes.iterAll
  refine wpAny_bind (iterAll_texts ts #[] s _ ?_)
  refine wpAny_pure ?_
  simpa using h
end
end TH
end
section
set_option Elab.async false
set_option maxRecDepth 100000
set_option maxHeartbeats 4000000
namespace TH
open PySem PySem.Spec PyProof.Rows L2

abbrev tupO (l : List Value) : Obj := { cls := .type "tuple", data := .seq l.toArray }
abbrev zipO (f0 f1 : Value) (TI TO : Addr) : Obj := { cls := .type "zip", data := .fields #[f0, f1, .bool false, .ref TI, .ref TO] }
def zheap (h : Heap) (ts : Tx) : Heap :=
  (((laid h ts).push (tupO (refs h.objs.size ts.length))).push (tupO ((refs h.objs.size ts.length).map fun _ => .none))).push (zipO .none (.bool false) (h.objs.size + ts.length) (h.objs.size + ts.length + 1))

theorem argsOk_init : ∀ (obj : Value) (ts : Tx), ts.length ≤ 8 → argsOk "object.__init__" ⟨obj :: txv ts, []⟩
  | obj, [], _ => by show argsOk "object.__init__" ⟨[obj], []⟩; unfold argsOk; kernel_rfl
  | obj, [a], _ => by show argsOk "object.__init__" ⟨[obj, _], []⟩; unfold argsOk; kernel_rfl
  | obj, [a, b], _ => by show argsOk "object.__init__" ⟨[obj, _, _], []⟩; unfold argsOk; kernel_rfl
  | obj, [a, b, c], _ => by show argsOk "object.__init__" ⟨[obj, _, _, _], []⟩; unfold argsOk; kernel_rfl
  | obj, [a, b, c, d], _ => by show argsOk "object.__init__" ⟨[obj, _, _, _, _], []⟩; unfold argsOk; kernel_rfl
  | obj, [a, b, c, d, e], _ => by show argsOk "object.__init__" ⟨[obj, _, _, _, _, _], []⟩; unfold argsOk; kernel_rfl
  | obj, [a, b, c, d, e, f], _ => by show argsOk "object.__init__" ⟨[obj, _, _, _, _, _, _], []⟩; unfold argsOk; kernel_rfl
  | obj, [a, b, c, d, e, f, g], _ => by show argsOk "object.__init__" ⟨[obj, _, _, _, _, _, _, _], []⟩; unfold argsOk; kernel_rfl
  | obj, [a, b, c, d, e, f, g, h], _ => by show argsOk "object.__init__" ⟨[obj, _, _, _, _, _, _, _, _], []⟩; unfold argsOk; kernel_rfl
  | obj, _ :: _ :: _ :: _ :: _ :: _ :: _ :: _ :: _ :: r, h => by simp at h
theorem typeCall_zip : ∀ (ts : Tx), ts.length ≤ 8 → checkTypeCall "zip" ⟨txv ts, []⟩ = pure ()
  | [], _ => by show checkTypeCall "zip" ⟨[], []⟩ = pure (); kernel_rfl
  | [a], _ => by show checkTypeCall "zip" ⟨[_], []⟩ = pure (); kernel_rfl
  | [a, b], _ => by show checkTypeCall "zip" ⟨[_, _], []⟩ = pure (); kernel_rfl
  | [a, b, c], _ => by show checkTypeCall "zip" ⟨[_, _, _], []⟩ = pure (); kernel_rfl
  | [a, b, c, d], _ => by show checkTypeCall "zip" ⟨[_, _, _, _], []⟩ = pure (); kernel_rfl
  | [a, b, c, d, e], _ => by show checkTypeCall "zip" ⟨[_, _, _, _, _], []⟩ = pure (); kernel_rfl
  | [a, b, c, d, e, f], _ => by show checkTypeCall "zip" ⟨[_, _, _, _, _, _], []⟩ = pure (); kernel_rfl
  | [a, b, c, d, e, f, g], _ => by show checkTypeCall "zip" ⟨[_, _, _, _, _, _, _], []⟩ = pure (); kernel_rfl
  | [a, b, c, d, e, f, g, h], _ => by show checkTypeCall "zip" ⟨[_, _, _, _, _, _, _, _], []⟩ = pure (); kernel_rfl
  | _ :: _ :: _ :: _ :: _ :: _ :: _ :: _ :: _ :: r, h => by simp at h
theorem newCall_zip : ∀ (ts : Tx), ts.length ≤ 8 → checkBuiltinCall "zip.__new__" ⟨.type "zip" :: txv ts, []⟩ = pure ()
  | [], _ => by show checkBuiltinCall "zip.__new__" ⟨[_], []⟩ = pure (); kernel_rfl
  | [a], _ => by show checkBuiltinCall "zip.__new__" ⟨[_, _], []⟩ = pure (); kernel_rfl
  | [a, b], _ => by show checkBuiltinCall "zip.__new__" ⟨[_, _, _], []⟩ = pure (); kernel_rfl
  | [a, b, c], _ => by show checkBuiltinCall "zip.__new__" ⟨[_, _, _, _], []⟩ = pure (); kernel_rfl
  | [a, b, c, d], _ => by show checkBuiltinCall "zip.__new__" ⟨[_, _, _, _, _], []⟩ = pure (); kernel_rfl
  | [a, b, c, d, e], _ => by show checkBuiltinCall "zip.__new__" ⟨[_, _, _, _, _, _], []⟩ = pure (); kernel_rfl
  | [a, b, c, d, e, f], _ => by show checkBuiltinCall "zip.__new__" ⟨[_, _, _, _, _, _, _], []⟩ = pure (); kernel_rfl
  | [a, b, c, d, e, f, g], _ => by show checkBuiltinCall "zip.__new__" ⟨[_, _, _, _, _, _, _, _], []⟩ = pure (); kernel_rfl
  | [a, b, c, d, e, f, g, h], _ => by show checkBuiltinCall "zip.__new__" ⟨[_, _, _, _, _, _, _, _, _], []⟩ = pure (); kernel_rfl
  | _ :: _ :: _ :: _ :: _ :: _ :: _ :: _ :: _ :: r, h => by simp at h

theorem meets_zip_new (ts : Tx) (hl : ts.length ≤ 8) :
    Meets (Builtin.«zip.__new__» ⟨.type "zip" :: txv ts, []⟩) (fun _ R s => R (.ok (.ret (.ref (s.heap.objs.size + ts.length + 2)))) { s with heap := zheap s.heap ts }) :=
  .of_wp fun prog w A R s h => by
    obtain ⟨hp, g, d, tk, os⟩ := s
    have hsub := sub_zip
    have q1 : ∀ {A' : Around} {E : Value → Shared → Prop} {Q : List Value → Shared → Prop}, Q (refs hp.objs.size ts.length) ⟨laid hp ts, g, d, tk, os⟩ → wpAny (model prog w) A' (Builtin.SmallTypes.iterAll (txv ts)) Q E ⟨hp, g, d, tk, os⟩ :=
      fun q => iterAll_ok ts q
    have sz1 : (refs hp.objs.size ts.length).length ≤ sizeLine := by rw [refs_length]; exact Nat.le_trans hl (by decide)
    unfold Builtin.«zip.__new__»
    wp_walk using q1
    refine ⟨_, rfl, ?_⟩
    have z1 : (laid hp ts).objs.size = hp.objs.size + ts.length := laid_size ts hp
    have z2 : ((laid hp ts).push (tupO (refs hp.objs.size ts.length))).objs.size = hp.objs.size + ts.length + 1 := by rw [Heap.size_push, z1]
    have z3 : (((laid hp ts).push (tupO (refs hp.objs.size ts.length))).push (tupO ((refs hp.objs.size ts.length).map fun _ => .none))).objs.size = hp.objs.size + ts.length + 2 := by rw [Heap.size_push, z2]
    rw [z1, z2, z3]
    exact h

/-- what stands behind zip(..) over texts -/
structure ZAt (h : Heap) (b : Nat) (ts : Tx) (f0 f1 : Value) (i : Nat) : Prop where
  zip : h.get? (b + ts.length + 2) = some (zipO f0 f1 (b + ts.length) (b + ts.length + 1))
  its : h.get? (b + ts.length) = some (tupO (refs b ts.length))
  txt : ∀ (k : Nat) (v : Str × Tok), ts[k]? = some v → h.IsStrIter (b + k) (strIterType v.1) v.1 v.2 i
theorem zheap_old {h : Heap} {ts : Tx} {c : Addr} {o : Obj} (e : h.get? c = some o) : (zheap h ts).get? c = some o :=
  Heap.get?_push_of_some _ (Heap.get?_push_of_some _ (Heap.get?_push_of_some _ (laid_old ts h c o e)))
theorem zheap_at (h : Heap) (ts : Tx) : ZAt (zheap h ts) h.objs.size ts .none (.bool false) 0 ∧ ∃ l, l.length = ts.length ∧ (zheap h ts).get? (h.objs.size + ts.length + 1) = some (tupO l) := by
  have z1 : (laid h ts).objs.size = h.objs.size + ts.length := laid_size ts h
  have z2 : ((laid h ts).push (tupO (refs h.objs.size ts.length))).objs.size = h.objs.size + ts.length + 1 := by rw [Heap.size_push, z1]
  have z3 : (((laid h ts).push (tupO (refs h.objs.size ts.length))).push (tupO ((refs h.objs.size ts.length).map fun _ => .none))).objs.size = h.objs.size + ts.length + 2 := by rw [Heap.size_push, z2]
  have e1 : (zheap h ts).get? (h.objs.size + ts.length) = some (tupO (refs h.objs.size ts.length)) := by
    rw [← z1]
    exact Heap.get?_push_of_some _ (Heap.get?_push_of_some _ (Heap.get?_push_size _ rfl))
  have e2 : (zheap h ts).get? (h.objs.size + ts.length + 1) = some (tupO ((refs h.objs.size ts.length).map fun _ => .none)) := by
    rw [← z2]
    exact Heap.get?_push_of_some _ (Heap.get?_push_size _ rfl)
  have e3 : (zheap h ts).get? (h.objs.size + ts.length + 2) = some (zipO .none (.bool false) (h.objs.size + ts.length) (h.objs.size + ts.length + 1)) := by
    rw [← z3]
    exact Heap.get?_push_size _ rfl
  refine ⟨⟨e3, e1, fun k v hv => ?_⟩, _, ?_, e2⟩
  · exact ⟨_, Heap.get?_push_of_some _ (Heap.get?_push_of_some _ (Heap.get?_push_of_some _ (laid_at ts h k v hv))), rfl, rfl⟩
  · rw [List.length_map, refs_length]

theorem call_zip {prog : Program} {w : World} {A : Around} {E : Value → Shared → Prop} {s : Shared} {Q : Value → Shared → Prop} (ts : Tx) (hl : ts.length ≤ 8)
    (h : Q (.ref (s.heap.objs.size + ts.length + 2)) { s with heap := zheap s.heap ts }) : wpAny (model prog w) A (call (.type "zip") (txv ts)) Q E s := by
  refine callType_new F.called_zip (by decide) (typeCall_zip ts hl) (newCall_zip ts hl) (fun obj => argsOk_init obj ts hl) F.entry_zip_new (meets_zip_new ts hl) ?_
  have e3 := (zheap_at s.heap ts).1.zip
  exact ⟨⟨_, e3, rfl⟩, h⟩
end TH
end
section
set_option Elab.async false
set_option maxRecDepth 100000
set_option maxHeartbeats 4000000
namespace TH
open PySem PySem.Spec PyProof.Rows L2
theorem nn {x y : Nat} (h : x < y ∨ y < x) : x ≠ y := fun e => by subst e; omega
section
variable {prog : Program} {w : World} {A : Around} {E : Value → Shared → Prop}
/-- a loop over a list of the model's own, by what holds ahead of its k-th turn -/
theorem loop_inv {α β : Type} {f : α → β → Sem (ForInStep β)} {Q : β → Shared → Prop} (I : Nat → β → Shared → Prop) : ∀ (xs : List α) (n : Nat) (y : β) (s : Shared), I n y s →
    (∀ k x y s, xs[k]? = some x → I (n + k) y s → wpAny (model prog w) A (f x y) (fun r s' => ∃ y', r = .yield y' ∧ I (n + k + 1) y' s') E s) →
    (∀ y s, I (n + xs.length) y s → Q y s) → wpAny (model prog w) A (forIn xs y f) Q E s
  | [], n, y, s, h0, _, he => by
    rw [List.forIn_nil]
    exact wpAny_pure (he y s h0)
  | x :: r, n, y, s, h0, hs, he => by
    rw [List.forIn_cons]
    refine wpAny_bind (wpAny_mono (hs 0 x y s rfl h0) (fun r1 s1 hr => ?_) fun _ _ z => z)
    obtain ⟨y1, rfl, h1⟩ := hr
    refine loop_inv I r (n + 1) y1 s1 h1 (fun k x' y' s' hk hI => ?_) fun y' s' hI => he y' s' ?_
    · have z := hs (k + 1) x' y' s' (by simpa using hk) (by
        have e : n + 1 + k = n + (k + 1) := by omega
        rw [e] at hI
        exact hI)
      have e : n + (k + 1) + 1 = n + 1 + k + 1 := by omega
      rw [e] at z
      exact z
    · have e : n + 1 + r.length = n + (r.length + 1) := by omega
      rw [e] at hI
      exact hI

/-- the signs of the texts at place i -/
def ColAt (ts : Tx) (i : Nat) (l : List Value) : Prop := l.length = ts.length ∧ ∀ (k : Nat) (v : Str × Tok), ts[k]? = some v → ∃ (c : Nat) (u : Tok), v.1.cps[i]? = some c ∧ l[k]? = some (Value.str ⟨#[c]⟩ u)
/-- outside b .. b + n all stands -/
def Out (b n : Nat) (h h' : Heap) : Prop := h'.objs.size = h.objs.size ∧ ∀ (c : Nat) (o : Obj), (c < b ∨ b + n < c) → h.get? c = some o → h'.get? c = some o
/-- k of the iterators have gone on -/
structure Mid (hp : Heap) (b : Nat) (ts : Tx) (f0 : Value) (i k : Nat) (h : Heap) : Prop where
  out : Out b (ts.length + 2) hp h
  zip : ∃ f1, h.get? (b + ts.length + 2) = some (zipO f0 f1 (b + ts.length) (b + ts.length + 1))
  its : h.get? (b + ts.length) = some (tupO (refs b ts.length))
  txt : ∀ (j : Nat) (v : Str × Tok), ts[j]? = some v → h.IsStrIter (b + j) (strIterType v.1) v.1 v.2 (if j < k then i + 1 else i)
theorem strIter_other {h h' : Heap} {a c : Addr} {ty : String} {x : Str} {t : Tok} {i : Nat} (q : h.IsStrIter a ty x t i) (sb : Heap.SameBut c h h') (hne : a ≠ c) : h'.IsStrIter a ty x t i := by
  obtain ⟨o, ho, r⟩ := q
  exact ⟨o, (sb.2 a hne).trans ho, r⟩
theorem Mid.step {hp h h' : Heap} {b : Nat} {ts : Tx} {f0 : Value} {i k : Nat} {v : Str × Tok} (M : Mid hp b ts f0 i k h) (hk : ts[k]? = some v) (sb : Heap.SameBut (b + k) h h') (st : h'.IsStrIter (b + k) (strIterType v.1) v.1 v.2 (i + 1)) : Mid hp b ts f0 i (k + 1) h' := by
  have hkl : k < ts.length := (List.getElem?_eq_some_iff.mp hk).1
  obtain ⟨f1, hz⟩ := M.zip
  refine ⟨⟨sb.1.trans M.out.1, fun c o hc e => (sb.2 c (nn (by omega))).trans (M.out.2 c o hc e)⟩, ⟨f1, (sb.2 (b + ts.length + 2) (nn (by omega))).trans hz⟩, (sb.2 (b + ts.length) (nn (by omega))).trans M.its, fun j u hj => ?_⟩
  by_cases hjk : j = k
  · subst hjk
    rw [if_pos (Nat.lt_succ_self _)]
    rw [hk] at hj
    cases hj
    exact st
  · have z := strIter_other (M.txt j u hj) sb (nn (x := b + j) (y := b + k) (by omega))
    by_cases hlt : j < k
    · rw [if_pos hlt] at z
      rw [if_pos (show j < k + 1 by omega)]
      exact z
    · rw [if_neg hlt] at z
      rw [if_neg (show ¬ j < k + 1 by omega)]
      exact z
theorem Mid.other {hp h h' : Heap} {b : Nat} {ts : Tx} {f0 : Value} {i k : Nat} (M : Mid hp b ts f0 i k h) (sb : Heap.SameBut (b + ts.length + 1) h h') : Mid hp b ts f0 i k h' := by
  obtain ⟨f1, hz⟩ := M.zip
  refine ⟨⟨sb.1.trans M.out.1, fun c o hc e => (sb.2 c (nn (by omega))).trans (M.out.2 c o hc e)⟩, ⟨f1, (sb.2 (b + ts.length + 2) (nn (by omega))).trans hz⟩, (sb.2 (b + ts.length) (nn (by omega))).trans M.its, fun j u hj => ?_⟩
  have hjl : j < ts.length := (List.getElem?_eq_some_iff.mp hj).1
  exact strIter_other (M.txt j u hj) sb (nn (x := b + j) (y := b + ts.length + 1) (by omega))
theorem Mid.start {hp h : Heap} {b : Nat} {ts : Tx} {f0 g0 f1 : Value} {i : Nat} (Z : ZAt hp b ts f0 f1 i) (sb : Heap.SameBut (b + ts.length + 2) hp h) (hz : ∃ f1, h.get? (b + ts.length + 2) = some (zipO g0 f1 (b + ts.length) (b + ts.length + 1))) : Mid hp b ts g0 i 0 h := by
  refine ⟨⟨sb.1, fun c o hc e => (sb.2 c (nn (by omega))).trans e⟩, hz, (sb.2 (b + ts.length) (nn (by omega))).trans Z.its, fun j u hj => ?_⟩
  have hjl : j < ts.length := (List.getElem?_eq_some_iff.mp hj).1
  rw [if_neg (Nat.not_lt_zero _)]
  exact strIter_other (Z.txt j u hj) sb (nn (x := b + j) (y := b + ts.length + 2) (by omega))
theorem Mid.fin {hp h : Heap} {b : Nat} {ts : Tx} {f0 : Value} {i : Nat} (M : Mid hp b ts f0 i ts.length h) : ∃ f1, ZAt h b ts f0 f1 (i + 1) := by
  obtain ⟨f1, hz⟩ := M.zip
  refine ⟨f1, hz, M.its, fun j v hj => ?_⟩
  have z := M.txt j v hj
  rw [if_pos (List.getElem?_eq_some_iff.mp hj).1] at z
  exact z
/-- the k-th iterator goes on -/
theorem draw_ok {hp : Heap} {s : Shared} {b : Nat} {ts : Tx} {f0 : Value} {i k : Nat} {v : Str × Tok} {Q : Value → Shared → Prop} (hh : A.handled = none) (M : Mid hp b ts f0 i k s.heap) (hk : ts[k]? = some v) (hi : i < v.1.cps.size)
    (hQ : ∀ c u h' tk, v.1.cps[i]? = some c → Mid hp b ts f0 i (k + 1) h' → Heap.SameBut (b + k) s.heap h' → Q (.str ⟨#[c]⟩ u) { s with heap := h', toks := tk }) :
    wpAny (model prog w) A (Builtin.SmallTypes.nextOf (.ref (b + k))) Q E s := by
  have st := M.txt k v hk
  rw [if_neg (Nat.lt_irrefl _)] at st
  refine (Draws.text (prog := prog) (w := w) hh (b + k) v.1 v.2).item i s _ _ hi st fun x h' tk hx st' sb => ?_
  obtain ⟨c, u, hc, rfl⟩ := hx
  exact hQ c u h' tk hc (M.step hk sb st') sb
end
end TH
end
section
set_option Elab.async false
set_option maxRecDepth 100000
set_option maxHeartbeats 4000000
namespace TH
open PySem PySem.Spec PyProof.Rows L2
section
variable {prog : Program} {w : World} {A : Around} {E : Value → Shared → Prop}
theorem refs_ne {b n : Nat} (h : 0 < n) : (refs b n).toArray.isEmpty = false := by
  cases n with
  | zero => exact absurd h (Nat.lt_irrefl _)
  | succ n => rfl
theorem refs_get {b n k : Nat} {x : Value} (h : (refs b n)[k]? = some x) : k < n ∧ x = .ref (b + k) := by
  have hk : k < n := by
    have z := (List.getElem?_eq_some_iff.mp h).1
    rw [refs_length] at z
    exact z
  have z := refs_at b n k hk
  rw [z] at h
  exact ⟨hk, (Option.some.inj h).symm⟩
theorem alive_any {s : Shared} {a : Addr} {Q : Option Obj → Shared → Prop} (h : Q (s.heap.get? a) s) : wpAny (model prog w) A (loadIfAlive a) Q E s := fun _ _ _ => h
/-- what stands between the turns -/
structure Bet (h : Heap) (b : Nat) (ts : Tx) (i : Nat) : Prop where
  at_ : ∃ (f0 : Value) (fb : Bool), ZAt h b ts f0 (.bool fb) i ∧ (f0 = .none ∨ ∃ T : Nat, f0 = rawInt T)
  own : ∃ l : List Value, h.get? (b + ts.length + 1) = some (tupO l) ∧ l.length = ts.length
/-- what a turn hands on -/
def Nxt (hp : Heap) (g : Array GenState) (d : Drawn) (os : OsState) (b : Nat) (ts : Tx) (i : Nat) (Q : Value → Shared → Prop) : Prop :=
  ∀ (us : List Value) (h' : Heap) (tk' : Nat), ColAt ts i us → Bet h' b ts (i + 1) → h'.get? hp.objs.size = some (tupO us) →
    (∀ (c : Nat) (o : Obj), (c < b ∨ b + (ts.length + 2) < c) → hp.get? c = some o → h'.get? c = some o) → Q (.ref hp.objs.size) ⟨h', g, d, tk', os⟩
theorem is_free {s : Shared} {b : Nat} {ts : Tx} {i : Nat} {f0 : Value} {fb : Bool} {Q : Bool → Shared → Prop} (Z : ZAt s.heap b ts f0 (.bool fb) i) (hf : f0 = .none ∨ ∃ T : Nat, f0 = rawInt T)
    (h1 : Q true s) (h2 : ∀ (h' : Heap), Heap.SameBut (b + ts.length + 2) s.heap h' → h'.get? (b + ts.length + 2) = some (zipO f0 (.bool true) (b + ts.length) (b + ts.length + 1)) → Q false { s with heap := h' }) :
    wpAny (model prog w) A (Builtin.SmallTypes.ownedTupleIsFree (.ref (b + ts.length + 2))) Q E s := by
  unfold Builtin.SmallTypes.ownedTupleIsFree
  refine wpAny_bind (wpAny_field Z.zip rfl (x := f0) rfl ?_)
  rcases hf with rfl | ⟨T, rfl⟩
  · exact wpAny_pure h1
  · show wpAny _ _ (loadIfAlive ((T : Int).toNat) >>= _) _ _ _
    rw [Int.toNat_natCast]
    refine wpAny_bind (alive_any ?_)
    cases hT : s.heap.get? T with
    | none => exact wpAny_pure h1
    | some o =>
      simp only [Option.isNone_some, Bool.false_eq_true, if_false]
      refine wpAny_bind (wpAny_field Z.zip rfl (x := .bool fb) rfl ?_)
      cases fb with
      | true => exact wpAny_pure (h2 s.heap (Heap.SameBut.refl _ _) Z.zip)
      | false => exact wpAny_bind (wpAny_setField_rec Z.zip (by simp) fun h' hz hs => wpAny_pure (h2 h' hs hz))
/-- a turn -/
theorem next_item {hp : Heap} {g : Array GenState} {d : Drawn} {tk : Nat} {os : OsState} {b : Nat} {ts : Tx} {i : Nat} {Q : Value → Shared → Prop} (hh : A.handled = none) (B : Bet hp b ts i) (h1 : 0 < ts.length) (h8 : ts.length ≤ 8)
    (hi : ∀ (k : Nat) (v : Str × Tok), ts[k]? = some v → i < v.1.cps.size) (hQ : Nxt hp g d os b ts i Q) :
    wpAny (model prog w) A (Builtin.«zip.__next__» ⟨[.ref (b + ts.length + 2)], []⟩) (fun fin s' => ∃ v, fin = .done (.ret v) ∧ Q v s') E ⟨hp, g, d, tk, os⟩ := by
  obtain ⟨⟨f0, fb, Z, hf⟩, l, hT, hl⟩ := B
  show wpAny _ _ (field (.ref _) 2 >>= _) _ _ _
  refine wpAny_bind (wpAny_field Z.zip rfl (x := .bool false) rfl ?_)
  show wpAny _ _ (field (.ref _) 3 >>= _) _ _ _
  refine wpAny_bind (wpAny_field Z.zip rfl (x := .ref (b + ts.length)) rfl ?_)
  refine wpAny_bind (wpAny_seqItems Z.its rfl ?_)
  dsimp only
  rw [if_neg (by rw [refs_ne h1]; exact Bool.false_ne_true)]
  refine wpAny_bind (is_free Z hf ?_ fun hA hs0 hz0 => ?_)
  · rw [if_pos rfl]
    refine wpAny_bind (wpAny_rule ?_)
    refine wpAny_bind (wpAny_field Z.zip rfl (x := .ref (b + ts.length + 1)) rfl ?_)
    refine wpAny_bind (wpAny_setField_rec Z.zip (by simp) fun g0 hz0 hs0 => ?_)
    replace hs0 : Heap.SameBut (b + ts.length + 2) hp g0 := hs0
    have M0 : Mid hp b ts .ellipsis i 0 g0 := Mid.start Z hs0 ⟨_, hz0⟩
    have hT0 : g0.get? (b + ts.length + 1) = some (tupO l) := (hs0.2 (b + ts.length + 1) (nn (by omega))).trans hT
    refine wpAny_bind (loop_inv (I := fun k y s => y = (none, ()) ∧ (∃ (h : Heap) (tk' : Nat) (us : List Value), s = ⟨h, g, d, tk', os⟩ ∧ Mid hp b ts .ellipsis i k h ∧ h.get? (b + ts.length + 1) = some (tupO us) ∧ us.length = ts.length ∧
        ∀ (j : Nat) (v : Str × Tok), j < k → ts[j]? = some v → ∃ (c : Nat) (u : Tok), v.1.cps[i]? = some c ∧ us[j]? = some (Value.str ⟨#[c]⟩ u))) _ 0 _ _ ⟨rfl, g0, tk, l, rfl, M0, hT0, hl, fun j v hj => absurd hj (Nat.not_lt_zero _)⟩ ?_ ?_)
    · rintro k ⟨x, k'⟩ y s hk ⟨rfl, h, tk', us, rfl, M, hU, hul, hgot⟩
      simp only [Nat.zero_add] at M hgot ⊢
      rw [List.getElem?_zipIdx] at hk
      cases hx : (refs b ts.length)[k]? with
      | none => simp [hx] at hk
      | some x' =>
        simp [hx] at hk
        obtain ⟨e1, e2⟩ := hk
        obtain ⟨hkl, ex⟩ := refs_get hx
        subst e1
        subst ex
        subst e2
        have hv : ts[k]? = some ts[k] := List.getElem?_eq_getElem hkl
        refine wpAny_bind (wpAny_onRaise ?_)
        show wpAny _ _ (Builtin.SmallTypes.nextOf (.ref (b + k)) >>= _) _ _ ⟨h, g, d, tk', os⟩
        refine wpAny_bind (draw_ok hh M hv (hi k _ hv) fun c u h' tk2 hc M' sb => wpAny_pure ?_)
        have hU' : h'.get? (b + ts.length + 1) = some (tupO us) := (sb.2 (b + ts.length + 1) (nn (by omega))).trans hU
        refine wpAny_bind (wpAny_seqItems (s := ⟨h', g, d, tk2, os⟩) hU' rfl ?_)
        refine wpAny_bind (wpAny_updateSeq (s := ⟨h', g, d, tk2, os⟩) hU' rfl ?_)
        refine wpAny_bind (wpAny_letGo (wpAny_pure ⟨_, rfl, rfl, _, _, us.set k (.str ⟨#[c]⟩ u), rfl, M'.other (Heap.SameBut.update ..), ?_, ?_, ?_⟩))
        · rw [Heap.get?_update_self _ hU' rfl]
          simp [Obj.mapSeq]
        · rw [List.length_set]
          exact hul
        · intro j v hj hjv
          by_cases hjk : j = k
          · subst hjk
            rw [hv] at hjv
            cases hjv
            exact ⟨c, u, hc, List.getElem?_set_self (by rw [hul]; exact hkl)⟩
          · obtain ⟨c', u', e1, e2⟩ := hgot j v (by omega) hjv
            exact ⟨c', u', e1, by rw [List.getElem?_set_ne (fun e => hjk e.symm)]; exact e2⟩
    · rintro y s ⟨rfl, h, tk', us, rfl, M, hU, hul, hgot⟩
      have el : 0 + (refs b ts.length).toArray.toList.zipIdx.length = ts.length := by
        simp [refs_length]
      rw [el] at M hgot
      refine wpAny_bind (wpAny_seqItems (s := ⟨h, g, d, tk', os⟩) hU rfl ?_)
      refine wpAny_bind (wpAny_newTuple ?_ (by simp; rw [hul]; exact Nat.le_trans h8 (by decide)))
      obtain ⟨f1, Z1⟩ := M.fin
      have hsz : h.objs.size = hp.objs.size := M.out.1
      have hz1 : (h.push (tupO us)).get? (b + ts.length + 2) = some (zipO .ellipsis f1 (b + ts.length) (b + ts.length + 1)) := Heap.get?_push_of_some _ Z1.zip
      have hzl : b + ts.length + 2 < h.objs.size := Heap.lt_size Z1.zip
      show wpAny _ _ (Builtin.SmallTypes.ownedTupleHandOut (.ref _) (.ref h.objs.size) >>= _) _ _ ⟨h.push (tupO us), g, d, tk', os⟩
      refine wpAny_bind ?_
      unfold Builtin.SmallTypes.ownedTupleHandOut
      refine wpAny_bind (wpAny_setField_rec hz1 (by simp) fun h7 hz7 hs7 => ?_)
      replace hz7 : h7.get? (b + ts.length + 2) = some (zipO (rawInt h.objs.size) f1 (b + ts.length) (b + ts.length + 1)) := hz7
      replace hs7 : Heap.SameBut (b + ts.length + 2) (h.push (tupO us)) h7 := hs7
      refine wpAny_setField_rec hz7 (by simp) fun h8' hz8 hs8 => ?_
      replace hz8 : h8'.get? (b + ts.length + 2) = some (zipO (rawInt h.objs.size) (.bool false) (b + ts.length) (b + ts.length + 1)) := hz8
      replace hs8 : Heap.SameBut (b + ts.length + 2) h7 h8' := hs8
      have up : ∀ (c : Nat) (o : Obj), c ≠ b + ts.length + 2 → h.get? c = some o → h8'.get? c = some o := fun c o hc e => (hs8.2 c hc).trans ((hs7.2 c hc).trans (Heap.get?_push_of_some _ e))
      refine wpAny_pure ⟨_, rfl, ?_⟩
      rw [hsz] at hz8 ⊢
      refine hQ us h8' tk' ⟨hul, fun k v hk => hgot k v (List.getElem?_eq_some_iff.mp hk).1 hk⟩ ⟨⟨_, false, ⟨hz8, up _ _ (nn (by omega)) Z1.its, fun k v hk => ?_⟩, .inr ⟨_, rfl⟩⟩, _, up _ _ (nn (by omega)) hU, hul⟩ ?_ fun c o hc e => ?_
      · have hkl : k < ts.length := (List.getElem?_eq_some_iff.mp hk).1
        obtain ⟨o, ho, r⟩ := Z1.txt k v hk
        exact ⟨o, up _ _ (nn (x := b + k) (y := b + ts.length + 2) (by omega)) ho, r⟩
      · rw [← hsz]
        exact (hs8.2 h.objs.size (nn (by omega))).trans ((hs7.2 h.objs.size (nn (by omega))).trans (Heap.get?_push_size _ rfl))
      · exact up c o (nn (by omega)) (M.out.2 c o hc e)
  · rw [if_neg Bool.false_ne_true]
    have M0 : Mid hp b ts f0 i 0 hA := Mid.start Z hs0 ⟨_, hz0⟩
    have hT0 : hA.get? (b + ts.length + 1) = some (tupO l) := (hs0.2 (b + ts.length + 1) (nn (by omega))).trans hT
    have hz0' : hA.get? (b + ts.length + 2) = some (zipO f0 (.bool true) (b + ts.length) (b + ts.length + 1)) := hz0
    dsimp only
    rw [List.forIn_toArray]
    refine wpAny_bind (loop_inv (I := fun k y s => ∃ (h : Heap) (tk' : Nat) (us : List Value), y = (none, us.toArray) ∧ s = ⟨h, g, d, tk', os⟩ ∧ Mid hp b ts f0 i k h ∧ h.get? (b + ts.length + 2) = some (zipO f0 (.bool true) (b + ts.length) (b + ts.length + 1)) ∧
        h.get? (b + ts.length + 1) = some (tupO l) ∧ us.length = k ∧
        ∀ (j : Nat) (v : Str × Tok), j < k → ts[j]? = some v → ∃ (c : Nat) (u : Tok), v.1.cps[i]? = some c ∧ us[j]? = some (Value.str ⟨#[c]⟩ u)) _ 0 _ _ ⟨hA, tk, [], rfl, rfl, M0, hz0', hT0, rfl, fun j v hj => absurd hj (Nat.not_lt_zero _)⟩ ?_ ?_)
    · rintro k x y s hk ⟨h, tk', us, rfl, rfl, M, hz, hU, hul, hgot⟩
      simp only [Nat.zero_add] at M hgot hul ⊢
      obtain ⟨hkl, ex⟩ := refs_get hk
      subst ex
      have hv : ts[k]? = some ts[k] := List.getElem?_eq_getElem hkl
      refine wpAny_bind (wpAny_holding ?_)
      show wpAny _ _ (Builtin.SmallTypes.nextOf (.ref (b + k)) >>= _) _ _ ⟨h, g, d, tk', os⟩
      refine wpAny_bind (draw_ok hh M hv (hi k _ hv) fun c u h' tk2 hc M' sb => wpAny_pure ?_)
      refine wpAny_pure ⟨_, rfl, h', tk2, us ++ [.str ⟨#[c]⟩ u], by simp, rfl, M', (sb.2 (b + ts.length + 2) (nn (by omega))).trans hz, (sb.2 (b + ts.length + 1) (nn (by omega))).trans hU, by rw [List.length_append, hul]; rfl, fun j v hj hjv => ?_⟩
      by_cases hjk : j = k
      · subst hjk
        rw [hv] at hjv
        cases hjv
        exact ⟨c, u, hc, by rw [List.getElem?_append_right (by omega), hul]; simp⟩
      · obtain ⟨c', u', e1, e2⟩ := hgot j v (by omega) hjv
        exact ⟨c', u', e1, by rw [List.getElem?_append_left (by omega)]; exact e2⟩
    · rintro y s ⟨h, tk', us, rfl, rfl, M, hz, hU, hul, hgot⟩
      have el : 0 + (refs b ts.length).length = ts.length := by
        simp [refs_length]
      rw [el] at M hgot hul
      refine wpAny_bind (wpAny_newTuple (wpAny_pure ⟨_, rfl, ?_⟩) (by simp; rw [hul]; exact Nat.le_trans h8 (by decide)))
      obtain ⟨f1, Z1⟩ := M.fin
      have hsz : h.objs.size = hp.objs.size := M.out.1
      have hzl : b + ts.length + 2 < h.objs.size := Heap.lt_size Z1.zip
      have up : ∀ (c : Nat) (o : Obj), h.get? c = some o → (h.push (tupO us)).get? c = some o := fun c o e => Heap.get?_push_of_some _ e
      show Q (.ref h.objs.size) ⟨h.push (tupO us), g, d, tk', os⟩
      have hnew : (h.push (tupO us)).get? h.objs.size = some (tupO us) := Heap.get?_push_size _ rfl
      rw [hsz] at hnew ⊢
      refine hQ us _ tk' ⟨hul, fun k v hk => hgot k v (List.getElem?_eq_some_iff.mp hk).1 hk⟩ ⟨⟨_, true, ⟨up _ _ hz, up _ _ Z1.its, fun k v hk => ?_⟩, hf⟩, _, up _ _ hU, hl⟩ hnew fun c o hc e => up c o (M.out.2 c o hc e)
      obtain ⟨o, ho, r⟩ := Z1.txt k v hk
      exact ⟨o, up _ _ ho, r⟩
end
end TH
end
section
set_option Elab.async false
set_option maxRecDepth 100000
set_option maxHeartbeats 4000000
namespace TH
open PySem PySem.Spec PyProof.Rows L2
section
variable {prog : Program} {w : World} {A : Around} {E : Value → Shared → Prop}
theorem loop_first {α β : Type} {f : α → β → Sem (ForInStep β)} {Q : β → Shared → Prop} {x : α} {r : List α} {y : β} {s : Shared} (h : wpAny (model prog w) A (f x y) (fun _ _ => False) E s) : wpAny (model prog w) A (forIn (x :: r) y f) Q E s := by
  rw [List.forIn_cons]
  exact wpAny_bind (wpAny_mono h (fun _ _ z => z.elim) fun _ _ z => z)
/-- the first iterator is at its end -/
theorem draw_end {s : Shared} {a : Addr} {v : Str × Tok} {Q : Value → Shared → Prop} (hh : A.handled = none) (st : s.heap.IsStrIter a (strIterType v.1) v.1 v.2 v.1.cps.size)
    (hE : ∀ (h' : Heap) (e : Addr), Heap.ExtBut a s.heap h' → (∃ o, h'.get? e = some o ∧ o.cls = .type "StopIteration") → E (.ref e) { s with heap := h' }) : wpAny (model prog w) A (Builtin.SmallTypes.nextOf (.ref a)) Q E s :=
  (Draws.text (prog := prog) (w := w) hh a v.1 v.2).done s _ _ st hE
theorem next_end {hp : Heap} {g : Array GenState} {d : Drawn} {tk : Nat} {os : OsState} {b : Nat} {v : Str × Tok} {ts : Tx} {Q : Fin → Shared → Prop} (hh : A.handled = none) (B : Bet hp b (v :: ts) v.1.cps.size)
    (hE : ∀ (h' : Heap) (e : Addr), (∀ (c : Nat) (o : Obj), (c < b ∨ b + ((v :: ts).length + 2) < c) → hp.get? c = some o → h'.get? c = some o) → (∃ o, h'.get? e = some o ∧ o.cls = .type "StopIteration") → E (.ref e) ⟨h', g, d, tk, os⟩) :
    wpAny (model prog w) A (Builtin.«zip.__next__» ⟨[.ref (b + (v :: ts).length + 2)], []⟩) Q E ⟨hp, g, d, tk, os⟩ := by
  obtain ⟨⟨f0, fb, Z, hf⟩, l, hT, hl⟩ := B
  show wpAny _ _ (field (.ref _) 2 >>= _) _ _ _
  refine wpAny_bind (wpAny_field Z.zip rfl (x := .bool false) rfl ?_)
  show wpAny _ _ (field (.ref _) 3 >>= _) _ _ _
  refine wpAny_bind (wpAny_field Z.zip rfl (x := .ref (b + (v :: ts).length)) rfl ?_)
  refine wpAny_bind (wpAny_seqItems Z.its rfl ?_)
  dsimp only
  rw [if_neg (by rw [refs_ne (by simp)]; exact Bool.false_ne_true)]
  refine wpAny_bind (is_free Z hf ?_ fun hA hs0 hz0 => ?_)
  · rw [if_pos rfl]
    refine wpAny_bind (wpAny_rule ?_)
    refine wpAny_bind (wpAny_field Z.zip rfl (x := .ref (b + (v :: ts).length + 1)) rfl ?_)
    refine wpAny_bind (wpAny_setField_rec Z.zip (by simp) fun g0 hz0 hs0 => ?_)
    replace hs0 : Heap.SameBut (b + (v :: ts).length + 2) hp g0 := hs0
    have st := strIter_other (Z.txt 0 v rfl) hs0 (nn (x := b + 0) (y := b + (v :: ts).length + 2) (by omega))
    refine wpAny_bind ?_
    show wpAny _ _ (forIn ((Value.ref b, 0) :: (refs (b + 1) ts.length).zipIdx 1) _ _) _ _ _
    refine loop_first (wpAny_bind (wpAny_onRaise ?_))
    show wpAny _ _ (Builtin.SmallTypes.nextOf (.ref (b + 0)) >>= _) _ _ ⟨g0, g, d, tk, os⟩
    refine wpAny_bind (draw_end hh st fun q e hq he => ?_)
    replace hq : Heap.ExtBut (b + 0) g0 q := hq
    obtain ⟨oe, hoe, hce⟩ := he
    have hzq : q.get? (b + (v :: ts).length + 2) = some (zipO .ellipsis (.bool fb) (b + (v :: ts).length) (b + (v :: ts).length + 1)) := hq _ _ (nn (x := b + (v :: ts).length + 2) (y := b + 0) (by omega)) hz0
    have hez : e ≠ b + (v :: ts).length + 2 := fun x => by subst x; rw [hzq] at hoe; cases hoe; simp at hce
    refine wpAny_setField_rec (s := ⟨q, g, d, tk, os⟩) hzq (by simp) fun q' _ hq' => ?_
    replace hq' : Heap.SameBut (b + (v :: ts).length + 2) q q' := hq'
    exact hE q' e (fun c o hc x => (hq'.2 c (nn (by omega))).trans (hq _ _ (nn (x := c) (y := b + 0) (by omega)) ((hs0.2 c (nn (by omega))).trans x))) ⟨oe, (hq'.2 e hez).trans hoe, hce⟩
  · rw [if_neg Bool.false_ne_true]
    replace hs0 : Heap.SameBut (b + (v :: ts).length + 2) hp hA := hs0
    have st := strIter_other (Z.txt 0 v rfl) hs0 (nn (x := b + 0) (y := b + (v :: ts).length + 2) (by omega))
    dsimp only
    rw [List.forIn_toArray]
    refine wpAny_bind ?_
    show wpAny _ _ (forIn (Value.ref b :: refs (b + 1) ts.length) _ _) _ _ _
    refine loop_first (wpAny_bind (wpAny_holding ?_))
    show wpAny _ _ (Builtin.SmallTypes.nextOf (.ref (b + 0)) >>= _) _ _ ⟨hA, g, d, tk, os⟩
    refine wpAny_bind (draw_end hh st fun q e hq he => ?_)
    replace hq : Heap.ExtBut (b + 0) hA q := hq
    exact hE q e (fun c o hc x => hq _ _ (nn (x := c) (y := b + 0) (by omega)) ((hs0.2 c (nn (by omega))).trans x)) he
theorem pyNext_item {s : Shared} {b : Nat} {ts : Tx} {i : Nat} {Q : Option Value → Shared → Prop} (hh : A.handled = none) (B : Bet s.heap b ts i) (h1 : 0 < ts.length) (h8 : ts.length ≤ 8)
    (hi : ∀ (k : Nat) (v : Str × Tok), ts[k]? = some v → i < v.1.cps.size) (hQ : Nxt s.heap s.gens s.drawn s.os b ts i (fun v s' => Q (some v) s')) : wpAny (model prog w) A (pyNext (.ref (b + ts.length + 2))) Q E s := by
  obtain ⟨⟨f0, fb, Z, hf⟩, l, hT, hl⟩ := id B
  have hty : s.TypeIs (.ref (b + ts.length + 2)) "zip" := ⟨_, Z.zip, rfl⟩
  unfold pyNext
  refine wpAny_bind (wpAny_attempt (wpAny_callSpecial?_slot (name := Str.ofString "__next__") hty F.slot_zip_next
    (wpAny_call_entry F.slot_zip_next hty F.entry_zip_next (next_item (A := A.in1) hh B h1 h8 hi fun us h' tk' c1 c2 c3 c4 => wpAny_pure (hQ us h' tk' c1 c2 c3 c4)) (F.args_zip_next_1 _))))
theorem pyNext_end {s : Shared} {b : Nat} {v : Str × Tok} {ts : Tx} {Q : Option Value → Shared → Prop} (hh : A.handled = none) (B : Bet s.heap b (v :: ts) v.1.cps.size)
    (hQ : ∀ (h' : Heap), (∀ (c : Nat) (o : Obj), (c < b ∨ b + ((v :: ts).length + 2) < c) → s.heap.get? c = some o → h'.get? c = some o) → Q none { s with heap := h' }) : wpAny (model prog w) A (pyNext (.ref (b + (v :: ts).length + 2))) Q E s := by
  obtain ⟨⟨f0, fb, Z, hf⟩, l, hT, hl⟩ := id B
  have hty : s.TypeIs (.ref (b + (v :: ts).length + 2)) "zip" := ⟨_, Z.zip, rfl⟩
  unfold pyNext
  refine wpAny_bind (wpAny_attempt (wpAny_callSpecial?_slot (name := Str.ofString "__next__") hty F.slot_zip_next
    (wpAny_call_entry F.slot_zip_next hty F.entry_zip_next (next_end (A := A.in1) hh B fun h' e hk he => ?_) (F.args_zip_next_1 _))))
  obtain ⟨o, ho, hc⟩ := he
  refine wpAny_bind (wpAny_isInstance (T := "StopIteration") (b := true) ⟨o, ho, hc⟩ isSubtype_stop ?_)
  exact wpAny_pure (hQ _ hk)
end
end TH
end
section
set_option Elab.async false
set_option maxRecDepth 100000
set_option maxHeartbeats 4000000
namespace TH
open PySem PySem.Spec PyProof.Rows L2
/-- the texts xs, m signs each: at turn i a new tuple of their signs there -/
def Itzs (xs : List Str) (m : Nat) : It :=
  ⟨fun i _ => i < m, fun i H x H' => ∃ (T : Addr) (cs : List Nat), x = .ref T ∧ H T = none ∧ H' = upd H T (.tup (cs.map fun c => V.str ⟨#[c]⟩)) ∧ cs.length = xs.length ∧ ∀ (k : Nat) (y : Str), xs[k]? = some y → ∃ c, y.cps[i]? = some c ∧ cs[k]? = some c, fun i _ => i = m⟩
def Tn (xs : List Str) (b : Nat) (i : Nat) (h : Heap) : Prop := ∃ ts : Tx, ts.map Prod.fst = xs ∧ Bet h b ts i
theorem fp_le {b n c : Nat} (h : c ∈ (List.range (n + 3)).map (b + ·)) : b ≤ c ∧ c ≤ b + n + 2 := by
  obtain ⟨k, hk, rfl⟩ := List.mem_map.mp h
  have := List.mem_range.mp hk
  omega
theorem fp_in {b n c : Nat} (h : b ≤ c ∧ c ≤ b + n + 2) : c ∈ (List.range (n + 3)).map (b + ·) := List.mem_map.mpr ⟨c - b, List.mem_range.mpr (by omega), by omega⟩
theorem Bet.kept {h h' : Heap} {b : Nat} {ts : Tx} {i : Nat} (B : Bet h b ts i) (k : ∀ (c : Nat), b ≤ c ∧ c ≤ b + ts.length + 2 → ∀ o, h.get? c = some o → h'.get? c = some o) : Bet h' b ts i := by
  obtain ⟨⟨f0, fb, Z, hf⟩, l, hT, hl⟩ := B
  refine ⟨⟨f0, fb, ⟨k _ (by omega) _ Z.zip, k _ (by omega) _ Z.its, fun j v hj => ?_⟩, hf⟩, l, k _ (by omega) _ hT, hl⟩
  have hjl : j < ts.length := (List.getElem?_eq_some_iff.mp hj).1
  obtain ⟨o, ho, r⟩ := Z.txt j v hj
  exact ⟨o, k (b + j) (by omega) _ ho, r⟩
theorem Bet.obj {h : Heap} {b : Nat} {ts : Tx} {i : Nat} (B : Bet h b ts i) (c : Nat) (hc : b ≤ c ∧ c ≤ b + ts.length + 2) : ∃ o, h.get? c = some o ∧ ∀ v, o.data ≠ .cell v := by
  obtain ⟨⟨f0, fb, Z, hf⟩, l, hT, hl⟩ := B
  by_cases h1 : c = b + ts.length + 2
  · subst h1
    exact ⟨_, Z.zip, fun v q => nomatch q⟩
  · by_cases h2 : c = b + ts.length + 1
    · subst h2
      exact ⟨_, hT, fun v q => nomatch q⟩
    · by_cases h3 : c = b + ts.length
      · subst h3
        exact ⟨_, Z.its, fun v q => nomatch q⟩
      · have hk : c - b < ts.length := by omega
        obtain ⟨o, ho, _, hd⟩ := Z.txt (c - b) _ (List.getElem?_eq_getElem hk)
        have e : b + (c - b) = c := by omega
        rw [e] at ho
        exact ⟨o, ho, fun v q => by rw [hd] at q; cases q⟩
theorem sgn_vals : ∀ (us : List Value) (cs : List Nat), us.length = cs.length → (∀ (k c : Nat), cs[k]? = some c → ∃ u, us[k]? = some (Value.str ⟨#[c]⟩ u)) → Vals (cs.map fun c => V.str ⟨#[c]⟩) us
  | [], [], _, _ => .nil
  | [], _ :: _, e, _ => by simp at e
  | _ :: _, [], e, _ => by simp at e
  | x :: us, c :: cs, e, h => by
    obtain ⟨u, hu⟩ := h 0 c rfl
    have hx : x = Value.str ⟨#[c]⟩ u := by simpa using hu
    refine .cons ⟨u, hx⟩ (sgn_vals us cs (by simpa using e) fun k c' hk => ?_)
    simpa using h (k + 1) c' (by simpa using hk)
/-- the signs that a column holds -/
theorem col_signs : ∀ (ts : Tx) (i : Nat) (us : List Value), ColAt ts i us → ∃ cs : List Nat, us.length = cs.length ∧ (∀ (k c : Nat), cs[k]? = some c → ∃ u, us[k]? = some (Value.str ⟨#[c]⟩ u)) ∧ cs.length = ts.length ∧ ∀ (k : Nat) (v : Str × Tok), ts[k]? = some v → ∃ c, v.1.cps[i]? = some c ∧ cs[k]? = some c
  | [], i, us, ⟨h1, h2⟩ => ⟨[], h1, fun k c hk => by simp at hk, rfl, fun k v hk => by simp at hk⟩
  | v :: ts, i, [], ⟨h1, h2⟩ => by simp at h1
  | v :: ts, i, x :: us, ⟨h1, h2⟩ => by
    obtain ⟨c, u, hc, hx⟩ := h2 0 v rfl
    obtain ⟨cs, e1, e2, e3, e4⟩ := col_signs ts i us ⟨by simpa using h1, fun k w hk => by simpa using h2 (k + 1) w (by simpa using hk)⟩
    refine ⟨c :: cs, by simp [e1], fun k c' hk => ?_, by simp [e3], fun k w hk => ?_⟩
    · cases k with
      | zero =>
        have : c = c' := by simpa using hk
        subst this
        exact ⟨u, by simpa using hx⟩
      | succ k => simpa using e2 k c' (by simpa using hk)
    · cases k with
      | zero =>
        have : v = w := by simpa using hk
        subst this
        exact ⟨c, hc, rfl⟩
      | succ k => simpa using e4 k w (by simpa using hk)
theorem self_zip {prog : Program} {w : World} {A : Around} {E : Value → Shared → Prop} {s : Shared} {z TI TO : Addr} {f0 f1 : Value} {Q : Value → Shared → Prop} (hz : s.heap.get? z = some (zipO f0 f1 TI TO)) (h : Q (.ref z) s) : wpAny (model prog w) A (pyIter (.ref z)) Q E s := by
  have ty : s.TypeIs (.ref z) "zip" := ⟨_, hz, rfl⟩
  refine wpAny_pyIter_slot ty F.slot_zip_iter (wpAny_call_entry F.slot_zip_iter ty F.entry_zip_iter (show wpAny _ _ (ret (.ref z)) _ _ s from ?_) (F.args_zip_iter_1 _))
  exact wpAny_pure ⟨_, rfl, "zip", _, ty, F.slot_zip_next.lookup, h⟩
theorem turn_zips {P : Program} {w : World} {K : PySem.W.Frag} {nm : Str} {np : Pos} {xs : List Str} {m b : Nat} (h1 : 0 < xs.length) (h8 : xs.length ≤ 8) (hm : ∀ x ∈ xs, x.cps.size = m) :
    Turn P w K (.Name nm np) (Itzs xs m) ((List.range (xs.length + 3)).map (b + ·)) (b + xs.length + 2) (Tn xs b) where
  mem := fp_in (by omega)
  obj := fun i h st c hc => by
    obtain ⟨ts, rfl, B⟩ := st
    have q := fp_le hc
    rw [List.length_map] at q
    exact B.obj c q
  keep := fun i h h' st k => by
    obtain ⟨ts, rfl, B⟩ := st
    refine ⟨ts, rfl, B.kept fun c hc o e => k c (fp_in ?_) o e⟩
    rw [List.length_map]
    exact hc
  item := by
    intro X hP hw hK hc i pins s σ H E I hf st hg
    subst hP hw hK
    obtain ⟨ts, rfl, B⟩ := st
    rw [List.length_map] at h1 h8 hf ⊢
    have hin : ∀ (c : Nat), b ≤ c ∧ c ≤ b + ts.length + 2 → c ∈ (List.range (ts.length + 3)).map (b + ·) := fun c q => fp_in q
    refine pyNext_item (I.ok.hd hc) B h1 h8 (fun k v hk => ?_) fun us h' tk' cu B' hT kp => ?_
    · rw [hm v.1 (List.mem_map.mpr ⟨v, List.mem_of_getElem? hk, rfl⟩)]
      exact hg
    · obtain ⟨cs, e1, e2, e3, e4⟩ := col_signs ts i us cu
      refine ⟨_, rfl, wpAny_pure ?_⟩
      have hlen : cs.length ≤ sizeLine := Nat.le_trans (by rw [e3]; exact h8) (by decide)
      have new : ObjOk X.prog X.w (upd H s.heap.objs.size (.tup (cs.map fun c => V.str ⟨#[c]⟩))) h' s.heap.objs.size (.tup (cs.map fun c => V.str ⟨#[c]⟩)) :=
        ⟨by rw [List.length_map]; exact hlen, us, sgn_vals us cs e1 e2, ⟨_, hT, rfl, _, rfl⟩⟩
      have I1 : Inv X pins σ (upd H s.heap.objs.size (.tup (cs.map fun c => V.str ⟨#[c]⟩))) { s with heap := h', toks := tk' } :=
        I.turnedNew (t' := tk') (ch := (List.range (ts.length + 3)).map (b + ·)) (fun c o hc q => kp c o (Classical.byContradiction fun z => hc (hin c (by omega))) q) hf (Nat.le_refl _) new
      refine ⟨.ref s.heap.objs.size, _, I1, rfl, ⟨_, cs, rfl, I.hok.fresh (Nat.le_refl _), rfl, by rw [List.length_map]; exact e3, fun k y hk => ?_⟩, ⟨ts, rfl, B'⟩, fun c hcm => ?_⟩
      · rw [List.getElem?_map] at hk
        cases hv : ts[k]? with
        | none => simp [hv] at hk
        | some v =>
          simp [hv] at hk
          subst hk
          exact e4 k v hv
      · obtain ⟨o, ho, _⟩ := B.obj c (fp_le hcm)
        rw [upd_ne (Nat.ne_of_lt (Heap.lt_size ho))]
        exact (hf c hcm).1
  done := by
    intro X hP hw hK hc i pins s σ H E I hf st hg
    subst hP hw hK
    obtain ⟨ts, rfl, B⟩ := st
    cases ts with
    | nil => exact absurd h1 (by simp)
    | cons v ts =>
      have hv : v.1.cps.size = m := hm v.1 (by simp)
      have hi : i = v.1.cps.size := by rw [hv]; exact hg
      subst hi
      rw [List.length_map] at hf ⊢
      refine pyNext_end (I.ok.hd hc) B fun h' kp => ⟨rfl, I.turnedL (t' := s.toks) (ch := (List.range ((v :: ts).length + 3)).map (b + ·)) (fun c o hc q => kp c o (Classical.byContradiction fun z => hc (fp_in (by omega))) q) hf⟩
  self := fun A i s Q E st h => by
    obtain ⟨ts, rfl, ⟨f0, fb, Z, hf⟩, l, hT, hl⟩ := st
    rw [List.length_map] at h ⊢
    exact self_zip Z.zip h
/-- zip(*e), e a tuple or a list of texts of one length -/
def iZips (K : PySem.W.Frag) (te : TE) : TI := fun σ H R => te σ H fun y H1 => ∃ (a : Addr) (xs : List Str) (m : Nat), y = .ref a ∧ (SqT K H1 a (xs.map V.str) ∨ SqL K H1 a (xs.map V.str)) ∧ 0 < xs.length ∧ xs.length ≤ 8 ∧ (∀ x ∈ xs, x.cps.size = m) ∧ R (Itzs xs m) H1
theorem tx_of : ∀ (xs : List Str) (us : List Value), Vals (xs.map V.str) us → ∃ ts : Tx, us = txv ts ∧ ts.map Prod.fst = xs
  | [], us, h => by cases h; exact ⟨[], rfl, rfl⟩
  | x :: xs, us, h => by
    cases h with
    | @cons _ u _ ur ru rr =>
      obtain ⟨t, rfl⟩ := ru
      obtain ⟨ts, rfl, e⟩ := tx_of xs ur rr
      exact ⟨(x, t) :: ts, rfl, by rw [List.map_cons, e]⟩
theorem pi_zips {X : Cx} {nm : Str} {np : Pos} {e : Expr} {te : TE} {p sp pos : Pos} (hg : Gl X "zip") (hm : X.mg "zip" = none) (he : PE X e te) (hst : starEach [.Starred e sp] X.env = [(true, eval e X.env)] := by rfl) :
    PI X (.Name nm np) (.Call (.Name "zip" p) [.Starred e sp] [] pos) (iZips X.K te) := by
  refine ⟨fun pins s σ H R I h => ?_⟩
  refine wpAny_Call_Name_kw (ld_blt I hg hm PyProof.Rows.boot_zip ?_)
  rw [hst]
  refine PySem.W.ks_call (P := fun _ => True) rfl (fun hp _ => ⟨Keeper.machine, .inr (.inl rfl), PySem.W.Looks.of_pure rfl⟩) (PySem.W.ks_lone (thn (he.run pins s σ H _ I h) fun v s1 ⟨y, H1, I1, ry, a, xs, m, ey, hx, h1, h8, hm', q⟩ => ?_))
  subst ey
  obtain rfl : v = Value.ref a := ry
  refine StX.star_any I1 hx fun us s2 I2 rv => ⟨trivial, ?_⟩
  obtain ⟨ts, rfl, ex⟩ := tx_of xs us rv
  have hl : ts.length = xs.length := by rw [← ex, List.length_map]
  refine call_zip ts (by rw [hl]; exact h8) ?_
  have old : ∀ c o, s2.heap.get? c = some o → (zheap s2.heap ts).get? c = some o := fun c o e => zheap_old e
  have I3 : Inv X pins σ H1 { s2 with heap := zheap s2.heap ts } := I2.kept (t' := s2.toks) old
  obtain ⟨Z, l, hl2, hT⟩ := zheap_at s2.heap ts
  refine self_zip Z.zip ?_
  refine ⟨s2.heap.objs.size + ts.length + 2, (List.range (xs.length + 3)).map (s2.heap.objs.size + ·), Tn xs s2.heap.objs.size, Itzs xs m, H1, rfl, I3, ?_, ⟨ts, ex, ⟨⟨_, false, Z, .inl rfl⟩, l, hT, hl2⟩⟩, fun c hc => ?_, q⟩
  · rw [hl]
    exact turn_zips h1 h8 hm'
  · have hle := (fp_le hc).1
    exact I2.fpOk hle (I2.hok.fresh hle)
end TH
end
section
set_option Elab.async false
set_option maxRecDepth 100000
set_option maxHeartbeats 4000000
set_option linter.all false
namespace TH
open PySem PySem.Spec PyProof.Rows L2
theorem meets_enum_any {v : Value} {o : Obj} {H : Heap → Prop} (B : Begins v o H) :
    Meets (Builtin.«enumerate.__new__» ⟨[.type "enumerate", v], []⟩) (fun _ R s => H s.heap ∧
      R (.ok (.ret (.ref (s.heap.push o).objs.size))) { s with heap := (s.heap.push o).push { cls := .type "enumerate", data := .fields #[.none, .bool false, .ref s.heap.objs.size, rawInt 0, .none, .none] } }) :=
  .of_wp fun prog w A R s hR => by
    obtain ⟨hp, g, d, tk, os⟩ := s
    obtain ⟨hH, hR⟩ := hR
    have hsub := sub_enumerate
    have it1 : ∀ {A' : Around} {E : Value → Shared → Prop} {Q : Value → Shared → Prop}, Q (.ref hp.objs.size) ⟨hp.push o, g, d, tk, os⟩ → wpAny (model prog w) A' (pyIter v) Q E ⟨hp, g, d, tk, os⟩ :=
      fun q => B.iter prog w _ _ ⟨hp, g, d, tk, os⟩ _ hH q
    wp_walk using it1
    refine wpAny_stack_any fun st => wpAny_pure ?_
    split
    · rename_i c _ _ _ _ _
      cases (c == Value.type "enumerate")
      all_goals
        wp_walk using it1
        exact ⟨_, rfl, hR⟩
    · wp_walk using it1
      exact ⟨_, rfl, hR⟩
theorem enum_any {prog : Program} {w : World} {A : Around} {E : Value → Shared → Prop} {s : Shared} {v : Value} {o : Obj} {H : Heap → Prop} {Q : Value → Shared → Prop} (B : Begins v o H) (hH : H s.heap)
    (h : ∀ h', IsEnum h' (s.heap.objs.size + 1) s.heap.objs.size 0 .none → h'.get? s.heap.objs.size = some o → (∀ b o, s.heap.get? b = some o → h'.get? b = some o) → Q (.ref (s.heap.objs.size + 1)) { s with heap := h' }) :
    wpAny (model prog w) A (call (.type "enumerate") [v]) Q E s := by
  refine callType_new F.called_enumerate (by decide) (F.typeCall_enumerate_1 _) (F.newCall_enumerate_1 _) (fun obj => F.args_object_init_2 obj _) F.entry_enumerate_new (meets_enum_any B) ⟨hH, ?_⟩
  have sz : (s.heap.push o).objs.size = s.heap.objs.size + 1 := Heap.size_push ..
  have at1 := Heap.get?_push_size (s.heap.push o) (o := { cls := .type "enumerate", data := .fields #[.none, .bool false, .ref s.heap.objs.size, rawInt 0, .none, .none] }) rfl
  rw [sz] at at1
  show _ ∧ _
  rw [sz]
  exact ⟨⟨_, at1, rfl⟩, h _ at1 (Heap.get?_push_of_some _ (Heap.get?_push_size _ B.free)) fun b o x => Heap.get?_push_of_some _ (Heap.get?_push_of_some _ x)⟩

/-- the signs of a text with their places -/
def Ites (x : Str) : It := ⟨fun i _ => i < x.cps.size, fun i H v H' => ∃ (T : Addr) (c : Nat), v = .ref T ∧ H T = none ∧ H' = upd H T (.tup [.int (i : Nat), .str ⟨#[c]⟩]) ∧ x.cps[i]? = some c, fun i _ => i = x.cps.size⟩
/-- the items of the tuple at a with their places -/
def Itet (K : PySem.W.Frag) (a : Addr) : It :=
  ⟨fun i H => ∃ xs y, SqT K H a xs ∧ xs[i]? = some y, fun i H v H' => ∃ (T : Addr) (y : V), v = .ref T ∧ H T = none ∧ H' = upd H T (.tup [.int (i : Nat), y]) ∧ ∀ xs, SqT K H a xs → xs[i]? = some y, fun i H => ∃ xs, SqT K H a xs ∧ i = xs.length⟩
section
variable {P : Program} {w : World} {K : PySem.W.Frag} {elts : List Expr} {kk : Nat} {tpos : Pos}
theorem turn_enums {x : Str} {t : Tok} (e it : Addr) (hne : e ≠ it) :
    Turn P w K (.Tuple elts kk tpos) (Ites x) [e, it] e (fun i h => (∃ old, IsEnum h e it ((i : Nat) : Int) old) ∧ h.IsStrIter it (strIterType x) x t i) where
  mem := by simp
  obj := fun i h st b hb => by
    obtain ⟨⟨old, he⟩, ⟨o, ho, hc, hd⟩⟩ := st
    rcases (show b = e ∨ b = it by simpa using hb) with z | z
    · rw [z]
      exact ⟨_, he, fun v q => nomatch q⟩
    · rw [z]
      exact ⟨o, ho, fun v q => by rw [hd] at q; cases q⟩
  keep := fun i h h' st k => by
    obtain ⟨⟨old, he⟩, ⟨o, ho, r⟩⟩ := st
    exact ⟨⟨old, k e (by simp) _ he⟩, ⟨o, k it (by simp) _ ho, r⟩⟩
  item := by
    intro X hP hw hK hc i pins s σ H E I hf st hg
    subst hP hw hK
    obtain ⟨⟨old, he⟩, hit⟩ := st
    have hel : e < s.heap.objs.size := Heap.lt_size he
    have hil : it < s.heap.objs.size := by obtain ⟨_, q, _⟩ := hit; exact Heap.lt_size q
    refine wpAny_pyNext_enum_itemD (Draws.text (A := X.A.in1) (I.ok.hd hc) it x t) he hit hg hne (by simpa using hne) fun y h' tk hy ho hit' hT hsz hk => ?_
    obtain ⟨c, u, hcx, rfl⟩ := hy
    refine ⟨_, rfl, wpAny_letOwnedTupleGo_enum (s := { s with heap := h', toks := tk + 1 }) ho fun h'' he' sb => ?_⟩
    have hT2 : h''.get? s.heap.objs.size = some { cls := .type "tuple", data := .seq #[.int i tk, .str ⟨#[c]⟩ u] } := (sb.2 _ (Nat.ne_of_gt hel)).trans hT
    have new : ObjOk X.prog X.w (upd H s.heap.objs.size (.tup [.int (i : Nat), .str ⟨#[c]⟩])) h'' s.heap.objs.size (.tup [.int (i : Nat), .str ⟨#[c]⟩]) :=
      ⟨by show 2 ≤ sizeLine; decide, [.int i tk, .str ⟨#[c]⟩ u], .cons ⟨_, rfl⟩ (.cons ⟨_, rfl⟩ .nil), ⟨_, hT2, rfl, _, rfl⟩⟩
    have I1 : Inv X pins σ (upd H s.heap.objs.size (.tup [.int (i : Nat), .str ⟨#[c]⟩])) { s with heap := h'', toks := tk + 1 } :=
      I.turnedNew (ch := [e, it]) (fun b ob hb q => (sb.2 b (fun z => hb (by simp [z]))).trans (hk b ob (fun z => hb (by simp [z])) (fun z => hb (by simp [z])) q)) hf (Nat.le_refl _) new
    refine ⟨.ref s.heap.objs.size, _, I1, rfl, ⟨_, c, rfl, I.hok.fresh (Nat.le_refl _), rfl, hcx⟩, ⟨⟨Value.str ⟨#[c]⟩ u, ?_⟩, strIter_other hit' sb (Ne.symm hne)⟩, fun b hb => ?_⟩
    · have e1 : ((i + 1 : Nat) : Int) = (i : Int) + 1 := by omega
      rw [e1]
      exact he'
    · have hb' : b < s.heap.objs.size := by
        rcases (show b = e ∨ b = it by simpa using hb) with z | z
        · rw [z]; exact hel
        · rw [z]; exact hil
      rw [upd_ne (Nat.ne_of_lt hb')]
      exact (hf b hb).1
  done := by
    intro X hP hw hK hc i pins s σ H E I hf st hg
    subst hP hw hK
    obtain ⟨⟨old, he⟩, hit⟩ := st
    obtain ⟨f0, f1, f2, f3, f4, f5⟩ := hf it (by simp)
    have hi : i = x.cps.size := hg
    subst hi
    exact wpAny_pyNext_enum_endD (Draws.text (A := X.A.in1) (I.ok.hd hc) it x t) he hit fun h' eb => ⟨rfl, I.turned (t' := s.toks) (fun b o hb q => eb b o hb q) f0 f1 f3 f4 f5⟩
  self := fun A i s Q E st h => by
    obtain ⟨⟨_, he⟩, _⟩ := st
    exact wpAny_pyIter_enum he h
theorem turn_enumt {a : Addr} (e it : Addr) (hne : e ≠ it) (hae : a ≠ e) (hai : a ≠ it) :
    Turn P w K (.Tuple elts kk tpos) (Itet K a) [e, it] e (fun i h => (∃ old, IsEnum h e it ((i : Nat) : Int) old) ∧ h.IsTupleIter it a i) where
  mem := by simp
  obj := fun i h st b hb => by
    obtain ⟨⟨old, he⟩, ⟨o, ho, hc, hd⟩⟩ := st
    rcases (show b = e ∨ b = it by simpa using hb) with z | z
    · rw [z]
      exact ⟨_, he, fun v q => nomatch q⟩
    · rw [z]
      exact ⟨o, ho, fun v q => by rw [hd] at q; cases q⟩
  keep := fun i h h' st k => by
    obtain ⟨⟨old, he⟩, ⟨o, ho, r⟩⟩ := st
    exact ⟨⟨old, k e (by simp) _ he⟩, ⟨o, k it (by simp) _ ho, r⟩⟩
  item := by
    intro X hP hw hK hc i pins s σ H E I hf st hg
    subst hP hw hK
    obtain ⟨⟨old, he⟩, hit⟩ := st
    obtain ⟨xs, y, hq, hx⟩ := hg
    obtain ⟨its, rv, p, hz⟩ := I.tuple hq
    obtain ⟨u, hu, ru⟩ := rv.get hx
    have hel : e < s.heap.objs.size := Heap.lt_size he
    have hil : it < s.heap.objs.size := by obtain ⟨_, q, _⟩ := hit; exact Heap.lt_size q
    have hlt : i < its.toArray.size := by rw [List.size_toArray]; exact (List.getElem?_eq_some_iff.mp hu).1
    refine wpAny_pyNext_enum_itemD (St := fun i h => h.IsTupleIter it a i ∧ h.IsTuple a its.toArray) (Draws.tuple (A := X.A.in1) (I.ok.hd hc) it a hai its.toArray) he ⟨hit, p⟩ hlt hne (by simp [hne, Ne.symm hae]) fun y' h' tk hy ho hit' hT hsz hk => ?_
    have ey : y' = u := by
      have hy' : its.toArray[i]? = some y' := hy
      rw [List.getElem?_toArray, hu] at hy'
      exact (Option.some.inj hy').symm
    subst ey
    refine ⟨_, rfl, wpAny_letOwnedTupleGo_enum (s := { s with heap := h', toks := tk + 1 }) ho fun h'' he' sb => ?_⟩
    have hT2 : h''.get? s.heap.objs.size = some { cls := .type "tuple", data := .seq #[.int i tk, y'] } := (sb.2 _ (Nat.ne_of_gt hel)).trans hT
    have new : ObjOk X.prog X.w (upd H s.heap.objs.size (.tup [.int (i : Nat), y])) h'' s.heap.objs.size (.tup [.int (i : Nat), y]) :=
      ⟨by show 2 ≤ sizeLine; decide, [.int i tk, y'], .cons ⟨_, rfl⟩ (.cons ru .nil), ⟨_, hT2, rfl, _, rfl⟩⟩
    have I1 : Inv X pins σ (upd H s.heap.objs.size (.tup [.int (i : Nat), y])) { s with heap := h'', toks := tk + 1 } :=
      I.turnedNew (ch := [e, it]) (fun b ob hb q => (sb.2 b (fun z => hb (by simp [z]))).trans (hk b ob (fun z => hb (by simp [z])) (fun z => hb (by simp [z])) q)) hf (Nat.le_refl _) new
    refine ⟨.ref s.heap.objs.size, _, I1, rfl, ⟨_, y, rfl, I.hok.fresh (Nat.le_refl _), rfl, fun ys hy => by rw [I.tuple_inj hy hq]; exact hx⟩, ⟨⟨y', ?_⟩, ?_⟩, fun b hb => ?_⟩
    · have e1 : ((i + 1 : Nat) : Int) = (i : Int) + 1 := by omega
      rw [e1]
      exact he'
    · obtain ⟨o, ho2, r⟩ := hit'.1
      exact ⟨o, (sb.2 it (Ne.symm hne)).trans ho2, r⟩
    · have hb' : b < s.heap.objs.size := by
        rcases (show b = e ∨ b = it by simpa using hb) with z | z
        · rw [z]; exact hel
        · rw [z]; exact hil
      rw [upd_ne (Nat.ne_of_lt hb')]
      exact (hf b hb).1
  done := by
    intro X hP hw hK hc i pins s σ H E I hf st hg
    subst hP hw hK
    obtain ⟨⟨old, he⟩, hit⟩ := st
    obtain ⟨f0, f1, f2, f3, f4, f5⟩ := hf it (by simp)
    obtain ⟨xs, hq, hi⟩ := hg
    obtain ⟨its, rv, p, hz⟩ := I.tuple hq
    have hi2 : i = its.toArray.size := by rw [List.size_toArray, hi, rv.length]
    subst hi2
    exact wpAny_pyNext_enum_endD (St := fun i h => h.IsTupleIter it a i ∧ h.IsTuple a its.toArray) (Draws.tuple (A := X.A.in1) (I.ok.hd hc) it a hai its.toArray) he ⟨hit, p⟩ fun h' eb => ⟨rfl, I.turned (t' := s.toks) (fun b o hb q => eb b o hb q) f0 f1 f3 f4 f5⟩
  self := fun A i s Q E st h => by
    obtain ⟨⟨_, he⟩, _⟩ := st
    exact wpAny_pyIter_enum he h
end
def iEnumS (ta : TA) : TI := fun σ H R => ta σ H fun vs H1 => ∃ x, vs = [.str x] ∧ R (Ites x) H1
def iEnumT (K : PySem.W.Frag) (ta : TA) : TI := fun σ H R => ta σ H fun vs H1 => ∃ a xs, vs = [.ref a] ∧ SqT K H1 a xs ∧ R (Itet K a) H1
section
variable {X : Cx} {e : Expr} {ta : TA} {p pos tpos : Pos} {elts : List Expr} {kk : Nat}
theorem pi_enumS (hg : Gl X "enumerate") (hm : X.mg "enumerate" = none) (ha : PA X [e] ta) (hs : starEach [e] X.env = [(false, eval e X.env)] := by rfl) : PI X (.Tuple elts kk tpos) (.Call (.Name "enumerate" p) [e] [] pos) (iEnumS ta) := by
  refine ⟨fun pins s σ H R I h => ?_⟩
  refine Call_ (ld_blt I hg hm boot_enumerate (PyProof.Rows.callWith_type1 (thn (ha.run pos pins s σ H _ I h) fun us s1 ⟨vs, H1, I1, r1, x, ex, q⟩ => ?_) hs rfl))
  subst ex
  cases r1 with
  | @cons _ u _ _ r rr =>
    cases rr
    obtain ⟨t, rfl⟩ := r
    refine enum_any (begins_text x t) trivial fun h' he hit hk => wpAny_pyIter_enum he ?_
    have I2 : Inv X pins σ H1 { s1 with heap := h' } := I1.kept (t' := s1.toks) hk
    refine ⟨s1.heap.objs.size + 1, [s1.heap.objs.size + 1, s1.heap.objs.size], _, _, H1, rfl, I2, turn_enums (x := x) (t := t) _ _ (Nat.succ_ne_self _), ⟨⟨.none, he⟩, ⟨_, hit, rfl, rfl⟩⟩, fun b hb => ?_, q⟩
    have hle : s1.heap.objs.size ≤ b := by
      rcases (show b = s1.heap.objs.size + 1 ∨ b = s1.heap.objs.size by simpa using hb) with z | z
      · rw [z]; exact Nat.le_add_right _ _
      · rw [z]; exact Nat.le_refl _
    exact I1.fpOk hle (I1.hok.fresh hle)
theorem pi_enumT (hg : Gl X "enumerate") (hm : X.mg "enumerate" = none) (ha : PA X [e] ta) (hs : starEach [e] X.env = [(false, eval e X.env)] := by rfl) : PI X (.Tuple elts kk tpos) (.Call (.Name "enumerate" p) [e] [] pos) (iEnumT X.K ta) := by
  refine ⟨fun pins s σ H R I h => ?_⟩
  refine Call_ (ld_blt I hg hm boot_enumerate (PyProof.Rows.callWith_type1 (thn (ha.run pos pins s σ H _ I h) fun us s1 ⟨vs, H1, I1, r1, a, xs, ex, hq, q⟩ => ?_) hs rfl))
  subst ex
  cases r1 with
  | @cons _ u _ _ r rr =>
    cases rr
    obtain rfl : u = Value.ref a := r
    obtain ⟨its, rv, p', hz⟩ := I1.tuple hq
    have hal : a < s1.heap.objs.size := by obtain ⟨_, z, _⟩ := p'; exact Heap.lt_size z
    refine enum_any (begins_tuple a its.toArray) p' fun h' he hit hk => wpAny_pyIter_enum he ?_
    have I2 : Inv X pins σ H1 { s1 with heap := h' } := I1.kept (t' := s1.toks) hk
    refine ⟨s1.heap.objs.size + 1, [s1.heap.objs.size + 1, s1.heap.objs.size], _, _, H1, rfl, I2, turn_enumt (a := a) _ _ (Nat.succ_ne_self _) (Nat.ne_of_lt (Nat.lt_succ_of_lt hal)) (Nat.ne_of_lt hal), ⟨⟨.none, he⟩, ⟨_, hit, rfl, rfl⟩⟩, fun b hb => ?_, q⟩
    have hle : s1.heap.objs.size ≤ b := by
      rcases (show b = s1.heap.objs.size + 1 ∨ b = s1.heap.objs.size by simpa using hb) with z | z
      · rw [z]; exact Nat.le_add_right _ _
      · rw [z]; exact Nat.le_refl _
    exact I1.fpOk hle (I1.hok.fresh hle)
end
/-- enumerate in a for: an instance of Walk -/
theorem walk_enumS {x : Str} : Walk (Ites x) x.cps.size (fun _ => True) (fun i H v H' => ∃ (T : Addr) (c : Nat), v = .ref T ∧ H T = none ∧ H' = upd H T (.tup [.int (i : Nat), .str ⟨#[c]⟩]) ∧ x.cps[i]? = some c) :=
  ⟨fun i H hi _ => hi, fun H _ => rfl, fun i H v H' hi _ y => y⟩
theorem walk_enumT {K : PySem.W.Frag} {a : Addr} {xs : List V} : Walk (Itet K a) xs.length (fun H => SqT K H a xs) (fun i H v H' => ∃ (T : Addr) (y : V), v = .ref T ∧ H T = none ∧ H' = upd H T (.tup [.int (i : Nat), y]) ∧ xs[i]? = some y) :=
  ⟨fun i H hi g => ⟨xs, xs[i], g, List.getElem?_eq_getElem hi⟩, fun H g => ⟨xs, g, rfl⟩, fun i H v H' hi g ⟨T, y, e1, e2, e3, e4⟩ => ⟨T, y, e1, e2, e3, e4 xs g⟩⟩
theorem walk_zips {xs : List Str} {m : Nat} : Walk (Itzs xs m) m (fun _ => True) (fun i H x H' => ∃ (T : Addr) (cs : List Nat), x = .ref T ∧ H T = none ∧ H' = upd H T (.tup (cs.map fun c => V.str ⟨#[c]⟩)) ∧ cs.length = xs.length ∧ ∀ (k : Nat) (y : Str), xs[k]? = some y → ∃ c, y.cps[i]? = some c ∧ cs[k]? = some c) :=
  ⟨fun i H hi _ => hi, fun H _ => rfl, fun i H v H' hi _ y => y⟩
end TH
end
section
set_option Elab.async false
set_option maxRecDepth 100000
set_option maxHeartbeats 4000000
set_option linter.all false
namespace TH
open PySem PySem.Spec PyProof.Rows L2
section
open PySem.W
variable {prog : Program} {w : World} {M : Model} {A : Around} {E : Value → Shared → Prop} {s : Shared} {K : Frag} {x C D f : Addr} {ox : Obj} {od : Option Obj} {nm : String}
/-- the class at D, straight over object, knows nothing of the operator -/
structure NoOp (K : Frag) (D : Addr) (nm : String) : Prop where
  cls : ∃ cd, clsIn K D = some cd ∧ cd.mro = [.ref D, .type "object"]
  f1 : findIn K (.ref D) (PySem.dunder nm) = some none
  r1 : findIn K (.ref D) (dunderR nm) = some none
  f0 : findIn K (.type "object") (PySem.dunder nm) = some none
  r0 : findIn K (.type "object") (dunderR nm) = some none
theorem NoOp.fills {h : Heap} (N : NoOp K D nm) (X : K.In h) : Looks M h (fillsNumberSlot (.ref D) nm) false := by
  intro A Q E s k q
  obtain ⟨cd, hcd, hm⟩ := N.cls
  have X' : K.In s.heap := X.keeps k
  have L1 : Looks M s.heap (typeLookup (.ref D) (PySem.dunder nm)) none := looks_findIn X' N.f1
  have L2 : Looks M s.heap (typeLookup (.ref D) (dunderR nm)) none := looks_findIn X' N.r1
  have L3 : Looks M s.heap (typeLookup (.type "object") (PySem.dunder nm)) none := looks_findIn X' N.f0
  have L4 : Looks M s.heap (typeLookup (.type "object") (dunderR nm)) none := looks_findIn X' N.r0
  unfold fillsNumberSlot
  refine wpAny_bind ((looks_clsIn X' hcd).andThen (f := fun cd => pure cd.mro) .now A _ E s (fun _ _ e => e) ?_)
  rw [hm, List.anyM_cons]
  refine wpAny_bind ?_
  show wpAny M A (List.anyM _ [PySem.dunder nm, dunderR nm]) _ _ _
  rw [List.anyM_cons]
  refine wpAny_bind (wpAny_bind (L1.here (wpAny_pure ?_)))
  rw [if_neg Bool.false_ne_true, List.anyM_cons]
  refine wpAny_bind (wpAny_bind (L2.here (wpAny_pure ?_)))
  rw [if_neg Bool.false_ne_true, List.anyM_nil]
  refine wpAny_pure ?_
  rw [if_neg Bool.false_ne_true, List.anyM_cons]
  refine wpAny_bind (wpAny_bind (L3.here (wpAny_bind (L4.here (wpAny_pure ?_)))))
  show wpAny M A (if false = true then _ else _) _ _ _
  rw [if_neg Bool.false_ne_true, List.anyM_nil]
  exact wpAny_pure q
theorem binop_two {op : Operator} {b : Value} {Q : Value → Shared → Prop} (X : K.In s.heap) (I : InstAt s.heap x ox C od) (hb : Looks (model prog w) s.heap (typeOf b) (.ref D)) (hCD : C ≠ D) (hc : selfFirst K C = true) (N : NoOp K D op.info.2)
    (hs : findIn K (.ref C) (PySem.dunder op.info.2) = some (some (.ref f))) (hf : isFn K (.ref f) = true)
    (h : wpAny (model prog w) A (call (.ref f) [.ref x, b]) (PySem.W.CmpBack Q) E s) : wpAny (model prog w) A (binaryOp op (.ref x) b) Q E s := by
  obtain ⟨cd, rest, hcd, hm⟩ := ksp_first hc
  have hne : (Value.ref C == Value.ref D) = false := by simp [hCD]
  unfold binaryOp
  refine wpAny_holding (wpAny_bind ?_)
  unfold binaryOp1
  refine wpAny_bind (I.type.here (wpAny_bind (hb.here (wpAny_bind ((fills_K X hcd hm hs).here ?_)))))
  simp only [hne, Bool.false_eq_true, if_false]
  refine wpAny_bind ((N.fills X).here ?_)
  simp only [Bool.and_false, Bool.false_eq_true, if_false, Bool.false_and]
  refine wpAny_bind (wpAny_pure ?_)
  simp only [Bool.false_eq_true, if_false, if_true]
  refine wpAny_bind (m := tryMethod (.ref x) _ b) ?_
  unfold tryMethod
  refine wpAny_bind (special_fn X I hs (beq_iff_eq.mp hf) (wpAny_mono h (fun v s' hv => ?_) fun _ _ e => e))
  cases v <;> first | exact hv.elim | exact wpAny_pure (wpAny_pure (wpAny_pure hv))
end
/-- a op b: a an instance of C whose def for it is at g, b one of D -/
def rTwo (C D : Addr) (sp : Sp) (E : XK) : R2 := fun x y H Q => ∃ a dx fs b dy gs, x = .ref a ∧ y = .ref b ∧ H a = some (.ins C dx fs) ∧ H b = some (.ins D dy gs) ∧ sp [x, y] H Q E
/-- C(*e), the class by its name; c(*e), the class in a slot -/
def tMakeS (K : PySem.W.Frag) (C : Addr) (sp : Sp) (E : XK) (te : TE) : TE := fun σ H Q => te σ H fun y H1 => ∃ a xs, y = V.ref a ∧ (SqT K H1 a xs ∨ SqL K H1 a xs) ∧ ∀ x dx, H1 x = Option.none → H1 dx = Option.none → dx ≠ x →
  sp (V.ref x :: xs) (upd (upd H1 dx (.own x)) x (.ins C dx [])) (fun v H2 => v = .non ∧ Q (.ref x) H2) E
section
variable {X : Cx} {CX : CXT} {k : Nat} {f C : Addr} {sp : Sp} {E : XK} {x : Str} {e : Expr} {te tf : TE} {p spo pos : Pos}
theorem pe_makeS (M : Mk X.K C f) (F : FnR X.prog X.w X.K X.mg X.base CX k f sp) (hr : Room (k + 1) X.A) (hg : Gl X x) (hm : X.mg x = some (.ref C)) (hx : Passes CX X E) (he : PE X e te) (hdb : (x == ("__debug__" : Str)) = false := by decide)
    (hst : starEach [.Starred e spo] X.env = [(true, eval e X.env)] := by rfl) : PE X (.Call (.Name x p) [.Starred e spo] [] pos) (tMakeS X.K C sp E te) := by
  refine ⟨fun pins s σ H Q I h => ?_⟩
  refine wpAny_Call_Name_kw (ld_glob I hg hm ?_ hdb)
  refine PySem.W.callWith_S (h₀ := X.base) I.ok.mod.kin M.kp (thn (he.run pins s σ H _ I h) fun v s1 ⟨y, H1, I1, ry, a, xs, ey, hxs, q⟩ => ?_) hst
  subst ey
  obtain rfl : v = Value.ref a := ry
  exact StX.star_any I1 hxs fun us s2 I2 rv => ⟨I2.kIn, StX.run_makeR M F hr hx I2 rv q⟩
/-- the class is what the name of the def holds -/
theorem pe_makeSv (M : Mk X.K C f) (F : FnR X.prog X.w X.K X.mg X.base CX k f sp) (hr : Room (k + 1) X.A) (hf : PE X (.Name x p) tf) (hx : Passes CX X E) (he : PE X e te)
    (hst : starEach [.Starred e spo] X.env = [(true, eval e X.env)] := by rfl) : PE X (.Call (.Name x p) [.Starred e spo] [] pos) (fun σ H Q => tf σ H fun c H1 => c = .ref C ∧ tMakeS X.K C sp E te σ H1 Q) := by
  refine ⟨fun pins s σ H Q I h => ?_⟩
  refine wpAny_Call_Name_kw (thn (hf.run pins s σ H _ I h) fun u s0 ⟨c, H0, I0, rc, ec, h⟩ => ?_)
  subst ec
  obtain rfl : u = Value.ref C := rc
  refine PySem.W.callWith_S (h₀ := X.base) I.ok.mod.kin M.kp (thn (he.run pins s0 σ H0 _ I0 h) fun v s1 ⟨y, H1, I1, ry, a, xs, ey, hxs, q⟩ => ?_) hst
  subst ey
  obtain rfl : v = Value.ref a := ry
  exact StX.star_any I1 hxs fun us s2 I2 rv => ⟨I2.kIn, StX.run_makeR M F hr hx I2 rv q⟩
end
end TH
end
section
set_option Elab.async false
set_option maxRecDepth 100000
set_option maxHeartbeats 4000000
set_option linter.all false
namespace TH
open PySem PySem.Spec PyProof.Rows L2
theorem thnN {α : Type} {n : Nat} {t : Sem α} {Q Q' : α → Shared → Prop} {M : Model} {A : Around} {E : Value → Shared → Prop} {s : Shared} (hn : n ≤ s.toks) (h : wpAny M A t Q E s) (hQ : ∀ a s', n ≤ s'.toks → Q a s' → Q' a s') : wpAny M A t Q' E s :=
  wpAny_mono (wpAny_toks_of hn h) (fun a s' z => hQ a s' z.1 z.2) fun _ _ z => z.2
def PEn (n : Nat) (X : Cx) (e : Expr) (t : TE) : Prop :=
  ∀ (pins : List (Addr × Obj)) (s : Shared) (σ : L2.St) (H : Hp) (Q : VK), n ≤ s.toks → Inv X pins σ H s → t σ H Q → wpAny (model X.prog X.w) X.A (eval e X.env) (EP X pins σ Q) X.xe s
def PTn (n : Nat) (X : Cx) (e : Expr) (t : TT) : Prop :=
  ∀ (pins : List (Addr × Obj)) (s : Shared) (σ : L2.St) (H : Hp) (Q : Bool → Hp → Prop), n ≤ s.toks → Inv X pins σ H s → t σ H Q → wpAny (model X.prog X.w) X.A (isTrue e X.env (eval e X.env)) (TP X pins σ Q) X.xe s
def PAn (n : Nat) (X : Cx) (es : List Expr) (t : TA) : Prop :=
  ∀ (pos : Pos) (pins : List (Addr × Obj)) (s : Shared) (σ : L2.St) (H : Hp) (Q : List V → Hp → Prop), n ≤ s.toks → Inv X pins σ H s → t σ H Q → wpAny (model X.prog X.w) X.A (spliced (backTo pos (starEach es X.env))) (AP X pins σ Q) X.xe s
def PSn (n : Nat) (X : Cx) (st : Stmt) (t : TS) : Prop :=
  ∀ (pins : List (Addr × Obj)) (s : Shared) (σ : L2.St) (H : Hp) (D : Ends), n ≤ s.toks → Inv X pins σ H s → t D σ H → wpAny (model X.prog X.w) X.A (exec st X.env) (SP X pins D) X.xe s
def PSsn (n : Nat) (X : Cx) (st : List Stmt) (t : TS) : Prop :=
  ∀ (pins : List (Addr × Obj)) (s : Shared) (σ : L2.St) (H : Hp) (D : Ends), n ≤ s.toks → Inv X pins σ H s → t D σ H → wpAny (model X.prog X.w) X.A (execs st X.env) (SP X pins D) X.xe s
def OpRn (n : Nat) (X : Cx) (f : Value → Value → Sem Value) (r : R2) : Prop :=
  ∀ (pins : List (Addr × Obj)) (s : Shared) (σ : L2.St) (H : Hp) (x y : V) (v u : Value) (Q : VK), n ≤ s.toks → Inv X pins σ H s → RelV x v → RelV y u → r x y H Q → wpAny (model X.prog X.w) X.A (f v u) (EP X pins σ Q) X.xe s
/-- a def called, its promise kept wherever n tokens are out -/
def FnRn (n : Nat) (P : Program) (w : World) (K : PySem.W.Frag) (mg : Str → Option Value) (base : Heap) (CX : CXT) (k : Nat) (f : Addr) (sp : Sp) : Prop :=
  ∀ (A : Around) (outer : List Env) (s : Shared) (H : Hp) (us : List Value) (vs : List V) (Q : VK) (E : XK), n ≤ s.toks → Room k A → Env0 P w K mg base A outer s H → Vals vs us → sp vs H Q E →
    codeAny (model P w) A (.call (.ref f) ⟨us, []⟩) (CR CX outer P w H s Q E) s
section
variable {X : Cx} {n : Nat}
theorem _root_.L2.PE.up {e : Expr} {t : TE} (h : PE X e t) : PEn n X e t := fun pins s σ H Q _ I q => h.run pins s σ H Q I q
theorem _root_.L2.PT.up {e : Expr} {t : TT} (h : PT X e t) : PTn n X e t := fun pins s σ H Q _ I q => h.run pins s σ H Q I q
theorem _root_.L2.PA.up {es : List Expr} {t : TA} (h : PA X es t) : PAn n X es t := fun pos pins s σ H Q _ I q => h.run pos pins s σ H Q I q
theorem _root_.L2.PS.up {st : Stmt} {t : TS} (h : PS X st t) : PSn n X st t := fun pins s σ H D _ I q => h.run pins s σ H D I q
theorem _root_.L2.PSs.up {st : List Stmt} {t : TS} (h : PSs X st t) : PSsn n X st t := fun pins s σ H D _ I q => h.run pins s σ H D I q
theorem pssn_cons {st : Stmt} {rest : List Stmt} {t u : TS} (h1 : PSn n X st t) (h2 : PSsn n X rest u) : PSsn n X (st :: rest) (tSeq t u) := by
  intro pins s σ H D hn I h
  refine wpAny_execs_cons (thnN hn (h1 pins s σ H { D with nx := u D } hn I h) fun f s1 hn1 q => ?_)
  cases f with
  | next =>
    obtain ⟨σ1, H1, I1, q1⟩ := q
    exact h2 pins s1 σ1 H1 D hn1 I1 q1
  | ret v => exact q
  | brk => exact q
  | cont => exact q
theorem pssn_one {st : Stmt} {t : TS} (h1 : PSn n X st t) : PSsn n X [st] t := by
  intro pins s σ H D hn I h
  refine wpAny_execs_cons (thnN hn (h1 pins s σ H D hn I h) fun f s1 _ q => ?_)
  cases f with
  | next => exact wpAny_execs_nil q
  | ret v => exact q
  | brk => exact q
  | cont => exact q
theorem psn_ret {e : Expr} {te : TE} {pos : Pos} (he : PEn n X e te) : PSn n X (.Return (some e) pos) (tRet te) := fun pins s σ H D hn I h =>
  wpAny_Return_some (thn (he pins s σ H _ hn I h) fun _ _ ⟨x, H1, I1, r1, q1⟩ => ⟨x, σ, H1, I1, r1, q1⟩)
theorem psn_if {c : Expr} {a b : List Stmt} {tc : TT} {t u : TS} {pos : Pos} (hc : PTn n X c tc) (ha : PSsn n X a t) (hb : PSsn n X b u) : PSn n X (.If c a b pos) (tIfS tc t u) := by
  intro pins s σ H D hn I h
  refine wpAny_If (thnN hn (hc pins s σ H _ hn I h) fun d s1 hn1 ⟨H1, I1, q1⟩ => ?_)
  cases d with
  | true => exact ha pins s1 σ H1 D hn1 I1 q1
  | false => exact hb pins s1 σ H1 D hn1 I1 q1
theorem psn_set {i : Nat} {x : Str} {e : Expr} {te : TE} {pos pos' : Pos} (hN : X.N.Nodup) (hi : X.N[i]? = some x) (hx : Loc X.env.scope x) (he : PEn n X e te) (hs : swapsWith e (some (.Name x pos')) pos.line X.env = pure false := by rfl)
    (hf : X.fn x = true ∨ X.env.scope.names.lookup x = some .local := by first | exact .inl rfl | exact .inr rfl | assumption) : PSn n X (.Assign [.Name x pos'] e pos) (tAsg te (gName i)) := fun pins s σ H D hn I h =>
  wpAny_Assign_Name (thn (he pins s σ H _ hn I h) fun _ s1 ⟨y, H1, I1, r1, q1⟩ => store_ok I1 hN hi hx r1 (fun _ I2 => ⟨_, H1, I2, q1⟩) hf) hs
theorem pan_nil : PAn n X [] tNil := pa_nil.up
theorem pan_cons {e : Expr} {es : List Expr} {te : TE} {ta : TA} (he : PEn n X e te) (hr : PAn n X es ta) (hs : starEach (e :: es) X.env = (false, eval e X.env) :: starEach es X.env := by rfl) : PAn n X (e :: es) (tCons te ta) := by
  intro pos pins s σ H Q hn I h
  rw [hs]
  refine Calls.spliced_cons (thnN hn (he pins s σ H _ hn I h) fun v s1 hn1 ⟨x, H1, I1, r1, q1⟩ => ?_)
  exact thn (hr pos pins s1 σ H1 _ hn1 I1 q1) fun us s2 ⟨vs, H2, I2, r2, q2⟩ => ⟨x :: vs, H2, I2, .cons r1 r2, q2⟩
theorem run_fnRn {pins : List (Addr × Obj)} {σ : L2.St} {H : Hp} {s : Shared} {CX : CXT} {k : Nat} {f : Addr} {sp : Sp} {E : XK} {Q : VK} {us : List Value} {vs : List V} (hn : n ≤ s.toks) (F : FnRn n X.prog X.w X.K X.mg X.base CX k f sp) (hr : Room k X.A) (hx : Passes CX X E) (I : Inv X pins σ H s) (r : Vals vs us) (h : sp vs H Q E) :
    codeAny (model X.prog X.w) X.A (.call (.ref f) ⟨us, []⟩) (fun r s' => match r with | .ok (.ret v) => EP X pins σ Q v s' | .ok _ => False | .error e => X.xe e s') s := by
  refine codeAny_mono (F X.A X.stack s H us vs Q E hn hr I.env0 r h) fun r s' hq => ?_
  cases r with
  | error e => exact hx pins σ H s e s' I hq
  | ok fl =>
    cases fl with
    | ret u => exact I.after hq
    | next => exact False.elim hq
    | brk => exact False.elim hq
    | cont => exact False.elim hq
/-- x(e, ..), x a def of the module -/
def tCal (sp : Sp) (E : XK) (t : TA) : TE := fun σ H Q => t σ H fun vs H1 => sp vs H1 Q E
theorem pen_call {CX : CXT} {k : Nat} {f : Addr} {sp : Sp} {E : XK} {x : Str} {e : Expr} {es : List Expr} {t : TA} {p pos : Pos} (F : FnRn n X.prog X.w X.K X.mg X.base CX k f sp) (hr : Room k X.A) (hg : Gl X x) (hm : X.mg x = some (.ref f)) (hk : PySem.W.keepIn X.K (.ref f) = true) (hx : Passes CX X E)
    (ha : PAn n X (e :: es) t) (hdb : (x == ("__debug__" : Str)) = false := by decide) (he : starEach (e :: es) X.env = (false, eval e X.env) :: starEach es X.env := by rfl) (hpl : (backTo pos (starEach es X.env)).any (·.1) = false := by rfl) :
    PEn n X (.Call (.Name x p) (e :: es) [] pos) (tCal sp E t) := by
  intro pins s σ H Q hn I h
  refine wpAny_Call_Name_kw (ld_glob I hg hm ?_ hdb)
  exact PySem.W.callWith_K (h₀ := X.base) I.ok.mod.kin hk (thnN hn (ha pos pins s σ H _ hn I h) fun us s1 hn1 ⟨vs, H1, I1, r, q⟩ => ⟨I1.kIn, wpAny_call (run_fnRn hn1 F hr hx I1 r q)⟩) he hpl
theorem pen_callTy {T : String} {r : List V → Hp → VK → Prop} {x : Str} {e : Expr} {es : List Expr} {t : TA} {p pos : Pos} (hc : CallR X (.type T) r) (hg : Gl X x) (hm : X.mg x = none) (hv : bootBuiltins x = some (.type T)) (ha : PAn n X (e :: es) t) (hne : x ≠ "__name__" := by decide) (hdb : (x == ("__debug__" : Str)) = false := by decide)
    (he : starEach (e :: es) X.env = (false, eval e X.env) :: starEach es X.env := by rfl) (hpl : (backTo pos (starEach es X.env)).any (·.1) = false := by rfl) : PEn n X (.Call (.Name x p) (e :: es) [] pos) (tCB r t) := by
  intro pins s σ H Q hn I h
  refine wpAny_Call_Name_kw (ld_blt I hg hm hv ?_ hne hdb)
  exact PyProof.Rows.callWith_type1 (thn (ha pos pins s σ H _ hn I h) fun us s1 ⟨vs, H1, I1, r1, q1⟩ => hc pins s1 σ H1 vs us Q I1 r1 q1) he hpl
theorem pen_op {op : Operator} {r : R2} {a b : Expr} {ta tb : TE} {pos : Pos} (ho : OpRn n X (binaryOp op) r) (ha : PEn n X a ta) (hb : PEn n X b tb) : PEn n X (.BinOp a op b pos) (tOp r ta tb) := fun pins s σ H Q hn I h =>
  wpAny_BinOp (thnN hn (ha pins s σ H _ hn I h) fun v s1 hn1 ⟨x, H1, I1, rx, q1⟩ => thnN hn1 (hb pins s1 σ H1 _ hn1 I1 q1) fun u s2 hn2 ⟨y, H2, I2, ry, q2⟩ => ho pins s2 σ H2 x y v u Q hn2 I2 rx ry q2)
theorem ptn_cmpR {op : CmpOp} {r : R2} {a b : Expr} {ta tb : TE} {pos : Pos} (ho : OpR X (compareOp op) r) (ha : PEn n X a ta) (hb : PEn n X b tb) (hm : behindInMarks op b = false) : PTn n X (.Compare a [op] [b] pos) (tTest (tOp r ta tb)) := by
  intro pins s σ H Q hn I h
  refine wpAny_isTrue_Compare1 (thnN hn (ha pins s σ H _ hn I h) fun v s1 hn1 ⟨x, H1, I1, r1, q1⟩ => thn (hb pins s1 σ H1 _ hn1 I1 q1) fun u s2 ⟨y, H2, I2, r2, q2⟩ => thn (ho pins s2 σ H2 x y v u _ I2 r1 r2 q2) fun c s3 ⟨z, H3, I3, r3, k, e, q3⟩ => ?_) hm
  subst e
  cases r3
  exact wpAny_truthy_bool ⟨H3, I3, q3⟩
theorem ptn_val {e : Expr} {t : TE} (h : PEn n X e t) (he : ∀ whole, isTrue e X.env whole = (do let v ← whole; standAt e.pos; holding [v] (truthy v)) := by intro _; rfl) : PTn n X e (tB t) := by
  intro pins s σ H Q hn I hw
  rw [he]
  refine wpAny_bind (thn (h pins s σ H _ hn I hw) fun v s1 ⟨x, H1, I1, r1, c, e1, q1⟩ => ?_)
  subst e1
  cases r1
  exact wpAny_bind (wpAny_standAt (wpAny_holding (wpAny_truthy_bool ⟨H1, I1, q1⟩)))
end
/-- nothing raised: whatever is wished of what is raised -/
theorem pssn_nox {X : Cx} {n : Nat} {st : List Stmt} {t : TS} (h : PSsn n X.nox st t) : PSsn n X st t := fun pins s σ H D hn I q =>
  wpAny_mono (h pins s σ H D hn (I.wish _) q) (fun _ _ z => z.unwish) fun _ _ z => False.elim z
theorem fn_n {CX : CXT} {P : Program} {w : World} {K : PySem.W.Frag} {mg : Str → Option Value} {base : Heap} {n k : Nat} {f : Addr} {x qual : Str} {st : Stmt} {fd : FuncData} {N ps : List Str} {sp : Sp} (F : L2.Fun K x qual st f fd) (b : Binds K fd ps []) (S : FnScope N ps (defScope st)) (len : ∀ vs H Q E, sp vs H Q E → vs.length = ps.length)
    (hbody : ∀ (cdv : Value) (A : Around) (outer : List Env) (s : Shared) (H : Hp) (vs : List V) (Q : VK) (E : XK), Room k (A.deeper (envOfC qual (defScope st) s.heap.objs.size f cdv)) → sp vs H Q E →
      ∃ t, PSsn n (cxOf CX P w K mg base N qual (defScope st) f cdv A outer s H E).nox (defBody st) t ∧ t { nx := fun _ H' => Q .non H', rt := Q } (start N vs) H) : FnRn n P w K mg base CX (k + 1) f sp := by
  obtain ⟨oc, od, kV, doc, pm, an, cdv, ct, osl, rfl, lk, hcd⟩ := F.ex
  intro A outer s H us vs Q E hn hr e0 r hsp
  have hl : vs.length = ps.length := len vs H Q E hsp
  have KX : K.In s.heap := e0.mod.kin.keeps fun b o e => (e0.bs b o e).1
  have lim : s.heap.NoLimit := e0.mod.nolimit.keeps fun b o e => (e0.bs b o e).1
  have hkind : ∀ y ∈ ps.zip us, (defScope st).names.lookup y.1 = some .local ∨ ((defScope st).names.lookup y.1 = some .cell ∧ ((cellsFrom (s.heap.objs.size + 1) (defScope st).names []).lookup y.1).isSome = true) := fun ⟨m, v⟩ hy => by
    rcases S.par m (List.of_mem_zip hy).1 with q | q
    · exact .inl q
    · exact .inr ⟨q, PySem.W.cellsFrom_some _ _ _ (.inl q)⟩
  have hul : us.length = ps.length := by rw [← r.length]; exact hl
  have hb := b s us KX (by rw [List.append_nil]; exact hul)
  rw [List.append_nil] at hb
  refine codeAny_call_function hr.depth (KX _ _ lk) rfl S.co S.gen rfl (PySem.W.codeRec_of KX hcd) (hb _ _ _ _ ?_)
  refine wpAny_with_toks hn (wpAny_mono (wpAny_newFunctionEnv_cells (Q := fun env s1 => n ≤ s1.toks → _) S.kind hkind fun env he s1 x hn1 => ?_) (fun _ _ z => z) fun _ _ z _ => z)
  subst he
  refine ⟨lim.keeps x.toInCall.keep, codeAny_func ?_⟩
  obtain ⟨t, ht, hq⟩ := hbody cdv A outer s H vs Q E (hr.deeper _) hsp
  have I : Inv (cxOf CX P w K mg base N qual (defScope st) f cdv A outer s H E) [] (start N vs) H s1 := inv_start S hr.hd e0 hl r x
  refine wpAny_mono (pssn_nox ht [] s1 (start N vs) H _ hn1 I hq) (fun fl s' hs => ?_) fun e s' hs => hs
  have fin : ∀ {σ' : L2.St} {H' : Hp} {v : V} {u : Value}, Inv (cxOf CX P w K mg base N qual (defScope st) f cdv A outer s H E) [] σ' H' s' → RelV v u → Q v H' → CE outer P w H s Q u s' :=
    fun {σ' H' v u} J rv q => ⟨v, H', J.os, J.bare, J.base, J.hok, rv, q⟩
  cases fl with
  | ret u =>
    obtain ⟨v, σ', H', J, rv, q⟩ := hs
    exact fin J rv q
  | next =>
    obtain ⟨σ', H', J, q⟩ := hs
    exact fin (v := V.non) (u := Value.none) J rfl q
  | brk =>
    obtain ⟨_, _, _, q⟩ := hs
    exact False.elim q
  | cont =>
    obtain ⟨_, _, _, q⟩ := hs
    exact False.elim q
end TH
end
section
set_option Elab.async false
set_option maxRecDepth 100000
set_option maxHeartbeats 4000000
set_option linter.all false
namespace TH
open PySem PySem.Spec PyProof.Rows L2
section
variable {X : Cx} {n : Nat}
/-- what a turn leaves of the iterator's own objects -/
theorem turn_back {pins : List (Addr × Obj)} {fp : List Addr} {it : Addr} {tg : Expr} {J : It} {tn : Nat → Heap → Prop} {i : Nat} {h5 : Heap} {σ7 : L2.St} {H7 : Hp} {s7 : Shared} (T : Turn X.prog X.w X.K tg J fp it tn) (st5 : tn i h5)
    (I7 : Inv X (pins ++ pinsAt fp h5) σ7 H7 s7) : tn i s7.heap ∧ ∀ b ∈ fp, H7 b = none := by
  have key : ∀ b ∈ fp, ∀ o, h5.get? b = some o → s7.heap.get? b = some o ∧ H7 b = none := fun b hb o e => by
    obtain ⟨z1, z2, _⟩ := I7.pin (b, o) (List.mem_append_right _ (List.mem_append_right _ (mem_pinsAt hb e)))
    exact ⟨z1, z2⟩
  refine ⟨T.keep _ _ _ st5 fun b hb o e => (key b hb o e).1, fun b hb => ?_⟩
  obtain ⟨o, e, _⟩ := T.obj _ _ st5 b hb
  exact (key b hb o e).2
theorem psn_for {tg iter : Expr} {body : List Stmt} {wi : TI} {g : TG} {tb : TS} {pos : Pos} (hp : PassesOwn (model X.prog X.w) X.A X.env X.xe) (hc : X.calm = true) (hi : PI X tg iter wi) (hg : PG X tg g) (hb : PSsn n X body tb)
    (hs : ∀ x, foldedSetIterable iter X.env x = pure x := by intro _; rfl) : PSn n X (.For tg iter body [] pos) (tFor wi g tb) := by
  intro pins s σ H D hn I h
  refine wpAny_For (thnN hn (hi.run pins s σ H _ I h) fun v s1 hn1 h1 => thnN hn1 h1 fun itv s2 hn2 h2 => ?_) hs
  obtain ⟨it, fp, tn, J, H2, rfl, I2, T, st2, f2, W, ⟨m0, w0⟩, turn⟩ := h2
  refine codeAny_forLoop_any (fun m s' => n ≤ s'.toks ∧ ∃ i σ' H', Inv X pins σ' H' s' ∧ tn i s'.heap ∧ (∀ b ∈ fp, H' b = none) ∧ W i m σ' H') ?_ m0 ⟨hn2, 0, σ, H2, I2, st2, fun b hb => (f2 b hb).1, w0⟩
  rintro m s3 ⟨hn3, i, σ3, H3, I3, st3, fr3, w3⟩
  have ok3 : ∀ {H' : Hp}, (∀ b ∈ fp, H' b = none) → ∀ b ∈ fp, FpOk X pins H' b := fun z b hb => ⟨z b hb, (f2 b hb).2⟩
  rcases turn i m σ3 H3 w3 with ⟨stop, qn⟩ | ⟨go, N, hN, step⟩
  · refine wpAny_passesOwn hp (thn (T.done X rfl rfl rfl hc i pins s3 σ3 H3 X.xe I3 (ok3 fr3) st3 stop) fun r s4 hr => ?_)
    obtain ⟨rfl, I4⟩ := hr
    exact wpAny_execs_nil ⟨σ3, H3, I4, qn⟩
  · refine wpAny_passesOwn hp (thnN hn3 (T.item X rfl rfl rfl hc i pins s3 σ3 H3 X.xe I3 (ok3 fr3) st3 go) fun r s4 hn4 hr => ?_)
    obtain ⟨u, rfl, h4⟩ := hr
    refine wpAny_passesOwn hp (thnN hn4 h4 fun _ s5 hn5 ⟨x, H5, I5, r5, y5, st5, fr5⟩ => ?_)
    have J5 := I5.pinned (ok3 fr5) (T.obj _ _ st5)
    refine wpAny_passesOwn hp (thnN hn5 (hg.run _ s5 σ3 H5 x u _ J5 r5 (step x H5 y5)) fun _ s6 hn6 ⟨σ6, H6, I6, q6⟩ => ?_)
    refine wpAny_passesOwn hp (thnN hn6 (hb _ s6 σ6 H6 _ hn6 I6 q6) fun f s7 hn7 q7 => ?_)
    have more : ∀ {σ7 : L2.St} {H7 : Hp}, Inv X (pins ++ pinsAt fp s5.heap) σ7 H7 s7 → N σ7 H7 → ∃ m', m' < m ∧ (n ≤ s7.toks ∧ ∃ i σ' H', Inv X pins σ' H' s7 ∧ tn i s7.heap ∧ (∀ b ∈ fp, H' b = none) ∧ W i m' σ' H') := fun {σ7 H7} I7 z => by
      obtain ⟨m', hm, w7⟩ := hN σ7 H7 z
      obtain ⟨t1, t2⟩ := turn_back T st5 I7
      exact ⟨m', hm, hn7, i + 1, σ7, H7, I7.unpinned, t1, t2, w7⟩
    cases f with
    | next => obtain ⟨σ7, H7, I7, z⟩ := q7; exact more I7 z
    | cont => obtain ⟨σ7, H7, I7, z⟩ := q7; exact more I7 z
    | brk => obtain ⟨σ7, H7, I7, z⟩ := q7; exact ⟨σ7, H7, I7.unpinned, z⟩
    | ret v => obtain ⟨x7, σ7, H7, I7, r7, z⟩ := q7; exact ⟨x7, σ7, H7, I7.unpinned, r7, z⟩
/-- e.f, a property whose getter promises without tokens; e wants them -/
theorem pen_prop {CX : CXT} {k : Nat} {C p g : Addr} {f : Str} {fd : FuncData} {ps : List Str} {sp : Sp} {dvs : List V} {ds : List Value} {E : XK} {e : Expr} {pos : Pos} {ta : TE} (he : PEn n X e ta) (c : Cls X.K C) (hp : PropOf X.K C f p g)
    (F : FnOk X.prog X.w X.K X.mg X.base CX k g fd ps sp) (hr : Room (k + 1) X.A) (hb : Binds X.K fd ps ds) (hd : Vals dvs ds) (hx : Passes CX X.nox E) (hab : attributeBase e f X.env (eval e X.env) = eval e X.env) :
    PEn n X (.Attribute e f pos) (tProp C sp dvs E ta) := by
  intro pins s σ H Q hn I h
  refine attr_of hab (thn (he pins s σ H _ hn I h) fun u s1 ⟨x, H1, I1, rx, a, dx, fs, ex, ea, q⟩ => ?_)
  subst ex
  obtain rfl : u = Value.ref a := rx
  exact getprop_ok I1 ea c hp F hr hb hd hx q
theorem ptn_not {a : Expr} {tA : TT} {pos : Pos} (ha : PTn n X a tA) : PTn n X (.UnaryOp .Not a pos) (tNot tA) := fun pins s σ H Q hn I h => isTrue_not (ha pins s σ H (fun c H1 => Q (!c) H1) hn I h)
/-- where nothing may be raised -/
theorem thnFN {α : Type} {t : Sem α} {Q Q' : α → Shared → Prop} {M : Model} {A : Around} {E : Value → Shared → Prop} {s : Shared} (hn : n ≤ s.toks) (h : wpAny M A t Q (fun _ _ => False) s) (hQ : ∀ a s', n ≤ s'.toks → Q a s' → Q' a s') : wpAny M A t Q' E s :=
  wpAny_mono (wpAny_toks_of hn h) (fun a s' z => hQ a s' z.1 z.2) fun _ _ z => False.elim z.2
end
section
variable {X : Cx} {n : Nat} {pins : List (Addr × Obj)} {σ : L2.St}
/-- the loop's own context -/
abbrev blkE (X : Cx) (scope : Scope) (s : Shared) : Env := compEnvC scope (cellsFrom (s.heap.objs.size + 1) scope.names (cloFrom X.env.cells scope.names [])) s.heap.objs.size X.env
/-- the iterator's own objects, within the block: as they were, not tracked -/
theorem blk_fp {B : Cx} {fp : List Addr} (hx : ∀ b ∈ fp, b ∈ B.ex) (hp : B.pn = []) {σ' : L2.St} {H' : Hp} {s' : Shared} (J : Inv B [] σ' H' s') (z : ∀ b ∈ fp, H' b = none) : ∀ b ∈ fp, FpOk B [] H' b := fun b hb =>
  ⟨z b hb, (J.ok.exf b (hx b hb)).1, J.ok.exfs b (hx b hb), .inl (hx b hb), fun x c e => (J.ok.exf b (hx b hb)).2 x c e, fun p hp' => by
    rw [hp] at hp'
    cases hp'⟩
/-- a turn's end: the loop's word again -/
theorem blk_turn {B : Cx} {tg : Expr} {J : It} {fp : List Addr} {it : Addr} {tn : Nat → Heap → Prop} {i : Nat} {h7 : Heap} {vs : List Nat} {σ8 : L2.St} {H' : Hp} {s' : Shared} (T : Turn B.prog B.w B.K tg J fp it tn) (st : tn i h7)
    (w8 : wipe σ8 vs = wipe σ vs) (I' : Inv B ([] ++ pinsAt fp h7) σ8 H' s') : Inv B [] (wipe σ vs) H' s' ∧ tn i s'.heap ∧ ∀ b ∈ fp, H' b = none := by
  obtain ⟨t1, t2⟩ := turn_back T st I'
  refine ⟨(I'.unpinned (pins := [])).weak (by rw [← w8, wipe_length]) fun j v e => ?_, t1, t2⟩
  rw [← w8] at e
  exact (wipe_some e).1
/-- what a comprehension with `tYes` reads of its loop -/
abbrev LcW (g : TG) (te : TE) (vs : List Nat) (σ : L2.St) (J : It) (D : Addr) (W : Nat → Nat → Hp → Prop) (Qd : Hp → Prop) : Prop := ∀ i m H, W i m H →
  (J.stop i H ∧ Qd H) ∨ (J.go i H ∧ ∃ Nx : Hp → Prop, (∀ H', Nx H' → ∃ m', m' < m ∧ W (i + 1) m' H') ∧ ∀ x H', J.yld i H x H' → g x (wipe σ vs) H' fun σ2 H2 => wipe σ2 vs = wipe σ vs ∧ tYes σ2 H2 fun b H3 =>
    if b = true then te σ2 H3 fun y H4 => ∃ acc, H4 D = some (.lst acc) ∧ acc.length < sizeLine ∧ Nx (upd H4 D (.lst (acc ++ [y]))) else Nx H3)
/-- the loop of the block, in the block's own context B -/
theorem lcn_loop {B : Cx} {elt tg iter : Expr} {scope : Scope} {pos : Pos} {g : TG} {te : TE} {vs : List Nat} {J : It} {fp : List Addr} {it D : Addr} {tn : Nat → Heap → Prop} {W : Nat → Nat → Hp → Prop} {Qd : Hp → Prop} {R : Result → Shared → Prop} {H : Hp} {s : Shared} {m0 : Nat}
    (hx : ∀ b ∈ fp, b ∈ B.ex) (hpn : B.pn = []) (hxe : B.xe = fun _ _ => False) (hc : B.calm = true) (T : Turn B.prog B.w B.K tg J fp it tn) (pg : PG B tg g) (pe : PEn n B elt te) (turn : LcW g te vs σ J D W Qd)
    (fin : ∀ H' s', Inv B [] (wipe σ vs) H' s' → Qd H' → R (.ok .next) s') (hn : n ≤ s.toks) (I : Inv B [] (wipe σ vs) H s) (st : tn 0 s.heap) (hf : ∀ b ∈ fp, H b = none) (w0 : W 0 m0 H) :
    codeAny (model B.prog B.w) B.A (.compLoop (.ListComp elt [⟨tg, iter, [], 0⟩] scope pos) 0 (.ref it) (.ref D) B.env) R s := by
  refine compLoop_any (fun m t => n ≤ t.toks ∧ ∃ i H', Inv B [] (wipe σ vs) H' t ∧ tn i t.heap ∧ (∀ b ∈ fp, H' b = none) ∧ W i m H') ?_ m0 ⟨hn, 0, H, I, st, hf, w0⟩
  rintro m t ⟨hm, i, H1, I1, st1, f1, w1⟩
  rcases turn i m H1 w1 with ⟨stop, qd⟩ | ⟨go, Nx, hNx, step⟩
  · refine thnFN hm (T.done B rfl rfl rfl hc i [] t _ H1 (fun _ _ => False) I1 (blk_fp hx hpn I1 f1) st1 stop) fun r t2 _ ⟨e, I2⟩ => ?_
    rw [e]
    exact fin H1 t2 I2 qd
  · refine thnFN hm (T.item B rfl rfl rfl hc i [] t _ H1 (fun _ _ => False) I1 (blk_fp hx hpn I1 f1) st1 go) fun r t2 hm2 ⟨u, e, more⟩ => ?_
    rw [e]
    refine thnFN hm2 more fun _ t3 hm3 ⟨x, H3, I3, rx, y3, st3, f3⟩ => ?_
    have pinned := I3.pinned (blk_fp hx hpn I3 f3) (T.obj _ _ st3)
    have h4 := pg.run _ t3 _ H3 x u _ pinned rx (step x H3 y3)
    rw [hxe] at h4
    refine thnFN hm3 h4 fun _ t4 hm4 ⟨σ4, H4, I4, w4, q4⟩ => ?_
    refine wpAny_tests_nil ?_
    have h5 := pe _ t4 σ4 H4 _ hm4 I4 (show te σ4 H4 _ from q4)
    rw [hxe] at h5
    show if true = true then _ else _
    rw [if_pos rfl]
    refine thnFN hm4 h5 fun z t5 hm5 ⟨yv, H5, I5, r5, acc, hD, hz, nx⟩ => ?_
    refine thnFN hm5 (app_ok (X := B) (E := fun _ _ => False) (Q := fun _ t6 => ∃ H6, Inv B _ σ4 H6 t6 ∧ Nx H6) I5 hD hz r5 fun t6 I6 => ⟨_, I6, nx⟩) fun _ t6 hm6 ⟨H6, I6, nx6⟩ => ?_
    obtain ⟨m', lt, w6⟩ := hNx H6 nx6
    obtain ⟨k1, k2, k3⟩ := blk_turn T st3 w4 I6
    exact ⟨m', lt, hm6, i + 1, H6, k1, k2, k3, w6⟩
theorem lcn_core {s : Shared} {H : Hp} {Q : VK} {elt tg iter : Expr} {scope : Scope} {own : List (Str × Nat)} {pos pos' : Pos} {wi : TI} {g : TG} {te : TE} {use : Option (Value → Sem Unit)} {Qf : Value → Shared → Prop}
    (hc : X.calm = true) (hN : X.N.Nodup) (hn : n ≤ s.toks) (I : Inv X pins σ H s) (hi : PI X tg iter wi) (ok : BlkOk X.N X.env.scope scope own)
    (hg : ∀ (s : Shared) (H : Hp) (C : Addr) (cl : List (Str × Addr)) (fp : List Addr), PG (X.blk s H scope (compEnvC scope cl C X.env) fp) tg g)
    (he : ∀ (s : Shared) (H : Hp) (C : Addr) (cl : List (Str × Addr)) (fp : List Addr), PEn n (X.blk s H scope (compEnvC scope cl C X.env) fp) elt te) (hs : ∀ x, foldedSetIterable iter X.env x = pure x)
    (h : tLc wi g tYes te (own.map (·.2)) σ H Q)
    (hRR : ∀ D C s' m H', Inv X pins σ H' s' → Q (.ref D) H' → s'.heap.Ns C m → FpOk X pins H' C → compPost (model X.prog X.w) X.A X.xe use Qf (.ref D) C (.ok .next) s') :
    wpAny (model X.prog X.w) X.A (comprehension (.ListComp elt [⟨tg, iter, [], 0⟩] scope pos) scope X.env pos' (newList []) false (eval iter X.env) use) Qf X.xe s := by
  have known : ∀ y ∈ scope.names, y.2 = .free → ∃ c, X.env.cells.lookup y.1 = some c := fun y hy e => (ok.free y hy e).elim (fun k => I.ok.has _ (.inl k)) fun k => I.ok.has _ (.inr k)
  refine wpAny_comprehension_free (use := use) rfl hs (closure_ok known) ok.kind (fun y hy e => by rw [ok.uniq y hy, e]) ?_
  refine thnN hn (hi.run pins s σ H _ I h) fun xv s1 hn1 hx => thnN hn1 hx fun itv s2 hn2 h2 => ?_
  obtain ⟨it, fp, tn, J, H2, rfl, I2, T, st2, f2, q⟩ := h2
  refine wpAny_newObj_type (newEnv_comp ?_) (by show 0 ≤ sizeLine; decide)
  have free2 : H2 s2.heap.objs.size = none := I2.hok.fresh (Nat.le_refl _)
  have below : ∀ b ∈ fp, b < s2.heap.objs.size := fun b hb => by
    obtain ⟨o, e, _⟩ := T.obj _ _ st2 b hb
    exact Heap.lt_size e
  have laid3 : Inv X pins σ (upd H2 s2.heap.objs.size (.lst [])) { s2 with heap := s2.heap.push { cls := .type "list", data := .seq ([] : List Value).toArray } } :=
    I2.laid (t' := s2.toks) (fun b o e => Heap.get?_push_of_some _ e) (Nat.le_refl _) ⟨Nat.zero_le _, [], 0, .nil, Heap.get?_push_size _ rfl⟩
  have st3 : tn 0 (s2.heap.push { cls := .type "list", data := .seq ([] : List Value).toArray }) := T.keep _ _ _ st2 fun b _ o e => Heap.get?_push_of_some _ e
  obtain ⟨W, ⟨m0, w0⟩, turn⟩ := q _ free2
  generalize hD : s2.heap.objs.size = D at free2 below laid3 turn w0 ⊢
  generalize hH3 : upd H2 D (.lst []) = H3 at laid3 w0
  have f3 : ∀ b ∈ fp, FpOk X pins H3 b ∧ b < ({ s2 with heap := s2.heap.push { cls := .type "list", data := .seq ([] : List Value).toArray } } : Shared).heap.objs.size := fun b hb => by
    have lt := below b hb
    refine ⟨⟨?_, (f2 b hb).2⟩, ?_⟩
    · rw [← hH3, upd_ne (Nat.ne_of_lt lt)]
      exact (f2 b hb).1
    · show b < (s2.heap.push _).objs.size
      rw [Heap.size_push, hD]
      exact Nat.lt_succ_of_lt lt
  generalize hs3 : ({ s2 with heap := s2.heap.push { cls := .type "list", data := .seq ([] : List Value).toArray } } : Shared) = s3 at laid3 f3
  have h3 : s2.heap.push { cls := .type "list", data := .seq ([] : List Value).toArray } = s3.heap := by rw [← hs3]
  have hn3 : n ≤ s3.toks := by rw [← hs3]; exact hn2
  rw [h3] at st3
  have I4 := block_start laid3 ok hN f3
  have st4 : tn 0 (pushCells (s3.heap.push { cls := .type "dict", data := .dict #[] }) scope.names) := T.keep _ _ _ st3 fun b _ o e => pushCells_keeps _ _ _ _ (Heap.get?_push_of_some _ e)
  show codeAny _ _ (.compStart (.ListComp elt [⟨tg, iter, [], 0⟩] scope pos) 0 (.ref it) (.ref D) (blkE X scope s3)) (compPost (model X.prog X.w) X.A X.xe use Qf (.ref D) s3.heap.objs.size) { s3 with heap := pushCells (s3.heap.push { cls := .type "dict", data := .dict #[] }) scope.names }
  have loop : codeAny (model X.prog X.w) X.A (.compLoop (.ListComp elt [⟨tg, iter, [], 0⟩] scope pos) 0 (.ref it) (.ref D) (blkE X scope s3)) (compPost (model X.prog X.w) X.A X.xe use Qf (.ref D) s3.heap.objs.size) { s3 with heap := pushCells (s3.heap.push { cls := .type "dict", data := .dict #[] }) scope.names } := by
    refine lcn_loop (B := X.blk s3 H3 scope (blkE X scope s3) fp) (n := n) (J := J) (Qd := Q (.ref D)) (W := W) (vs := own.map (·.2)) (σ := σ) (fun b hb => hb) rfl rfl hc T (hg _ _ _ _ _) (he _ _ _ _ _) turn ?_ hn3 I4 st4 (fun b hb => (f3 b hb).1.1) w0
    intro H' s' J' qd
    have back : Inv X pins σ H' s' := laid3.call' (ch := fp) J'.os J'.base J'.hok J'.bare fun b hb => ⟨(f3 b hb).1.2.2.2.1, (f3 b hb).1.2.1, (f3 b hb).1.2.2.2.2.1, (f3 b hb).1.2.2.2.2.2⟩
    obtain ⟨m, hm, _⟩ := J'.loc
    exact hRR D s3.heap.objs.size s' m H' back qd hm (laid3.fpOk (Nat.le_refl _) J'.free)
  exact codeAny_compStart_list loop (T.self X.A 0 _ _ _ st4 loop)
/-- [e for x in xs], e wants n tokens out -/
theorem pen_lc {elt tg iter : Expr} {scope : Scope} {own : List (Str × Nat)} {pos : Pos} {wi : TI} {g : TG} {te : TE} (hc : X.calm = true) (hN : X.N.Nodup) (hi : PI X tg iter wi) (ok : BlkOk X.N X.env.scope scope own)
    (hg : ∀ (s : Shared) (H : Hp) (C : Addr) (cl : List (Str × Addr)) (fp : List Addr), PG (X.blk s H scope (compEnvC scope cl C X.env) fp) tg g)
    (he : ∀ (s : Shared) (H : Hp) (C : Addr) (cl : List (Str × Addr)) (fp : List Addr), PEn n (X.blk s H scope (compEnvC scope cl C X.env) fp) elt te) (hs : ∀ x, foldedSetIterable iter X.env x = pure x := by intro _; rfl) :
    PEn n X (.ListComp elt [⟨tg, iter, [], 0⟩] scope pos) (tLc wi g tYes te (own.map (·.2))) := by
  intro pins s σ H Q hn I h
  rw [eval_ListComp]
  refine lcn_core hc hN hn I hi ok hg he hs h fun D C s' m H' I' q hns f => ⟨m, hns, fun h2 sb => ?_⟩
  obtain ⟨a0, a1, _, a3, a4, a5⟩ := f
  exact ⟨.ref D, H', I'.turned (t' := s'.toks) (fun b o hb e => (sb.2 b hb).trans e) a0 a1 a3 a4 a5, rfl, q⟩
/-- y = [e for x in xs] on one line, y a local -/
theorem psn_setLc {i : Nat} {y : Str} {py : Pos} {elt tg iter : Expr} {scope : Scope} {own : List (Str × Nat)} {pos spos : Pos} {wi : TI} {g : TG} {te : TE} (hc : X.calm = true) (hN : X.N.Nodup) (hy : X.N[i]? = some y) (hyl : X.env.scope.names.lookup y = some .local)
    (hsw : swapsWith (.ListComp elt [⟨tg, iter, [], 0⟩] scope pos) (some (.Name y py)) spos.line X.env = pure true) (hi : PI X tg iter wi) (ok : BlkOk X.N X.env.scope scope own)
    (hg : ∀ (s : Shared) (H : Hp) (C : Addr) (cl : List (Str × Addr)) (fp : List Addr), PG (X.blk s H scope (compEnvC scope cl C X.env) fp) tg g)
    (he : ∀ (s : Shared) (H : Hp) (C : Addr) (cl : List (Str × Addr)) (fp : List Addr), PEn n (X.blk s H scope (compEnvC scope cl C X.env) fp) elt te) (hs : ∀ x, foldedSetIterable iter X.env x = pure x := by intro _; rfl) :
    PSn n X (.Assign [.Name y py] (.ListComp elt [⟨tg, iter, [], 0⟩] scope pos) spos) (tAsg (tLc wi g tYes te (own.map (·.2))) (gName i)) := by
  intro pins s σ H D hn I h
  rw [exec_Assign_Name_used _ _ _ _ hsw]
  refine wpAny_bind (wpAny_standAt (wpAny_bind ?_))
  show wpAny _ X.A (do let _ ← comprehension (.ListComp elt [⟨tg, iter, [], 0⟩] scope pos) scope X.env (firstIterPos [⟨tg, iter, [], 0⟩] pos) (newList []) false (eval iter X.env) (some (assign (.Name y py) X.env))) _ _ s
  have h' : tLc wi g tYes te (own.map (·.2)) σ H (fun x H1 => gName i x σ H1 D.nx) := h
  refine wpAny_bind (thn (lcn_core (Qf := fun _ s' => SP X pins D .next s') hc hN hn I hi ok hg he hs h' fun L C s' m H' I' q hns f => ?_) fun _ s' hq => wpAny_pure (wpAny_pure hq))
  show wpAny _ _ (assign (.Name y py) X.env (.ref L)) _ _ _
  refine wpAny_assign_Name (store_ok2 (v := V.ref L) I' hN hy (.inl hyl) rfl (fun s2 I2 ⟨a, sb, ha⟩ => ?_) (.inr hyl))
  obtain ⟨a0, a1, _, a3, a4, a5⟩ := f
  have haC : C ≠ a := ha.elim (fun z => by rw [z]; exact a1) fun z e => a4 y a z e.symm
  exact ⟨m, hns.sameBut sb haC, fun h3 sb3 => ⟨_, H', I2.turned (t' := s2.toks) (fun b o hb e => (sb3.2 b hb).trans e) a0 a1 a3 a4 a5, q⟩⟩
end
end TH
end
section
set_option maxHeartbeats 4000000
set_option linter.all false
namespace TM
/-- is it a tilt along rows -/
def isH (c : Nat) : Bool := c == 108 || c == 114
end TM
end
section
set_option maxHeartbeats 4000000
set_option linter.all false
namespace TM
def mb (l : List Nat) : List Nat := l.filter fun c => c != 46
def dots (n : Nat) : List Nat := List.replicate n 46
def sl (s : Bool) (l : List Nat) : List Nat := if s then mb l ++ dots (l.length - (mb l).length) else dots (l.length - (mb l).length) ++ mb l
theorem mb_le (l : List Nat) : (mb l).length ≤ l.length := List.length_filter_le _ _
theorem mb_dots (n : Nat) : mb (dots n) = [] := by
  unfold mb dots
  rw [List.filter_eq_nil_iff]
  intro a ha
  rw [(List.mem_replicate.mp ha).2]
  decide
theorem mb_app (a b : List Nat) : mb (a ++ b) = mb a ++ mb b := List.filter_append ..
theorem mb_mb (l : List Nat) : mb (mb l) = mb l := by unfold mb; rw [List.filter_filter]; simp
theorem sl_len (s : Bool) (l : List Nat) : (sl s l).length = l.length := by
  have := mb_le l
  cases s <;> simp [sl, dots] <;> omega
theorem mb_sl (s : Bool) (l : List Nat) : mb (sl s l) = mb l := by
  cases s <;> simp [sl, mb_app, mb_dots, mb_mb]
theorem sl_sl (s s' : Bool) (l : List Nat) : sl s (sl s' l) = sl s l := by
  have h := sl_len s' l
  have h2 := mb_sl s' l
  unfold sl at h h2 ⊢
  rw [h, h2]
/-- where a slid line is empty -/
theorem sl_at (s : Bool) (l : List Nat) (j : Nat) (hj : j < l.length) : ((sl s l).getD j 46 = 46) ↔ (if s then (mb l).length ≤ j else j < l.length - (mb l).length) := by
  have hm : ∀ c ∈ mb l, c ≠ 46 := fun c hc => by
    have := (List.mem_filter.mp hc).2
    simpa using this
  have hle := mb_le l
  rw [List.getD_eq_getElem?_getD]
  cases s with
  | true =>
    simp only [sl, if_true]
    by_cases h : j < (mb l).length
    · rw [List.getElem?_append_left h, List.getElem?_eq_getElem h]
      have := hm _ (List.getElem_mem h)
      constructor
      · intro e
        exact absurd e this
      · intro e
        omega
    · rw [List.getElem?_append_right (by omega)]
      unfold dots
      rw [List.getElem?_replicate]
      constructor
      · intro _
        omega
      · intro _
        split <;> rfl
  | false =>
    simp only [sl, Bool.false_eq_true, if_false]
    by_cases h : j < l.length - (mb l).length
    · rw [List.getElem?_append_left (by simp [dots]; omega)]
      unfold dots
      rw [List.getElem?_replicate, if_pos h]
      exact ⟨fun _ => h, fun _ => rfl⟩
    · have hk : j - (l.length - (mb l).length) < (mb l).length := by omega
      rw [List.getElem?_append_right (by simp [dots]; omega)]
      have e : (dots (l.length - (mb l).length)).length = l.length - (mb l).length := by simp [dots]
      rw [e, List.getElem?_eq_getElem hk]
      have := hm _ (List.getElem_mem hk)
      exact ⟨fun q => absurd q this, fun q => absurd q h⟩
/-- pushed to one end -/
def Ju (s : Bool) (l : List Nat) : Prop := ∀ j, j + 1 < l.length → if s then l.getD j 46 = 46 → l.getD (j + 1) 46 = 46 else l.getD (j + 1) 46 = 46 → l.getD j 46 = 46
theorem all_dots : ∀ {l : List Nat}, (∀ j, j + 1 < l.length → l.getD j 46 = 46 → l.getD (j + 1) 46 = 46) → l.getD 0 46 = 46 → l = dots l.length
  | [], _, _ => rfl
  | [a], _, h0 => by
    have : a = 46 := h0
    subst this
    rfl
  | a :: b :: r, h, h0 => by
    have ha : a = 46 := h0
    have hb : b = 46 := h 0 (by simp) h0
    have z := all_dots (l := b :: r) (fun j hj q => h (j + 1) (by simp at hj ⊢; omega) q) hb
    subst ha
    rw [z]
    simp [dots, List.replicate_succ]
theorem ju_left : ∀ {l : List Nat}, Ju true l → sl true l = l
  | [], _ => rfl
  | a :: r, h => by
    have h' : ∀ j, j + 1 < (a :: r).length → (a :: r).getD j 46 = 46 → (a :: r).getD (j + 1) 46 = 46 := fun j hj => by simpa using h j hj
    by_cases e : a = 46
    · have z := all_dots h' (show a = 46 from e)
      rw [z]
      simp only [sl, if_true, mb_dots]
      simp [dots]
    · have z := ju_left (l := r) fun j hj => by
        have q := h' (j + 1) (by simp at hj ⊢; omega)
        simpa using q
      simp only [sl, if_true] at z ⊢
      have em : mb (a :: r) = a :: mb r := by simp [mb, List.filter_cons, e]
      have el : (a :: r).length - (mb (a :: r)).length = r.length - (mb r).length := by rw [em]; simp
      rw [el, em, List.cons_append, z]
theorem ju_rev {l : List Nat} (h : Ju false l) : Ju true l.reverse := fun j hj => by
  have hj' : j + 1 < l.length := by simpa using hj
  have z := h (l.length - 1 - (j + 1)) (by omega)
  simp only [if_true]
  simp only [Bool.false_eq_true, if_false] at z
  have e : l.length - 1 - (j + 1) + 1 = l.length - 1 - j := by omega
  rw [e] at z
  rw [List.getD_eq_getElem?_getD, List.getElem?_reverse (by omega), List.getD_eq_getElem?_getD, List.getElem?_reverse (by omega)]
  rw [List.getD_eq_getElem?_getD, List.getD_eq_getElem?_getD] at z
  exact z
theorem sl_rev (l : List Nat) : sl false l = (sl true l.reverse).reverse := by
  have e : mb l.reverse = (mb l).reverse := by unfold mb; rw [List.filter_reverse]
  simp [sl, e, dots]
theorem ju_sl {s : Bool} {l : List Nat} (h : Ju s l) : sl s l = l := by
  cases s with
  | true => exact ju_left h
  | false => rw [sl_rev, ju_left (ju_rev h), List.reverse_reverse]
theorem sl_ju (s : Bool) (l : List Nat) : Ju s (sl s l) := fun j hj => by
  rw [sl_len] at hj
  have h1 := sl_at s l j (by omega)
  have h2 := sl_at s l (j + 1) hj
  cases s with
  | true =>
    simp only [if_true] at h1 h2 ⊢
    rw [h1, h2]
    omega
  | false =>
    simp only [Bool.false_eq_true, if_false] at h1 h2 ⊢
    rw [h1, h2]
    omega
abbrev Grid := List (List Nat)
def tr (m : Nat) (g : Grid) : Grid := (List.range m).map fun j => g.map fun r => r.getD j 46
def Rect (n m : Nat) (g : Grid) : Prop := g.length = n ∧ ∀ r ∈ g, r.length = m
theorem tr_rect {n m : Nat} {g : Grid} (h : Rect n m g) : Rect m n (tr m g) := by
  refine ⟨by simp [tr], fun r hr => ?_⟩
  obtain ⟨j, _, rfl⟩ := List.mem_map.mp hr
  simp [h.1]
theorem tr_get {m j : Nat} {g : Grid} (hj : j < m) : (tr m g)[j]? = some (g.map fun r => r.getD j 46) := by
  unfold tr
  rw [List.getElem?_map, List.getElem?_range hj]
  rfl
theorem tr_tr {n m : Nat} {g : Grid} (h : Rect n m g) : tr n (tr m g) = g := by
  refine List.ext_getElem? fun i => ?_
  by_cases hi : i < n
  · rw [tr_get hi]
    have hi' : i < g.length := by rw [h.1]; exact hi
    rw [List.getElem?_eq_getElem hi']
    congr 1
    have hl : g[i].length = m := h.2 _ (List.getElem_mem hi')
    refine List.ext_getElem? fun j => ?_
    rw [List.getElem?_map]
    by_cases hj : j < m
    · rw [tr_get hj]
      show some ((g.map fun r => r.getD j 46).getD i 46) = _
      rw [List.getD_eq_getElem?_getD, List.getElem?_map, List.getElem?_eq_getElem hi']
      show some (g[i].getD j 46) = _
      rw [List.getD_eq_getElem?_getD, List.getElem?_eq_getElem (by omega)]
      rfl
    · rw [List.getElem?_eq_none (by rw [(tr_rect h).1]; omega), List.getElem?_eq_none (by omega)]
      rfl
  · rw [List.getElem?_eq_none (by rw [(tr_rect (tr_rect h)).1]; omega), List.getElem?_eq_none (by rw [h.1]; omega)]
def LT (s : Bool) (g : Grid) : Grid := g.map (sl s)
def UT (s : Bool) (n m : Nat) (g : Grid) : Grid := tr n (LT s (tr m g))
theorem lt_rect {s : Bool} {n m : Nat} {g : Grid} (h : Rect n m g) : Rect n m (LT s g) := by
  refine ⟨by simp [LT, h.1], fun r hr => ?_⟩
  obtain ⟨q, hq, rfl⟩ := List.mem_map.mp hr
  rw [sl_len]
  exact h.2 q hq
theorem ut_rect {s : Bool} {n m : Nat} {g : Grid} (h : Rect n m g) : Rect n m (UT s n m g) := tr_rect (lt_rect (tr_rect h))
theorem lt_lt (a b : Bool) (g : Grid) : LT b (LT a g) = LT b g := by
  unfold LT
  rw [List.map_map]
  refine List.map_congr_left fun r _ => ?_
  exact sl_sl b a r
theorem ut_ut {a b : Bool} {n m : Nat} {g : Grid} (h : Rect n m g) : UT b n m (UT a n m g) = UT b n m g := by
  unfold UT
  rw [tr_tr (lt_rect (tr_rect h)), lt_lt]
/-- the core: a tray pushed to one side stays pushed to it when it is tilted along the other axis -/
theorem lul {a o : Bool} {n m : Nat} {g : Grid} (h : Rect n m g) : LT a (UT o n m (LT a g)) = UT o n m (LT a g) := by
  have hy := lt_rect (s := a) h
  generalize ey : LT a g = y at hy
  have hju : ∀ r ∈ y, Ju a r := fun r hr => by
    rw [← ey] at hr
    obtain ⟨q, _, rfl⟩ := List.mem_map.mp hr
    exact sl_ju a q
  have hz := ut_rect (s := o) hy
  suffices H : ∀ r ∈ UT o n m y, Ju a r by
    unfold LT
    conv => rhs; rw [← List.map_id (UT o n m y)]
    exact List.map_congr_left fun r hr => ju_sl (H r hr)
  intro r hr
  obtain ⟨i, hi, rfl⟩ := List.mem_map.mp hr
  have hi' := List.mem_range.mp hi
  have cnt : ∀ j, j + 1 < m → if a then (mb (y.map fun r => r.getD (j + 1) 46)).length ≤ (mb (y.map fun r => r.getD j 46)).length else (mb (y.map fun r => r.getD j 46)).length ≤ (mb (y.map fun r => r.getD (j + 1) 46)).length := by
    intro j hj
    have key : ∀ (z : Grid), (∀ r ∈ z, r.length = m ∧ Ju a r) → if a then (mb (z.map fun r => r.getD (j + 1) 46)).length ≤ (mb (z.map fun r => r.getD j 46)).length else (mb (z.map fun r => r.getD j 46)).length ≤ (mb (z.map fun r => r.getD (j + 1) 46)).length := by
      intro z
      induction z with
      | nil => intro _; cases a <;> simp [mb]
      | cons r z ih =>
        intro hz
        have q1 := ih fun r' hr' => hz r' (List.mem_cons_of_mem _ hr')
        obtain ⟨hl, hJ⟩ := hz r (List.mem_cons_self ..)
        have hJ' := hJ j (by omega)
        cases a with
        | true =>
          simp only [if_true] at q1 hJ' ⊢
          simp only [mb, List.map_cons, List.filter_cons] at q1 ⊢
          by_cases e : r.getD j 46 = 46
          · rw [hJ' e, e]
            simpa using q1
          · by_cases e2 : r.getD (j + 1) 46 = 46
            · rw [e2]
              simp only [bne_self_eq_false, Bool.false_eq_true, if_false]
              rw [if_pos (by simpa using e)]
              simp only [List.length_cons]
              omega
            · rw [if_pos (by simpa using e2), if_pos (by simpa using e)]
              simp only [List.length_cons]
              omega
        | false =>
          simp only [Bool.false_eq_true, if_false] at q1 hJ' ⊢
          simp only [mb, List.map_cons, List.filter_cons] at q1 ⊢
          by_cases e : r.getD (j + 1) 46 = 46
          · rw [hJ' e, e]
            simpa using q1
          · by_cases e2 : r.getD j 46 = 46
            · rw [e2]
              simp only [bne_self_eq_false, Bool.false_eq_true, if_false]
              rw [if_pos (by simpa using e)]
              simp only [List.length_cons]
              omega
            · rw [if_pos (by simpa using e2), if_pos (by simpa using e)]
              simp only [List.length_cons]
              omega
    exact key y fun r hr => ⟨hy.2 r hr, hju r hr⟩
  have at_ : ∀ j, j < m → ((LT o (tr m y)).map fun r => r.getD i 46).getD j 46 = (sl o (y.map fun r => r.getD j 46)).getD i 46 := fun j hj => by
    rw [List.getD_eq_getElem?_getD, List.getElem?_map, LT, List.getElem?_map, tr_get hj]
    rfl
  intro j hj
  have hjm : j + 1 < m := by
    have : ((LT o (tr m y)).map fun r => r.getD i 46).length = m := by simp [LT, (tr_rect hy).1]
    omega
  rw [at_ j (by omega), at_ (j + 1) hjm]
  have s1 := sl_at o (y.map fun r => r.getD j 46) i (by simp [hy.1]; exact hi')
  have s2 := sl_at o (y.map fun r => r.getD (j + 1) 46) i (by simp [hy.1]; exact hi')
  have c := cnt j hjm
  have l1 : (y.map fun r => r.getD j 46).length = n := by simp [hy.1]
  have l2 : (y.map fun r => r.getD (j + 1) 46).length = n := by simp [hy.1]
  rw [l1] at s1
  rw [l2] at s2
  cases a <;> cases o <;> simp only [if_true, Bool.false_eq_true, if_false] at c s1 s2 ⊢ <;> rw [s1, s2] <;> omega
theorem ulu {a o : Bool} {n m : Nat} {g : Grid} (h : Rect n m g) : UT a n m (LT o (UT a n m g)) = LT o (UT a n m g) := by
  have z := lul (a := a) (o := o) (tr_rect h)
  have e1 : LT o (UT a n m g) = tr n (UT o m n (LT a (tr m g))) := by
    unfold UT
    rw [tr_tr (lt_rect (tr_rect (lt_rect (tr_rect h))))]
  have hr : Rect m n (UT o m n (LT a (tr m g))) := ut_rect (lt_rect (tr_rect h))
  rw [e1]
  show tr n (LT a (tr m (tr n (UT o m n (LT a (tr m g)))))) = _
  rw [tr_tr hr, z]
/-- a tilt -/
def tilt (n m : Nat) (g : Grid) (c : Nat) : Grid := if isH c then LT (c == 108) g else UT (c == 117) n m g
theorem tilt_rect {n m c : Nat} {g : Grid} (h : Rect n m g) : Rect n m (tilt n m g c) := by
  unfold tilt
  split
  · exact lt_rect h
  · exact ut_rect h
def tilts (n m : Nat) (t : List Nat) (g : Grid) : Grid := t.foldl (tilt n m) g
theorem tilts_rect {n m : Nat} : ∀ (t : List Nat) {g : Grid}, Rect n m g → Rect n m (tilts n m t g)
  | [], _, h => h
  | c :: t, g, h => tilts_rect t (tilt_rect (c := c) h)
theorem tilts_snoc {n m c : Nat} (t : List Nat) (g : Grid) : tilts n m (t ++ [c]) g = tilt n m (tilts n m t g) c := by simp [tilts]
end TM
end
section
set_option Elab.async false
set_option maxRecDepth 100000
set_option linter.all false
namespace TK
open PySem L2
def top (i : Nat) : Stmt := PySem.Challenge.pw_tiltheap_k17_whole_observers_keep_the_tr.main.body.getD i (.Pass ⟨0, 0, 0, 0⟩)
abbrev sUnknownMarbleInit : Stmt := inClass (top 5) 0
abbrev sIsNumber : Stmt := top 10
abbrev sIsPlace : Stmt := top 11
abbrev sCheckNumber : Stmt := top 12
abbrev sCheckMarble : Stmt := top 13
abbrev sCheckPlace : Stmt := top 14
abbrev sIsTilt : Stmt := top 20
abbrev sWordInit : Stmt := inClass (top 21) 1
abbrev sWordText : Stmt := inClass (top 21) 2
abbrev sFirstWrongIndex : Stmt := top 22
abbrev sTrayInit : Stmt := inClass (top 27) 0
abbrev sTrayOfText : Stmt := inClass (top 27) 1
abbrev sTrayRows : Stmt := inClass (top 27) 2
abbrev sTrayMarbles : Stmt := inClass (top 27) 3
abbrev sTrayHeight : Stmt := inClass (top 27) 4
abbrev sTrayWidth : Stmt := inClass (top 27) 5
abbrev sTrayAt : Stmt := inClass (top 27) 6
abbrev sTrayCall : Stmt := inClass (top 27) 7
abbrev sTrayContains : Stmt := inClass (top 27) 8
abbrev sTrayRshift : Stmt := inClass (top 27) 9
abbrev sTrayEq : Stmt := inClass (top 27) 10
abbrev sFirstWrongCell : Stmt := top 28
abbrev sIsRow : Stmt := top 29
abbrev sTilted : Stmt := top 30
abbrev sSlid : Stmt := top 31
abbrev sAfterRounds : Stmt := top 34
abbrev sMarbleAfter : Stmt := top 35
abbrev sExchange : Stmt := top 36
abbrev sCircleFrom : Stmt := top 37
abbrev sWordObserverInit : Stmt := inClass (top 40) 0
abbrev sWordObserverFromLog : Stmt := inClass (top 40) 1
abbrev sWordObserverCandidates : Stmt := inClass (top 40) 2
abbrev sWordObserverObservations : Stmt := inClass (top 40) 3
abbrev sWordObserverSeeMarble : Stmt := inClass (top 40) 4
abbrev sWordObserverSeeRow : Stmt := inClass (top 40) 5
abbrev sWordObserverTraysAfter : Stmt := inClass (top 40) 6
abbrev sWordObserverTellingRound : Stmt := inClass (top 40) 7
abbrev sWordObserverAccept : Stmt := inClass (top 40) 8
abbrev sSurelyAt : Stmt := top 41
abbrev sLawTaken : Stmt := top 43
abbrev sLawGreat : Stmt := top 44
abbrev sLawRows : Stmt := top 45
abbrev sLawText : Stmt := top 46
abbrev sLawTray : Stmt := top 47
abbrev sLawIsSeen : Stmt := top 48
abbrev sLawAreAnswers : Stmt := top 49
abbrev sLaw : Stmt := top 50
/-- a text by its signs; one sign -/
abbrev S (t : List Nat) : Str := ⟨t.toArray⟩
abbrev sg (c : Nat) : V := .str ⟨#[c]⟩
theorem S_len (t : List Nat) : (S t).length = t.length := SX.S_len t
theorem S_size (t : List Nat) : (S t).cps.size = t.length := by simp [S]
theorem S_at (t : List Nat) (i : Nat) : (S t).cps[i]? = t[i]? := by simp [S]
theorem S_list (t : List Nat) : (S t).cps.toList = t := by simp [S]
theorem S_of (z : Str) : z = S z.cps.toList := (SX.S_tl z).symm
theorem S_inj {a b : List Nat} (h : S a = S b) : a = b := SX.S_inj h
theorem join_S (a : List Nat) (ys : List (List Nat)) : Txt.join (S a) (ys.map S) = S (TL.joinL a ys) := SX.join_S a ys
theorem joinL_nil : ∀ l : List (List Nat), TL.joinL [] l = l.flatten
  | [] => rfl
  | [p] => by simp [TL.joinL]
  | p :: q :: r => by
    have := joinL_nil (q :: r)
    simp only [TL.joinL, List.nil_append, this, List.flatten_cons]
theorem flat_ones : ∀ l : List Nat, (l.map fun c => [c]).flatten = l
  | [] => rfl
  | c :: r => by simp [flat_ones r]
theorem join_signs (l : List Nat) : Txt.join (Str.ofString "") (l.map fun c => S [c]) = S l := by
  have e := join_S [] (l.map fun c => [c])
  rw [List.map_map, joinL_nil, flat_ones] at e
  exact e
theorem sum_ones (l : List Nat) : ((l.map fun c => S [c]).map (·.length)).sum = l.length := by
  induction l with
  | nil => rfl
  | cons c r ih =>
    rw [List.map_cons, List.map_cons, List.sum_cons, ih]
    show 1 + r.length = r.length + 1
    omega
theorem same_new {H : Hp} {l : Addr} {o : HO} (h : H l = none) : Same H (upd H l o) := fun b o' e => by
  rw [upd_ne (ne_of_none e h)]
  exact e
theorem _root_.L2.Same.tup {K : PySem.W.Frag} {H H' : Hp} {a : Addr} {xs : List V} (e : Same H H') (h : SqT K H a xs) : SqT K H' a xs := by
  rcases h with (h | ⟨o, h⟩) | h
  · exact .inl (.inl (e _ _ h))
  · exact .inl (.inr ⟨o, e _ _ h⟩)
  · exact .inr h
/-- a store at an address that was new -/
theorem same_put {H H1 : Hp} {l : Addr} {o : HO} (s : Same H H1) (h : H l = none) : Same H (upd H1 l o) := fun b o' e => by
  rw [upd_ne (ne_of_none e h)]
  exact s b o' e
end TK
end
section
set_option Elab.async false
set_option maxRecDepth 100000
set_option linter.all false
namespace TK
open PySem L2 TM
/-- what is written about words -/
structure TxtW (K : PySem.W.Frag) (mg : Str → Option Value) : Prop where
  len : mg "len" = none
  isi : mg "isinstance" = none
  str : mg "str" = none
  enum : mg "enumerate" = none
  AR : ∃ u, mg "ALONG_ROWS" = some u ∧ RelV (.str (S [108, 114])) u
  AC : ∃ u, mg "ALONG_COLUMNS" = some u ∧ RelV (.str (S [117, 100])) u
section
variable {P : Program} {w : World} {K : PySem.W.Frag} {mg : Str → Option Value} {base : Heap}
theorem dAR (c : Nat) : decide (c ∈ (S [108, 114]).cps.toList) = isH c := by
  rw [S_list]
  by_cases h : isH c = true
  · rw [h, decide_eq_true]
    simpa [isH] using h
  · rw [Bool.not_eq_true] at h
    rw [h, decide_eq_false]
    simpa [isH] using h
end
end TK
end
section
set_option Elab.async false
set_option maxRecDepth 100000
set_option linter.all false
namespace TK
open PySem L2 TM
/-- is it a tilt's letter -/
def isT (c : Nat) : Bool := decide (c ∈ [108, 114, 117, 100])
/-- a word's text: tilts, so many at most -/
def Good (t : List Nat) : Prop := t.length ≤ 60 ∧ ∀ c ∈ t, isT c = true
def WordAt (C : Addr) (H : Hp) (a : Addr) (t : List Nat) : Prop := ∃ dx, H a = some (.ins C dx [("_text", .str (S t))])
theorem WordAt.same {C a : Addr} {H H' : Hp} {t : List Nat} (h : WordAt C H a t) (s : Same H H') : WordAt C H' a t := by
  obtain ⟨dx, h⟩ := h
  exact ⟨dx, s _ _ h⟩
/-- the class Word as the top has made it -/
structure ClsW (K : PySem.W.Frag) (mg : Str → Option Value) (C : Addr) : Prop where
  cl : Cls K C
  nT : NoAttr K C "_text"
  mgC : mg "Word" = some (.ref C)
  mx : ∃ mc u, ClX.CRead K C mc ∧ ClX.CVal K C mc "MAX_TILTS" (.int 60) u
section
variable {P : Program} {w : World} {K : PySem.W.Frag} {mg : Str → Option Value} {base : Heap} {C fT : Addr} {fdT : FuncData}
theorem scIt : FnScope ["value"] ["value"] (defScope sIsTilt) := ⟨rfl, rfl, rfl, by decide +kernel, rfl, by decide +kernel, by decide +kernel⟩
def spIt : Sp := fun vs H Q _ => ∃ c : Nat, vs = [sg c] ∧ Q (.bl (isT c)) H
theorem ok_it {f : Addr} {fd : FuncData} (F : Fun K "is_tilt" "is_tilt" sIsTilt f fd) (T : TxtW K mg) : FnOk P w K mg base CX0 1 f fd ["value"] spIt := by
  refine F.ok scIt (fun vs H Q E h => ?_) (fun cdv A outer s H vs Q E hr h => ?_)
  · obtain ⟨t, rfl, _⟩ := h
    rfl
  · obtain ⟨c, rfl, k⟩ := h
    refine ⟨_, pss_one (ps_ret (pe_and (pe_callB call_isi (by rfl) T.isi (by decide +kernel) (pa_cons (pv 0) (pa_cons (pe_bltn (v := .ty "str") (by rfl) T.str (by decide +kernel) rfl) pa_nil)))
      (pe_and (pe_cmpR op_eq (pe_callB call_len_str (by rfl) T.len PySem.boot_len (pa_cons (pv 0) pa_nil)) pe_int (nomark _))
        (pe_one (pe_cmpR op_in_sign (pv 0) (pe_op op_add_str (C8.pe_gc rfl T.AR) (C8.pe_gc rfl T.AC)) (by rfl)))))), ?_⟩
    refine ⟨_, rfl, _, _, _, _, true, rfl, .ty _, .base (.str _), kit_ty (by decide +kernel), true, rfl, iteT ?_⟩
    refine ⟨_, rfl, _, rfl, by show 1 ≤ sizeLine; decide, rfl, true, rfl, iteT ?_⟩
    refine ⟨_, rfl, _, _, rfl, rfl, by show 4 ≤ sizeLine; decide, c, _, rfl, rfl, ?_⟩
    exact k
theorem scFwi : FnScope ["text", "index", "letter"] ["text"] (defScope sFirstWrongIndex) := ⟨rfl, rfl, rfl, by decide +kernel, rfl, by decide +kernel, by decide +kernel⟩
def spFwi : Sp := fun vs H Q _ => ∃ t : List Nat, vs = [.str (S t)] ∧ Good t ∧ ∀ H', Same H H' → Q .non H'
theorem ok_fwi {f : Addr} {fd : FuncData} (F : Fun K "_first_wrong_index" "_first_wrong_index" sFirstWrongIndex f fd) (T : TxtW K mg) (CW : ClsW K mg C) (FT : Fun K "is_tilt" "is_tilt" sIsTilt fT fdT) (bT : Binds K fdT ["value"] []) (mT : mg "is_tilt" = some (.ref fT)) :
    FnOk P w K mg base CX0 2 f fd ["text"] spFwi := by
  have GT : FnOk P w K mg base CX0 1 fT fdT ["value"] spIt := ok_it FT T
  refine F.ok scFwi (fun vs H Q E h => ?_) (fun cdv A outer s H vs Q E hr h => ?_)
  · obtain ⟨t, rfl, _⟩ := h
    rfl
  · obtain ⟨t, rfl, ⟨hl, hg⟩, k⟩ := h
    refine ⟨_, pss_cons (ps_if (pt_not (pt_val (pe_callB call_isi (by rfl) T.isi (by decide +kernel) (pa_cons (pv 0) (pa_cons (pe_bltn (v := .ty "str") (by rfl) T.str (by decide +kernel) rfl) pa_nil))))) pss_never pss_nil)
      (pss_cons (ps_for PassesOwn.never rfl (TH.pi_enumS (by rfl) T.enum (pa_cons (pv 0) pa_nil)) (pg_tup rfl (pgs_cons (pg_name (i := 1) scFwi.nd rfl (.inl rfl)) (pgs_cons (pg_name (i := 2) scFwi.nd rfl (.inl rfl)) pgs_nil)))
        (pss_one (ps_if (PW.pt (pw_or (pt_cmpR op_ge (pv 1) (ClX.pe_cval (pe_glob (v := .ref C) rfl CW.mgC rfl)) (nomark _)) (pw_or1 (pt_not (pt_val (pe_call GT hr rfl mT FT.kp bT .nil pass0 (pa_cons (pv 2) pa_nil))))))) pss_never pss_nil)))
      (pss_one (ps_ret pe_non))), ?_⟩
    refine ⟨_, rfl, _, _, _, _, true, rfl, .ty _, .base (.str _), kit_ty (by decide +kernel), true, rfl, iteF ?_⟩
    refine ⟨_, rfl, _, rfl, for_it TH.walk_enumS (fun i σ H1 => ∃ v1 v2, σ = [some (.str (S t)), v1, v2] ∧ Same H H1) ⟨none, none, rfl, Same.refl H⟩ (fun _ _ _ _ _ => True.intro) ?_ ?_⟩
    · rintro i x σ H1 H2 hi ⟨v1, v2, rfl, sm⟩ ⟨p, c, rfl, hn, rfl, hc⟩
      rw [S_at] at hc
      have hit : i < t.length := (List.getElem?_eq_some_iff.mp hc).1
      have hcm : isT c = true := hg c (List.mem_of_getElem? hc)
      refine ⟨p, _, rfl, SqT.of upd_same, rfl, ?_⟩
      obtain ⟨mc, u, cr, cv⟩ := CW.mx
      refine ⟨_, _, rfl, _, _, rfl, rfl, _, rfl, C, mc, _, u, rfl, cr, cv, _, _, rfl, rfl, _, rfl, ?_⟩
      have e1 : decide ((i : Int) ≥ (60 : Int)) = false := decide_eq_false (by omega)
      rw [e1]
      refine iteF ⟨_, rfl, c, rfl, true, by rw [hcm], iteF ⟨_, _, rfl, sm.trans (same_new hn)⟩⟩
    · rintro σ H1 ⟨v1, v2, rfl, sm⟩
      exact k _ sm
theorem scWi : FnScope ["self", "text", "wrong"] ["self", "text"] (defScope sWordInit) := ⟨rfl, rfl, rfl, by decide +kernel, rfl, by decide +kernel, by decide +kernel⟩
def spWi (C : Addr) : Sp := fun vs H Q _ => ∃ (p dx : Addr) (t : List Nat), vs = [.ref p, .str (S t)] ∧ H p = some (.ins C dx []) ∧ Good t ∧ ∀ H', WordAt C H' p t → (∀ b o, H b = some o → b ≠ p → H' b = some o) → Q .non H'
theorem ok_wi {f fW : Addr} {fd fdW : FuncData} (F : Fun K "__init__" "Word.__init__" sWordInit f fd) (CW : ClsW K mg C) (GW : FnOk P w K mg base CX0 2 fW fdW ["text"] spFwi) (kW : PySem.W.keepIn K (.ref fW) = true) (bW : Binds K fdW ["text"] []) (mW : mg "_first_wrong_index" = some (.ref fW)) :
    FnOk P w K mg base CX0 3 f fd ["self", "text"] (spWi C) := by
  refine F.ok scWi (fun vs H Q E h => ?_) (fun cdv A outer s H vs Q E hr h => ?_)
  · obtain ⟨p, dx, t, rfl, _⟩ := h
    rfl
  · obtain ⟨p, dx, t, rfl, hp, hg, k⟩ := h
    refine ⟨_, pss_cons (ps_set (i := 2) scWi.nd rfl (.inl rfl) (pe_call GW hr rfl mW kW bW .nil pass0 (pa_cons (pv 1) pa_nil)))
      (pss_cons (ps_if (pt_cmpR op_notN (pv 2) pe_non (nomark _)) pss_never pss_nil)
      (pss_one (ps_fld (pv 0) (pv 1) rfl))), ?_⟩
    refine ⟨_, rfl, t, rfl, hg, fun H1 sm => ?_⟩
    refine ⟨_, rfl, rfl, _, rfl, iteF ?_⟩
    refine ⟨_, rfl, _, rfl, p, C, dx, [], rfl, sm _ _ hp, CW.cl, CW.nT, (by show 0 < 1000; decide), ?_⟩
    exact k _ ⟨dx, upd_same⟩ fun b o e hb => by rw [upd_ne hb]; exact sm _ _ e
end
end TK
end
section
set_option Elab.async false
set_option maxRecDepth 100000
set_option linter.all false
namespace TK
open PySem L2 TM
def letters : List Nat := [97, 98, 99, 100, 101, 102, 103, 104, 105, 106, 107, 108, 109, 110, 111, 112, 113, 114, 115, 116, 117, 118, 119, 120, 121, 122]
/-- a cell's sign: empty or a marble -/
def Cell (c : Nat) : Prop := c = 46 ∨ (97 ≤ c ∧ c ≤ 122)
theorem cell_in {c : Nat} (h : Cell c) : c ∈ [46] ++ letters := by
  unfold Cell at h
  simp only [letters, List.mem_append, List.mem_cons, List.not_mem_nil, or_false]
  omega
/-- rows that make a tray -/
structure VG (n m : Nat) (g : Grid) : Prop where
  rc : Rect n m g
  n1 : 1 ≤ n
  n8 : n ≤ 8
  m1 : 1 ≤ m
  m8 : m ≤ 8
  ok : ∀ r ∈ g, ∀ c ∈ r, Cell c
  nd : (mb g.flatten).Nodup
abbrev rowV (g : Grid) : List V := g.map fun r => V.str (S r)
theorem fresh {a b : List Nat} {c : Nat} (h : (mb (a ++ c :: b)).Nodup) : c ∉ mb a := fun hc => by
  have h46 : (c != 46) = true := (List.mem_filter.mp hc).2
  have e : mb (c :: b) = c :: mb b := by
    unfold mb
    rw [List.filter_cons, if_pos h46]
  rw [mb_app, e] at h
  exact (List.nodup_append.mp h).2.2 c hc c List.mem_cons_self rfl
/-- what comes ahead of the cell in column j of row i -/
def ahead (g : Grid) (r : List Nat) (i j : Nat) : List Nat := (g.take i).flatten ++ r.take j
theorem ahead_step {g : Grid} {r : List Nat} {i j c : Nat} (hc : r[j]? = some c) : ahead g r i (j + 1) = ahead g r i j ++ [c] := by
  unfold ahead
  rw [List.take_add_one, hc, List.append_assoc]
  rfl
theorem ahead_row {g : Grid} {r : List Nat} {i : Nat} (hr : g[i]? = some r) : (g.take (i + 1)).flatten = ahead g r i r.length := by
  unfold ahead
  rw [List.take_add_one, hr, List.take_length]
  simp
theorem ahead_all {g : Grid} {r : List Nat} {i j c : Nat} (hr : g[i]? = some r) (hc : r[j]? = some c) : ∃ b, g.flatten = ahead g r i j ++ c :: b := by
  have hi := (List.getElem?_eq_some_iff.mp hr).1
  have hj := (List.getElem?_eq_some_iff.mp hc).1
  have e1 : g = g.take i ++ r :: g.drop (i + 1) := by
    have := (List.getElem?_eq_some_iff.mp hr).2
    rw [← this]
    simp
  have e2 : r = r.take j ++ c :: r.drop (j + 1) := by
    have := (List.getElem?_eq_some_iff.mp hc).2
    rw [← this]
    simp
  refine ⟨r.drop (j + 1) ++ (g.drop (i + 1)).flatten, ?_⟩
  unfold ahead
  conv => lhs; rw [e1, List.flatten_append, List.flatten_cons, e2]
  simp
theorem mb_step {a : List Nat} {c : Nat} (h : c ≠ 46) : mb (a ++ [c]) = mb a ++ [c] := by
  rw [mb_app]
  simp [mb, h]
theorem mb_dot {a : List Nat} : mb (a ++ [46]) = mb a := by
  rw [mb_app]
  simp [mb]
/-- what is written about trays; t0: the text EMPTY's own token -/
structure TxtT (K : PySem.W.Frag) (mg : Str → Option Value) (t0 : Tok) : Prop where
  EM : mg "EMPTY" = some (.str (S [46]) t0)
  LE : ∃ u, mg "LETTERS" = some u ∧ RelV (.str (S letters)) u
  MS : ∃ u, mg "MAX_SIDE" = some u ∧ RelV (.int 8) u
  set : mg "set" = none
  zip : mg "zip" = none
  tup : mg "tuple" = none
theorem TxtT.em {K : PySem.W.Frag} {mg : Str → Option Value} {t0 : Tok} (T : TxtT K mg t0) : ∃ u, mg "EMPTY" = some u ∧ RelV (.str (S [46])) u := ⟨_, T.EM, ⟨_, rfl⟩⟩
section
variable {P : Program} {w : World} {K : PySem.W.Frag} {mg : Str → Option Value} {base : Heap} {t0 : Tok} {fR : Addr} {fdR : FuncData}
theorem scIr : FnScope ["row"] ["row"] (defScope sIsRow) := ⟨rfl, rfl, rfl, by decide +kernel, rfl, by decide +kernel, by decide +kernel⟩
def spIr : Sp := fun vs H Q _ => ∃ r : List Nat, vs = [.str (S r)] ∧ 1 ≤ r.length ∧ r.length ≤ 8 ∧ Q (.bl true) H
theorem ok_ir {f : Addr} {fd : FuncData} (F : Fun K "_is_row" "_is_row" sIsRow f fd) (T : TxtW K mg) (U : TxtT K mg t0) : FnOk P w K mg base CX0 1 f fd ["row"] spIr := by
  refine F.ok scIr (fun vs H Q E h => ?_) (fun cdv A outer s H vs Q E hr h => ?_)
  · obtain ⟨t, rfl, _⟩ := h
    rfl
  · obtain ⟨r, rfl, h1, h8, k⟩ := h
    refine ⟨_, pss_one (ps_ret (pe_and (pe_callB call_isi (by rfl) T.isi (by decide +kernel) (pa_cons (pv 0) (pa_cons (pe_bltn (v := .ty "str") (by rfl) T.str (by decide +kernel) rfl) pa_nil)))
      (pe_one (pe_chain op_le op_le pe_int (pe_callB call_len_str (by rfl) T.len PySem.boot_len (pa_cons (pv 0) pa_nil)) (C8.pe_gc rfl U.MS))))), ?_⟩
    refine ⟨_, rfl, _, _, _, _, true, rfl, .ty _, .base (.str _), kit_ty (by decide +kernel), true, rfl, iteT ?_⟩
    have hs : (S r).length ≤ sizeLine := by
      rw [S_len]
      show _ ≤ 16777216
      omega
    refine ⟨_, rfl, _, rfl, hs, _, _, rfl, rfl, _, rfl, ?_⟩
    have e1 : decide ((1 : Int) ≤ ((S r).length : Int)) = true := decide_eq_true (by rw [S_len]; omega)
    have e2 : decide (((S r).length : Int) ≤ (8 : Int)) = true := decide_eq_true (by rw [S_len]; omega)
    rw [e1]
    refine iteT ⟨_, _, rfl, rfl, ?_⟩
    show Q (V.bl (decide (((S r).length : Int) ≤ (8 : Int)))) H
    rw [e2]
    exact k
/-- the marbles of l are in the set at p -/
def Seen (P : Program) (w : World) (H : Hp) (p : Addr) (l : List Nat) (k : Nat) : Prop := ∃ (Z : Key → Bool) (n : Nat), H p = some (SetK P w p Z n) ∧ n ≤ k ∧ ∀ c : Nat, Z (.inr (S [c])) = decide (c ∈ mb l)
theorem one_inj {c d : Nat} : (Sum.inr (S [c]) : Key) = .inr (S [d]) ↔ c = d := ⟨fun h => by
  have := S_inj (Sum.inr.inj h)
  simpa using this, fun h => by rw [h]⟩
theorem scFc : FnScope ["rows", "seen", "number", "row", "column", "cell"] ["rows"] (defScope sFirstWrongCell) := ⟨rfl, rfl, rfl, by decide +kernel, rfl, by decide +kernel, by decide +kernel⟩
def spFc (K : PySem.W.Frag) : Sp := fun vs H Q _ => ∃ (a : Addr) (n m : Nat) (g : Grid), vs = [.ref a] ∧ SqT K H a (rowV g) ∧ VG n m g ∧ ∀ H', Same H H' → Q .non H'
theorem ok_fc {f : Addr} {fd : FuncData} (F : Fun K "_first_wrong_cell" "_first_wrong_cell" sFirstWrongCell f fd) (T : TxtW K mg) (U : TxtT K mg t0) (FR : Fun K "_is_row" "_is_row" sIsRow fR fdR) (bR : Binds K fdR ["row"] []) (mR : mg "_is_row" = some (.ref fR)) :
    FnOk P w K mg base CX0 2 f fd ["rows"] (spFc K) := by
  have GR : FnOk P w K mg base CX0 1 fR fdR ["row"] spIr := ok_ir FR T U
  refine F.ok scFc (fun vs H Q E h => ?_) (fun cdv A outer s H vs Q E hr h => ?_)
  · obtain ⟨a, n, m, g, rfl, _⟩ := h
    rfl
  · obtain ⟨a, n, m, g, rfl, hS, G, k⟩ := h
    refine ⟨_, pss_cons (ps_if (pt_not (pt_truth (pv 0) (by intro _; rfl))) pss_never pss_nil)
      (pss_cons (ps_set (i := 1) scFc.nd rfl (.inl rfl) (pe_callTy0 cr_set0K (by rfl) U.set (by decide +kernel)))
      (pss_cons (ps_for PassesOwn.never rfl (TH.pi_enumT (by rfl) T.enum (pa_cons (pv 0) pa_nil)) (pg_tup rfl (pgs_cons (pg_name (i := 2) scFc.nd rfl (.inl rfl)) (pgs_cons (pg_name (i := 3) scFc.nd rfl (.inl rfl)) pgs_nil)))
        (pss_cons (ps_if (PW.pt (pw_or (pt_cmpR op_ge (pv 2) (C8.pe_gc rfl U.MS) (nomark _)) (pw_or (pt_not (pt_val (pe_call GR hr rfl mR FR.kp bR .nil pass0 (pa_cons (pv 3) pa_nil))))
            (pw_or1 (pt_cmpR op_ne (pe_callB call_len_str (by rfl) T.len PySem.boot_len (pa_cons (pv 3) pa_nil)) (pe_callB call_len_str (by rfl) T.len PySem.boot_len (pa_cons (pe_ix ix_tup (pv 0) pe_int (fun _ _ => rfl)) pa_nil)) (nomark _)))))) pss_never pss_nil)
        (pss_one (ps_for PassesOwn.never rfl (TH.pi_enumS (by rfl) T.enum (pa_cons (pv 3) pa_nil)) (pg_tup rfl (pgs_cons (pg_name (i := 4) scFc.nd rfl (.inl rfl)) (pgs_cons (pg_name (i := 5) scFc.nd rfl (.inl rfl)) pgs_nil)))
          (pss_cons (ps_if (PW.pt (pw_or (pt_cmpR or_sinK (pv 5) (pv 1) (by rfl)) (pw_or1 (pt_cmpR op_notIn_sign (pv 5) (pe_op op_add_str (C8.pe_gc rfl U.em) (C8.pe_gc rfl U.LE)) (by rfl))))) pss_never pss_nil)
          (pss_one (ps_if (pt_cmpR op_ne (pv 5) (C8.pe_gc rfl U.em) (nomark _)) (pss_one (ps_expr (pe_saddK (pv 1) (pa_cons (pv 5) pa_nil)))) pss_nil)))))))
      (pss_one (ps_ret pe_non)))), ?_⟩
    have hg0 : (rowV g).isEmpty = false := by
      have := G.rc.1
      have := G.n1
      cases g with
      | nil => simp at *; omega
      | cons _ _ => rfl
    refine ⟨_, rfl, true, .inr (.inl ⟨_, hS, by rw [hg0]; rfl⟩), iteF ?_⟩
    refine ⟨rfl, fun p hp => ?_⟩
    refine ⟨_, rfl, a, rowV g, rfl, (same_new hp).tup hS, for_it TH.walk_enumT (fun i σ H1 => ∃ v2 v3 v4 v5, σ = [some (.ref a), some (.ref p), v2, v3, v4, v5] ∧ Same H H1 ∧ Seen P w H1 p (g.take i).flatten (i * 8))
      ⟨none, none, none, none, rfl, same_new hp, _, 0, upd_same, Nat.zero_le _, fun c => by simp [mb]⟩ (fun i σ H1 _ ⟨_, _, _, _, _, sm, _⟩ => sm.tup hS) ?_ ?_⟩
    · rintro i x σ H1 H2 hi ⟨v2, v3, v4, v5, rfl, sm, se⟩ ⟨q, y, rfl, hq, rfl, hy⟩
      obtain ⟨r, hr', rfl⟩ : ∃ r, g[i]? = some r ∧ y = V.str (S r) := by
        rw [List.getElem?_map] at hy
        cases e : g[i]? with
        | none => rw [e] at hy; cases hy
        | some r => rw [e] at hy; exact ⟨r, rfl, (Option.some.inj hy).symm⟩
      have hin : i < n := by
        have := (List.getElem?_eq_some_iff.mp hr').1
        rw [G.rc.1] at this
        exact this
      have hrm : r ∈ g := List.mem_of_getElem? hr'
      have hrl : r.length = m := G.rc.2 r hrm
      have n8 := G.n8
      have m1 := G.m1
      have m8 := G.m8
      refine ⟨_, _, rfl, SqT.of upd_same, rfl, _, _, rfl, _, _, rfl, rfl, ?_⟩
      have e1 : decide ((i : Int) ≥ (8 : Int)) = false := decide_eq_false (by omega)
      refine ⟨_, rfl, _, _, rfl, rfl, _, rfl, ?_⟩
      rw [e1]
      refine iteF ⟨_, rfl, r, rfl, by omega, by omega, true, rfl, iteF ?_⟩
      have sm2 : Same H (upd H1 q (.tup [.int (i : Nat), .str (S r)])) := sm.trans (same_new hq)
      have hs : (S r).length ≤ sizeLine := by
        rw [S_len]
        show _ ≤ 16777216
        omega
      obtain ⟨r0, hr0, hr0l⟩ : ∃ r0, g[0]? = some r0 ∧ r0.length = m := by
        have h0 : 0 < g.length := by rw [G.rc.1]; exact G.n1
        exact ⟨g[0], List.getElem?_eq_getElem h0, G.rc.2 _ (List.getElem_mem h0)⟩
      have hs0 : (S r0).length ≤ sizeLine := by
        rw [S_len]
        show _ ≤ 16777216
        omega
      refine ⟨_, rfl, _, rfl, hs, _, rfl, a, _, _, _, rfl, rfl, sm2.tup hS, atI_nat (j := 0) (v := V.str (S r0)) (by rw [List.getElem?_map, hr0]; all_goals rfl), _, rfl, hs0, rfl, _, rfl, ?_⟩
      have e2 : (!decide (V.int ((S r).length : Int) = V.int ((S r0).length : Int))) = false := by
        rw [S_len, S_len, hrl, hr0l]
        simp
      rw [e2]
      refine iteF ?_
      have se2 : Seen P w (upd H1 q (.tup [.int (i : Nat), .str (S r)])) p (g.take i).flatten (i * 8) := by
        obtain ⟨Z, n', h1, h2, h3⟩ := se
        exact ⟨Z, n', by rw [upd_ne (ne_of_none h1 hq)]; exact h1, h2, h3⟩
      refine ⟨_, rfl, S r, rfl, for_it TH.walk_enumS (fun j σ H2 => ∃ v4 v5, σ = [some (.ref a), some (.ref p), some (.int (i : Nat)), some (.str (S r)), v4, v5] ∧ Same H H2 ∧ Seen P w H2 p (ahead g r i j) (i * 8 + j))
        ⟨v4, v5, rfl, sm2, by unfold ahead; rw [List.take_zero, List.append_nil]; exact se2⟩ (fun _ _ _ _ _ => True.intro) ?_ ?_⟩
      · rintro j x σ H2 H3 hj ⟨v4, v5, rfl, sm, Z, k', hZ, hk', hz⟩ ⟨q', c, rfl, hq', rfl, hc⟩
        rw [S_at] at hc
        have hjm : j < m := by
          have := (List.getElem?_eq_some_iff.mp hc).1
          omega
        have hcell : Cell c := G.ok r hrm c (List.mem_of_getElem? hc)
        obtain ⟨b, hb⟩ := ahead_all hr' hc
        have hnew : c ∉ mb (ahead g r i j) := fresh (by rw [← hb]; exact G.nd)
        have hZ2 : upd H2 q' (.tup [.int (j : Nat), .str ⟨#[c]⟩]) p = some (SetK P w p Z k') := by rw [upd_ne (ne_of_none hZ hq')]; exact hZ
        refine ⟨_, _, rfl, SqT.of upd_same, rfl, _, _, rfl, _, _, rfl, rfl, ?_⟩
        have e3 : Z (.inr (S [c])) = false := by rw [hz c]; exact decide_eq_false hnew
        refine ⟨_, rfl, _, rfl, .inr (S [c]), p, Z, k', rfl, rfl, hZ2, _, rfl, ?_⟩
        rw [show (if false = true then !Z (.inr (S [c])) else Z (.inr (S [c]))) = false from e3]
        refine iteF ⟨_, rfl, _, _, rfl, rfl, by show 27 ≤ sizeLine; decide, c, _, rfl, rfl, _, rfl, ?_⟩
        have e4 : decide (c ∈ ((S [46] ++ S letters) : Str).cps.toList) = true := by
          rw [SX.S_cat]
          exact decide_eq_true (by rw [S_list]; exact cell_in hcell)
        rw [e4]
        refine iteF ⟨_, rfl, rfl, _, rfl, ?_⟩
        by_cases h46 : c = 46
        · subst h46
          refine iteF ⟨_, _, rfl, sm.trans (same_new hq'), Z, k', hZ2, by omega, fun d => ?_⟩
          rw [ahead_step hc, mb_dot]
          exact hz d
        · rw [show (!decide (sg c = V.str (S [46]))) = true by simp [h46]]
          refine iteT ⟨_, rfl, ⟨p, Z, k', rfl, hZ2⟩, _, rfl, p, .inr (S [c]), Z, k', rfl, rfl, hZ2, ?_, ?_⟩
          · show _ < 4096
            omega
          · refine ⟨_, _, rfl, same_put (sm.trans (same_new hq')) hp, _, _, upd_same, ?_, fun d => ?_⟩
            · rw [if_neg (by rw [e3]; exact Bool.false_ne_true)]
              omega
            · rw [ahead_step hc, mb_step h46, hz d]
              by_cases hd : d = c
              · subst hd; simp
              · rw [show decide ((Sum.inr (S [d]) : Key) = .inr (S [c])) = false from decide_eq_false fun z => hd (one_inj.mp z), Bool.or_false]
                simp [hd]
      · rintro σ H2 ⟨v4, v5, rfl, sm, se⟩
        refine ⟨_, _, _, _, rfl, sm, ?_⟩
        rw [ahead_row hr']
        rw [S_size] at se
        obtain ⟨Z, k', h1, h2, h3⟩ := se
        exact ⟨Z, k', h1, by omega, h3⟩
    · rintro σ H1 ⟨v2, v3, v4, v5, rfl, sm, se⟩
      exact k _ sm
end
end TK
end
section
set_option Elab.async false
set_option maxRecDepth 100000
set_option linter.all false
namespace TK
open PySem L2 TM
structure ClsT (K : PySem.W.Frag) (mg : Str → Option Value) (D : Addr) : Prop where
  cl : Cls K D
  nR : NoAttr K D "_rows"
  mgC : mg "Tray" = some (.ref D)
def TrayAt (K : PySem.W.Frag) (D : Addr) (H : Hp) (p : Addr) (g : Grid) : Prop := ∃ dx a, H p = some (.ins D dx [("_rows", .ref a)]) ∧ SqT K H a (rowV g)
theorem TrayAt.same {K : PySem.W.Frag} {D p : Addr} {H H' : Hp} {g : Grid} (h : TrayAt K D H p g) (s : Same H H') : TrayAt K D H' p g := by
  obtain ⟨dx, a, h, t⟩ := h
  exact ⟨dx, a, s _ _ h, s.tup t⟩
theorem VG.len {n m : Nat} {g : Grid} (G : VG n m g) : g.length ≤ 8 := by rw [G.rc.1]; exact G.n8
theorem VG.row {n m : Nat} {g : Grid} (G : VG n m g) {r : List Nat} (h : r ∈ g) : r.length ≤ 8 := by rw [G.rc.2 r h]; exact G.m8
theorem VG.ne {n m : Nat} {g : Grid} (G : VG n m g) : g ≠ [] := fun e => by
  have := G.n1
  have := G.rc.1
  subst e
  simp at *
  omega
theorem joinL_len (sep : List Nat) (k : Nat) : ∀ g : Grid, (∀ r ∈ g, r.length ≤ k) → (TL.joinL sep g).length ≤ g.length * (k + sep.length)
  | [], _ => Nat.zero_le _
  | [p], h => by
    have := h p List.mem_cons_self
    show p.length ≤ 1 * _
    omega
  | p :: q :: r, h => by
    have h1 := joinL_len sep k (q :: r) fun z hz => h z (List.mem_cons_of_mem _ hz)
    have h2 := h p List.mem_cons_self
    simp only [TL.joinL, List.length_append, List.length_cons, Nat.add_mul, Nat.mul_add] at *
    omega
theorem lf_not {n m : Nat} {g : Grid} (G : VG n m g) : ∀ r ∈ g, 10 ∉ r := fun r hr h10 => by
  have := G.ok r hr 10 h10
  unfold Cell at this
  omega
theorem split_back {n m : Nat} {g : Grid} (G : VG n m g) : Txt.split (S (TL.joinL [10] g)) (S [10]) = g.map S := by
  rw [SX.split_S (by simp) (by rfl), SX.spl_join G.ne (lf_not G)]
section
variable {P : Program} {w : World} {K : PySem.W.Frag} {mg : Str → Option Value} {base : Heap} {D fF : Addr} {fdF : FuncData}
theorem scTi : FnScope ["self", "rows", "wrong", "row", "column"] ((["self"] : List Str) ++ (["rows"] : List Str)) (defScope sTrayInit) := ⟨rfl, rfl, rfl, by decide +kernel, rfl, by decide +kernel, by decide +kernel⟩
def spTi (K : PySem.W.Frag) (D : Addr) : Sp := fun vs H Q _ => ∃ (p dx a : Addr) (n m : Nat) (g : Grid), vs = [.ref p, .ref a] ∧ H p = some (.ins D dx []) ∧ SqT K H a (rowV g) ∧ VG n m g ∧ ∀ H', TrayAt K D H' p g → (∀ b o, H b = some o → b ≠ p → H' b = some o) → Q .non H'
theorem seq_but {K : PySem.W.Frag} {H H' : Hp} {p a : Addr} {o : HO} {xs : List V} (h : SqT K H a xs) (hp : H p = some o) (ho : ∀ u xs, o ≠ .frz u (.tup xs) ∧ o ≠ .tup xs) (kp : ∀ b o, H b = some o → b ≠ p → H' b = some o) : SqT K H' a xs := by
  rcases h with (h | ⟨u, h⟩) | h
  · exact .inl (.inl (kp _ _ h fun e => by subst e; exact (ho ⟨.none, none, .plain, #[]⟩ xs).2 (Option.some.inj (hp.symm.trans h))))
  · exact .inl (.inr ⟨u, kp _ _ h fun e => by subst e; exact (ho u xs).1 (Option.some.inj (hp.symm.trans h))⟩)
  · exact .inr h
theorem ok_ti {f : Addr} {fd : FuncData} (F : Fun K "__init__" "Tray.__init__" sTrayInit f fd) (CT : ClsT K mg D) (GF : FnOk P w K mg base CX0 2 fF fdF ["rows"] (spFc K)) (kF : PySem.W.keepIn K (.ref fF) = true) (bF : Binds K fdF ["rows"] []) (mF : mg "_first_wrong_cell" = some (.ref fF)) :
    FnR P w K mg base CX0 3 f (fun vs H Q E => ∃ ws rest, vs = ws ++ rest ∧ ws.length = 1 ∧ rest.length ≤ sizeLine ∧ ∀ p, H p = Option.none → spTi K D (ws ++ [V.ref p]) (upd H p (.tup rest)) Q E) := by
  obtain ⟨oc, od, kV, doc, pm, an, cdv, ct, osl, rfl, lk, hcd⟩ := F.ex
  refine StX.fn_star (ps := ["self"]) (pv := "rows") lk hcd scTi StX.cxUp_none (StX.bind_star1 (B := fun us => bindArgs (PySem.W.fnOf "__init__" "Tray.__init__" (defArgs sTrayInit) (defBody sTrayInit) (defScope sTrayInit) .none kV doc pm an cdv ct) ⟨us, []⟩) (p1 := "self") (pv := "rows") (fun _ => rfl) fun _ _ _ => rfl) fun A outer s H vs Q E hr h => ?_
  obtain ⟨p, dx, a, n, m, g, rfl, hp, hS, G, k⟩ := h
  refine ⟨_, pss_cons (ps_set (i := 2) scTi.nd rfl (.inl rfl) (pe_call GF hr rfl mF kF bF .nil pass0 (pa_cons (pv 1) pa_nil)))
    (pss_cons (ps_if (pt_cmpR op_notN (pv 2) pe_non (nomark _)) pss_never pss_nil)
    (pss_one (ps_fld (pv 0) (pv 1) rfl))), ?_⟩
  refine ⟨_, rfl, a, n, m, g, rfl, hS, G, fun H1 sm => ?_⟩
  refine ⟨_, rfl, rfl, _, rfl, iteF ?_⟩
  refine ⟨_, rfl, _, rfl, p, D, dx, [], rfl, sm _ _ hp, CT.cl, CT.nR, (by show 0 < 1000; decide), ?_⟩
  refine k _ ⟨dx, a, upd_same, ?_⟩ fun b o e hb => by rw [upd_ne hb]; exact sm _ _ e
  exact seq_but (sm.tup hS) (sm _ _ hp) (fun _ _ => ⟨by simp, by simp⟩) fun b o e hb => by rw [upd_ne hb]; exact e
theorem scOt : FnScope ["cls", "text", "rows"] ["cls", "text"] (defScope sTrayOfText) := ⟨rfl, rfl, rfl, by decide +kernel, rfl, by decide +kernel, by decide +kernel⟩
def spOt (K : PySem.W.Frag) (D : Addr) : Sp := fun vs H Q _ => ∃ (n m : Nat) (g : Grid), vs = [.ref D, .str (S (TL.joinL [10] g))] ∧ VG n m g ∧ ∀ H' p, Same H H' → TrayAt K D H' p g → Q (.ref p) H'
theorem ok_ot {f fI : Addr} {fd : FuncData} (F : Fun K "of_text" "Tray.of_text" sTrayOfText f fd) (T : TxtW K mg) (M : Mk K D fI)
    (GI : FnR P w K mg base CX0 3 fI (fun vs H Q E => ∃ ws rest, vs = ws ++ rest ∧ ws.length = 1 ∧ rest.length ≤ sizeLine ∧ ∀ p, H p = Option.none → spTi K D (ws ++ [V.ref p]) (upd H p (.tup rest)) Q E)) :
    FnOk P w K mg base CX0 5 f fd ["cls", "text"] (spOt K D) := by
  refine F.ok scOt (fun vs H Q E h => ?_) (fun cdv A outer s H vs Q E hr h => ?_)
  · obtain ⟨n, m, g, rfl, _⟩ := h
    rfl
  · obtain ⟨n, m, g, rfl, G, k⟩ := h
    refine ⟨_, pss_cons (ps_if (pt_not (pt_val (pe_callB call_isi (by rfl) T.isi (by decide +kernel) (pa_cons (pv 1) (pa_cons (pe_bltn (v := .ty "str") (by rfl) T.str (by decide +kernel) rfl) pa_nil))))) pss_never pss_nil)
      (pss_cons (ps_set (i := 2) scOt.nd rfl (.inl rfl) (pe_split (pv 1) pe_str))
      (pss_one (ps_ret (TH.pe_makeSv M GI hr (pv 0) pass0 (pv 2))))), ?_⟩
    refine ⟨_, rfl, _, _, _, _, true, rfl, .ty _, .base (.str _), kit_ty (by decide +kernel), true, rfl, iteF ?_⟩
    have hl : (S (TL.joinL [10] g)).length + 2 ≤ sizeLine := by
      have h1 := joinL_len [10] 8 g fun r hr => G.row hr
      have h2 := G.len
      rw [S_len]
      show _ ≤ 16777216
      have : g.length * (8 + [10].length) = g.length * 9 := rfl
      omega
    refine ⟨_, rfl, ⟨_, rfl⟩, _, _, rfl, rfl, rfl, hl, fun l hl => ?_⟩
    have e : (Txt.split (S (TL.joinL [10] g)) (Str.ofString "\n")).map V.str = rowV g := by
      have := split_back G
      rw [show Str.ofString "\n" = S [10] from rfl, this, List.map_map]
      rfl
    rw [e]
    refine ⟨_, rfl, rfl, _, rfl, l, rowV g, rfl, .inr (SqL.of upd_same), fun x dx nx ndx nex => ?_⟩
    refine ⟨[.ref x], rowV g, rfl, rfl, ?_, fun p hp => ?_⟩
    · have := G.len
      rw [List.length_map]
      show _ ≤ 16777216
      omega
    have hpx : x ≠ p := fun z => by rw [← z, upd_same] at hp; cases hp
    refine ⟨x, dx, p, n, m, g, rfl, by rw [upd_ne hpx, upd_same], SqT.of upd_same, G, fun H' ht kp => ⟨rfl, ?_⟩⟩
    refine k _ _ (fun b o e => ?_) ht
    have hbl : b ≠ l := ne_of_none e hl
    have e1 : upd H l (.lst (rowV g)) b = some o := by rw [upd_ne hbl]; exact e
    have hbx : b ≠ x := ne_of_none e1 nx
    have hbd : b ≠ dx := ne_of_none e1 ndx
    have e2 : (upd (upd (upd H l (.lst (rowV g))) dx (.own x)) x (.ins D dx [])) b = some o := by rw [upd_ne hbx, upd_ne hbd]; exact e1
    exact kp b o (by rw [upd_ne (ne_of_none e2 hp)]; exact e2) hbx
end
end TK
end
section
set_option Elab.async false
set_option maxRecDepth 100000
set_option linter.all false
namespace TH
open PySem PySem.Spec PyProof.Rows L2
section
variable {J J1 : It} {n n1 : Nat} {G G1 : Hp → Prop} {Y Y1 : Nat → Hp → V → Hp → Prop}
/-- the inner walk -/
theorem in_it (w : Walk J1 n1 G1 Y1) {g1 : TG} {tt1 : TT} {te : TE} {vs1 : List Nat} {σ2 : L2.St} {H4 : Hp} {D : Addr} {Qe : Hp → Prop} (Pj : Nat → Hp → Prop) (h0 : Pj 0 H4) (hG : ∀ j H, j ≤ n1 → Pj j H → G1 H)
    (hs : ∀ j x H H', j < n1 → Pj j H → Y1 j H x H' → g1 x (wipe σ2 vs1) H' fun σ3 H5 => wipe σ3 vs1 = wipe σ2 vs1 ∧ tt1 σ3 H5 fun b H6 =>
      if b = true then te σ3 H6 fun y H7 => ∃ acc, H7 D = some (.lst acc) ∧ acc.length < sizeLine ∧ Pj (j + 1) (upd H7 D (.lst (acc ++ [y]))) else Pj (j + 1) H6) (hd : ∀ H, Pj n1 H → Qe H) :
    ∃ W1 : Nat → Nat → Hp → Prop, (∃ m, W1 0 m H4) ∧ ∀ j k H, W1 j k H →
      (J1.stop j H ∧ Qe H) ∨ (J1.go j H ∧ ∃ Nx1 : Hp → Prop, (∀ H', Nx1 H' → ∃ k', k' < k ∧ W1 (j + 1) k' H') ∧ ∀ x H', J1.yld j H x H' → g1 x (wipe σ2 vs1) H' fun σ3 H5 => wipe σ3 vs1 = wipe σ2 vs1 ∧ tt1 σ3 H5 fun b H6 =>
        if b = true then te σ3 H6 fun y H7 => ∃ acc, H7 D = some (.lst acc) ∧ acc.length < sizeLine ∧ Nx1 (upd H7 D (.lst (acc ++ [y]))) else Nx1 H6) := by
  refine ⟨fun i m H => m = n1 - i ∧ i ≤ n1 ∧ Pj i H, ⟨n1, by simp, Nat.zero_le _, h0⟩, ?_⟩
  rintro i m H ⟨rfl, hi, p⟩
  have q := hG i H hi p
  by_cases hlt : i < n1
  · exact .inr ⟨w.goes i H hlt q, Pj (i + 1), fun H' p' => ⟨n1 - (i + 1), by omega, rfl, hlt, p'⟩, fun x H' y => hs i x H H' hlt p (w.yields i H x H' hlt q y)⟩
  · have e : i = n1 := by omega
    subst e
    exact .inl ⟨w.stops H q, hd H p⟩
/-- the outer walk -/
theorem lc2_it (w : Walk J n G Y) {g g1 : TG} {tt tt1 : TT} {wi1 : TI} {te : TE} {vs vs1 : List Nat} {σ : L2.St} {H1 : Hp} {D : Addr} {Qd : Hp → Prop} (Pv : Nat → Hp → Prop) (h0 : Pv 0 (upd H1 D (.lst []))) (hG : ∀ i H, i ≤ n → Pv i H → G H)
    (hs : ∀ i x H H', i < n → Pv i H → Y i H x H' → g x (wipe σ vs) H' fun σ2 H2 => wipe σ2 vs = wipe σ vs ∧ tt σ2 H2 fun b H3 =>
      if b = true then wi1 σ2 H3 fun J1 H4 => ∃ W1 : Nat → Nat → Hp → Prop, (∃ m, W1 0 m H4) ∧ ∀ j k H, W1 j k H →
        (J1.stop j H ∧ Pv (i + 1) H) ∨ (J1.go j H ∧ ∃ Nx1 : Hp → Prop, (∀ H', Nx1 H' → ∃ k', k' < k ∧ W1 (j + 1) k' H') ∧ ∀ x H', J1.yld j H x H' → g1 x (wipe σ2 vs1) H' fun σ3 H5 => wipe σ3 vs1 = wipe σ2 vs1 ∧ tt1 σ3 H5 fun b H6 =>
          if b = true then te σ3 H6 fun y H7 => ∃ acc, H7 D = some (.lst acc) ∧ acc.length < sizeLine ∧ Nx1 (upd H7 D (.lst (acc ++ [y]))) else Nx1 H6)
      else Pv (i + 1) H3) (hd : ∀ H, Pv n H → Qd H) :
    ∃ W : Nat → Nat → Hp → Prop, (∃ m, W 0 m (upd H1 D (.lst []))) ∧ ∀ i m H, W i m H →
      (J.stop i H ∧ Qd H) ∨ (J.go i H ∧ ∃ Nx : Hp → Prop, (∀ H', Nx H' → ∃ m', m' < m ∧ W (i + 1) m' H') ∧ ∀ x H', J.yld i H x H' → g x (wipe σ vs) H' fun σ2 H2 => wipe σ2 vs = wipe σ vs ∧ tt σ2 H2 fun b H3 =>
        if b = true then wi1 σ2 H3 fun J1 H4 => ∃ W1 : Nat → Nat → Hp → Prop, (∃ m, W1 0 m H4) ∧ ∀ j k H, W1 j k H →
          (J1.stop j H ∧ Nx H) ∨ (J1.go j H ∧ ∃ Nx1 : Hp → Prop, (∀ H', Nx1 H' → ∃ k', k' < k ∧ W1 (j + 1) k' H') ∧ ∀ x H', J1.yld j H x H' → g1 x (wipe σ2 vs1) H' fun σ3 H5 => wipe σ3 vs1 = wipe σ2 vs1 ∧ tt1 σ3 H5 fun b H6 =>
            if b = true then te σ3 H6 fun y H7 => ∃ acc, H7 D = some (.lst acc) ∧ acc.length < sizeLine ∧ Nx1 (upd H7 D (.lst (acc ++ [y]))) else Nx1 H6)
        else Nx H3) := by
  refine ⟨fun i m H => m = n - i ∧ i ≤ n ∧ Pv i H, ⟨n, by simp, Nat.zero_le _, h0⟩, ?_⟩
  rintro i m H ⟨rfl, hi, p⟩
  have q := hG i H hi p
  by_cases hlt : i < n
  · exact .inr ⟨w.goes i H hlt q, Pv (i + 1), fun H' p' => ⟨n - (i + 1), by omega, rfl, hlt, p'⟩, fun x H' y => hs i x H H' hlt p (w.yields i H x H' hlt q y)⟩
  · have e : i = n := by omega
    subst e
    exact .inl ⟨w.stops H q, hd H p⟩
end
end TH
end
section
set_option Elab.async false
set_option maxRecDepth 100000
set_option linter.all false
namespace TK
open PySem L2 TM
open PySem.Spec PyProof.Rows TH
section
variable {X : Cx} {n : Nat} {t0 : Tok}
theorem mt_ljustF : MtR X "str.ljust" (fun x xs H Q => ∃ (a : Str) (i : Int) (c : Nat), x = .str a ∧ xs = [.int i, .str ⟨#[c]⟩] ∧ PadOk i = true ∧ Q (.str (Txt.ljustF a i c)) H) := by
  intro pins s σ H x xs v us Q I rx rs h
  obtain ⟨a, i, c, rfl, rfl, hp, q⟩ := h
  obtain ⟨t, rfl⟩ := rx
  obtain ⟨u1, u2, rfl, r1, r2⟩ := vals2 rs
  obtain ⟨t1, rfl⟩ := (show ∃ t, u1 = Value.int i t from r1)
  obtain ⟨t2, rfl⟩ := (show ∃ t, u2 = Value.str ⟨#[c]⟩ t from r2)
  exact ljust_fill hp rfl fun t' k => ⟨.str (Txt.ljustF a i c), H, I.tok k, ⟨t', rfl⟩, q⟩
theorem mt_rjustF : MtR X "str.rjust" (fun x xs H Q => ∃ (a : Str) (i : Int) (c : Nat), x = .str a ∧ xs = [.int i, .str ⟨#[c]⟩] ∧ PadOk i = true ∧ Q (.str (Txt.rjustF a i c)) H) := by
  intro pins s σ H x xs v us Q I rx rs h
  obtain ⟨a, i, c, rfl, rfl, hp, q⟩ := h
  obtain ⟨t, rfl⟩ := rx
  obtain ⟨u1, u2, rfl, r1, r2⟩ := vals2 rs
  obtain ⟨t1, rfl⟩ := (show ∃ t, u1 = Value.int i t from r1)
  obtain ⟨t2, rfl⟩ := (show ∃ t, u2 = Value.str ⟨#[c]⟩ t from r2)
  exact rjust_fill hp rfl fun t' k => ⟨.str (Txt.rjustF a i c), H, I.tok k, ⟨t', rfl⟩, q⟩
/-- o.replace(EMPTY, ''): the signs that are left -/
def tStrike (y : Str) (to : TE) : TE := fun σ H Q => to σ H fun x H1 => ∃ a : Str, x = .str a ∧ a.length + (a.length + 1) * 0 ≤ 16777216 ∧ Q (.str (Txt.replace a y Str.empty)) H1
theorem pen_strike {o : Expr} {to : TE} {x : Str} {y : Str} {k : Nat} {p c apos pos : Pos} (ho : PE X o to) (hg : Gl X x) (hm : X.mg x = some (.str y t0)) (h0 : t0 ≠ 0) (ht : t0 < n) (hy : (y == Str.empty) = false) (hd : (x == ("__debug__" : Str)) = false := by decide)
    (hst : starEach [.Name x p, .Constant (.str Str.empty) k c] X.env = [(false, eval (.Name x p) X.env), (false, eval (.Constant (.str Str.empty) k c) X.env)] := by rfl)
    (hbase : attributeBase o "replace" X.env (eval o X.env) = eval o X.env := by rfl) (hline : (apos.endLine == pos.line) = true := by rfl) :
    PEn n X (.Call (.Attribute o "replace" apos) [.Name x p, .Constant (.str Str.empty) k c] [] pos) (tStrike y to) := by
  intro pins s σ H Q hn I h
  refine PySem.Call_method2 hbase hst hline (thnN hn (ho.run pins s σ H _ I h) fun v s1 hn1 ⟨x1, H1, I1, r1, a, e, hb, q⟩ => ?_)
  subst e
  obtain ⟨ta, rfl⟩ := r1
  refine ⟨"str", _, PySem.F.plainAttrs_str, PySem.F.slot_str_replace, PySem.F.type_str_replace, typeIs_str _ _ _, (fun _ e => nomatch e), Calls.callWith_builtin rfl (Calls.evalArgs_plain (Calls.spliced_cons ?_))⟩
  refine ld_glob I1 hg hm ?_ hd
  refine Calls.spliced_cons (Calls.Constant_str (Calls.spliced_nil ?_))
  have hs : s1.toks ≠ 0 := fun e => by
    rw [e] at hn1
    exact Nat.not_lt_zero _ (Nat.lt_of_lt_of_le ht hn1)
  exact PySem.SC.replace h0 hs (fun e => by rw [e] at ht; exact Nat.lt_irrefl _ (Nat.lt_of_lt_of_le ht hn1)) hy hb fun t' j => ⟨.str (Txt.replace a y Str.empty), H1, I1.tok j, ⟨t', rfl⟩, q⟩
end
theorem strike_mb (l : List Nat) : Txt.replace (S l) (S [46]) Str.empty = S (mb l) := by
  have e := PyProof.Rows.replace_strikes (S l) 46
  rw [S_of (Txt.replace (S l) (S [46]) Str.empty)]
  refine congrArg S ?_
  rw [show (S [46] : Str) = ⟨#[46]⟩ from rfl, show (Str.empty : Str) = ⟨#[]⟩ from rfl, e, S_list]
  rfl
theorem ljust_sl (l : List Nat) : Txt.ljustF (S (mb l)) (l.length : Int) 46 = S (sl true l) := by
  have hle := mb_le l
  unfold Txt.ljustF sl dots
  rw [S_len]
  split
  · rename_i h
    have e : l.length - (mb l).length = 0 := by omega
    rw [if_pos rfl, e]
    simp
  · rw [if_pos rfl]
    unfold Builtin.Str.padded
    simp
theorem rjust_sl (l : List Nat) : Txt.rjustF (S (mb l)) (l.length : Int) 46 = S (sl false l) := by
  have hle := mb_le l
  unfold Txt.rjustF sl dots
  rw [S_len]
  split
  · rename_i h
    have e : l.length - (mb l).length = 0 := by omega
    rw [if_neg Bool.false_ne_true, e]
    simp
  · rw [if_neg Bool.false_ne_true]
    unfold Builtin.Str.padded
    simp
section
variable {P : Program} {w : World} {K : PySem.W.Frag} {mg : Str → Option Value} {base : Heap} {t0 : Tok} {n : Nat}
theorem scSl : FnScope ["line", "to_beginning", "marbles"] ["line", "to_beginning"] (defScope sSlid) := ⟨rfl, rfl, rfl, by decide +kernel, rfl, by decide +kernel, by decide +kernel⟩
def spSl : Sp := fun vs H Q _ => ∃ (l : List Nat) (b : Bool), vs = [.str (S l), .bl b] ∧ l.length ≤ 8 ∧ Q (.str (S (sl b l))) H
theorem ok_sl {f : Addr} {fd : FuncData} (F : Fun K "_slid" "_slid" sSlid f fd) (T : TxtW K mg) (U : TxtT K mg t0) (b : Binds K fd ["line", "to_beginning"] []) (h0 : t0 ≠ 0) (ht : t0 < n) : FnRn n P w K mg base CX0 1 f spSl := by
  refine fn_n F b scSl (fun vs H Q E h => ?_) fun cdv A outer s H vs Q E hr h => ?_
  · obtain ⟨l, b, rfl, _⟩ := h
    rfl
  · obtain ⟨l, b, rfl, h8, k⟩ := h
    have hlen : (S l).length ≤ sizeLine := by
      rw [S_len]
      show _ ≤ 16777216
      omega
    have hpad : PadOk (((S l).length : Nat) : Int) = true := by
      rw [S_len]
      exact padOk_of (by omega) (by omega)
    refine ⟨_, pssn_cons (psn_set (i := 2) scSl.nd rfl (.inl rfl) (pen_strike (pv 0) rfl U.EM h0 ht (by decide +kernel)))
      (pssn_cons (PS.up (ps_if (pt_val (pv 1)) (pss_one (ps_ret (pe_bm PySem.F.plainAttrs_str PySem.F.slot_str_ljust PySem.F.type_str_ljust mt_ljustF (pv 2) (pa_cons (pe_callB call_len_str (by rfl) T.len PySem.boot_len (pa_cons (pv 0) pa_nil)) (pa_cons (C8.pe_gc rfl U.em) pa_nil))))) pss_nil))
      (pssn_one (PS.up (ps_ret (pe_bm PySem.F.plainAttrs_str PySem.F.slot_str_rjust PySem.F.type_str_rjust mt_rjustF (pv 2) (pa_cons (pe_callB call_len_str (by rfl) T.len PySem.boot_len (pa_cons (pv 0) pa_nil)) (pa_cons (C8.pe_gc rfl U.em) pa_nil))))))), ?_⟩
    refine ⟨_, rfl, S l, rfl, ?_, ?_⟩
    · rw [S_len]
      omega
    rw [strike_mb]
    refine ⟨_, rfl, b, rfl, ?_⟩
    cases b with
    | true =>
      refine iteT ⟨_, rfl, rfl, _, rfl, _, rfl, hlen, _, _, 46, rfl, rfl, hpad, ?_⟩
      rw [S_len, ljust_sl]
      exact k
    | false =>
      refine iteF ⟨_, rfl, rfl, _, rfl, _, rfl, hlen, _, _, 46, rfl, rfl, hpad, ?_⟩
      rw [S_len, rjust_sl]
      exact k
end
end TK
end
section
set_option Elab.async false
set_option maxRecDepth 100000
set_option linter.all false
namespace TK
open PySem L2 TM
open PySem.Spec PyProof.Rows TH
theorem at_map {α β : Type} {l : List α} {f : α → β} {i : Nat} {y : β} (h : (l.map f)[i]? = some y) : ∃ r, l[i]? = some r ∧ y = f r := by
  rw [List.getElem?_map] at h
  cases e : l[i]? with
  | none => rw [e] at h; cases h
  | some r => rw [e] at h; exact ⟨r, rfl, (Option.some.inj h).symm⟩
theorem take_map_snoc {α β : Type} {l : List α} {f : α → β} {i : Nat} {r : α} (h : l[i]? = some r) : (l.take (i + 1)).map f = (l.take i).map f ++ [f r] := by
  rw [List.take_add_one, h, List.map_append]
  rfl
/-- what zip hands out: a column -/
theorem col_of {g : Grid} {n m i : Nat} {cs : List Nat} (hr : Rect n m g) (hi : i < m) (hl : cs.length = (g.map S).length) (h : ∀ (k : Nat) (y : Str), (g.map S)[k]? = some y → ∃ c, y.cps[i]? = some c ∧ cs[k]? = some c) : (tr m g)[i]? = some cs := by
  rw [tr_get hi]
  refine congrArg some (List.ext_getElem? fun k => ?_)
  rw [List.getElem?_map]
  cases e : g[k]? with
  | none =>
    have : g.length ≤ k := List.getElem?_eq_none_iff.mp e
    rw [List.length_map] at hl
    rw [List.getElem?_eq_none_iff.mpr (by omega)]
    rfl
  | some r =>
    obtain ⟨c, h1, h2⟩ := h k (S r) (by rw [List.getElem?_map, e]; all_goals rfl)
    rw [S_at] at h1
    rw [h2]
    show some (r.getD i 46) = some c
    rw [List.getD_eq_getElem?_getD, h1]
    rfl
theorem dL (c d : Nat) : decide (sg c = V.str (S [d])) = (c == d) := by
  by_cases h : c = d
  · subst h; simp
  · simp [h]
/-- o.join(e), its reading by K -/
def rJn (K : PySem.W.Frag) : V → List V → Hp → VK → Prop := fun x xs H Q => ∃ a p, ∃ ys : List Str, x = .str a ∧ xs = [.ref p] ∧ (SqL K H p (ys.map V.str) ∨ SqT K H p (ys.map V.str)) ∧ (ys.map (·.length)).sum + ys.length * a.length ≤ 16777216 ∧ Q (.str (Txt.join a ys)) H
theorem pe_joinK {X : Cx} {K : PySem.W.Frag} {o e : Expr} {to te : TE} {apos pos : Pos} (hK : X.K = K) (ho : PE X o to) (he : PE X e te) (hs : starEach [e] X.env = [(false, eval e X.env)] := by rfl) (hbase : attributeBase o "join" X.env (eval o X.env) = eval o X.env := by rfl) (hline : (apos.endLine == pos.line) = true := by rfl) :
    PE X (.Call (.Attribute o "join" apos) [e] [] pos) (tM1 (rJn K) to te) := by
  subst hK
  exact pe_join ho he hs hbase hline
section
variable {P : Program} {w : World} {K : PySem.W.Frag} {mg : Str → Option Value} {base : Heap} {t0 : Tok} {n : Nat} {fS : Addr}
abbrev NTd : List Str := ["rows", "tilt", "columns", "row", "column"]
theorem scTd : FnScope NTd ["rows", "tilt"] (defScope sTilted) := ⟨rfl, rfl, rfl, by decide +kernel, rfl, by decide +kernel, by decide +kernel⟩
def spTd (K : PySem.W.Frag) : Sp := fun vs H Q _ => ∃ (a c h w : Nat) (g : Grid), vs = [.ref a, sg c] ∧ SqT K H a (rowV g) ∧ Rect h w g ∧ 1 ≤ h ∧ h ≤ 8 ∧ 1 ≤ w ∧ w ≤ 8 ∧ ∀ H' b, Same H H' → SqT K H' b (rowV (tilt h w g c)) → Q (.ref b) H'
theorem ok_td {f : Addr} {fd : FuncData} (F : Fun K "_tilted" "_tilted" sTilted f fd) (T : TxtW K mg) (U : TxtT K mg t0) (b : Binds K fd ["rows", "tilt"] []) (GS : FnRn n P w K mg base CX0 1 fS spSl) (kS : PySem.W.keepIn K (.ref fS) = true) (mS : mg "_slid" = some (.ref fS)) : FnRn n P w K mg base CX0 2 f (spTd K) := by
  refine fn_n F b scTd (fun vs H Q E h => ?_) fun cdv A outer s H vs Q E hr h => ?_
  · obtain ⟨a, c, h, w, g, rfl, _⟩ := h
    rfl
  · obtain ⟨a, c, h, w, g, rfl, hS, hr', h1, h8, w1, w8, k⟩ := h
    refine ⟨_, pssn_cons (psn_if (PT.up (pt_cmpR op_in_sign (pv 1) (C8.pe_gc rfl T.AR) (by rfl)))
        (pssn_one (psn_ret (pen_callTy call_tuple_of (by rfl) U.tup (by decide +kernel) (pan_cons (pen_lc (own := [("row", 3)]) (g := gName 3) rfl scTd.nd (pi_tup (pv 0)) (blkOk_by (N := NTd) (sc := defScope sTilted) (by decide +kernel)) (fun _ _ _ _ _ => pg_name (i := 3) scTd.nd rfl (.inl rfl))
          (fun _ _ _ _ _ => pen_call GS hr rfl mS kS pass0 (pan_cons (PE.up (pv 3)) (pan_cons (PE.up (pe_cmpR op_eq (pv 1) pe_str (nomark _))) pan_nil)))) pan_nil)))) (PSs.up pss_nil))
      (pssn_cons (psn_setLc (i := 2) (own := [("column", 4)]) (g := gName 4) rfl scTd.nd rfl rfl (sw_true rfl rfl rfl (by decide +kernel)) (pi_zips (by rfl) U.zip (pv 0)) (blkOk_by (N := NTd) (sc := defScope sTilted) (by decide +kernel)) (fun _ _ _ _ _ => pg_name (i := 4) scTd.nd rfl (.inl rfl))
          (fun _ _ _ _ _ => pen_call GS hr rfl mS kS pass0 (pan_cons (PE.up (pe_joinK (K := K) rfl pe_str (pv 4))) (pan_cons (PE.up (pe_cmpR op_eq (pv 1) pe_str (nomark _))) pan_nil))))
      (pssn_one (PS.up (ps_ret (pe_callTy call_tuple_of (by rfl) U.tup (by decide +kernel) (pa_cons (pe_lc (own := [("row", 3)]) (g := gName 3) (tt := tYes) rfl scTd.nd (pi_zips (by rfl) U.zip (pv 2)) (blkOk_by (N := NTd) (sc := defScope sTilted) (by decide +kernel)) (fun _ _ _ _ _ => pg_name (i := 3) scTd.nd rfl (.inl rfl)) (fun _ _ _ _ _ => pts_nil)
          (fun _ _ _ _ _ => pe_joinK (K := K) rfl pe_str (pv 3))) pa_nil)))))), ?_⟩
    have hrl : ∀ r ∈ g, r.length ≤ 8 := fun r hr => by rw [hr'.2 r hr]; exact w8
    refine ⟨_, rfl, c, S [108, 114], rfl, rfl, _, rfl, ?_⟩
    rw [dAR]
    by_cases hc : isH c = true
    · rw [hc]
      have et : tilt h w g c = TM.LT (c == 108) g := if_pos hc
      refine iteT ⟨_, rfl, a, rfl, ⟨_, hS⟩, fun D hD => lc_tup (K := K) (a := a) (xs := rowV g) (fun i H1 => Same H H1 ∧ H1 D = some (.lst ((g.take i).map fun r => V.str (S (sl (c == 108) r)))))
        ⟨same_new hD, upd_same⟩ (fun i H1 _ ⟨sm, _⟩ => sm.tup hS) ?_ ?_⟩
      · rintro i x H1 hi ⟨sm, hL⟩
        obtain ⟨r, hri, rfl⟩ := at_map hi
        have hrm := List.mem_of_getElem? hri
        refine ⟨rfl, ?_⟩
        refine ⟨_, rfl, _, rfl, rfl, r, c == 108, ?_, hrl r hrm, _, hL, ?_, ?_⟩
        · show [V.str (S r), V.bl (decide (sg c = V.str (S [108])))] = _
          rw [dL]
        · rw [List.length_map, List.length_take]
          show _ < 16777216
          have := hr'.1
          omega
        · refine ⟨same_put sm hD, ?_⟩
          rw [upd_same, take_map_snoc hri]
      · rintro H1 ⟨sm, hL⟩
        rw [List.length_map, List.take_length] at hL
        refine ⟨D, _, rfl, .inl ⟨SqL.of hL, fun l hl => ?_⟩⟩
        refine k _ l (sm.trans (same_new hl)) ?_
        rw [et]
        unfold TM.LT rowV
        rw [List.map_map]
        exact SqT.of upd_same
    · rw [Bool.not_eq_true] at hc
      rw [hc]
      have et : tilt h w g c = UT (c == 117) h w g := if_neg (by rw [hc]; exact Bool.false_ne_true)
      refine iteF ?_
      have hm : ∀ x ∈ g.map S, x.cps.size = w := fun x hx => by
        obtain ⟨r, hr, rfl⟩ := List.mem_map.mp hx
        rw [S_size]
        exact hr'.2 r hr
      have hS' : SqT K H a ((g.map S).map V.str) := by
        rw [List.map_map]
        exact hS
      refine ⟨_, rfl, a, g.map S, w, rfl, .inl hS', ?_, ?_, hm, fun D hD => lc_it walk_zips (fun i H1 => Same H H1 ∧ H1 D = some (.lst (((tr w g).take i).map fun r => V.str (S (sl (c == 117) r)))))
        ⟨same_new hD, upd_same⟩ (fun _ _ _ _ => True.intro) ?_ ?_⟩
      · rw [List.length_map, hr'.1]; omega
      · rw [List.length_map, hr'.1]; omega
      · rintro i x H1 H2 hi ⟨sm, hL⟩ ⟨T, cs, rfl, hT, rfl, hl, hcs⟩
        have hcol := col_of hr' hi hl hcs
        have hlc : cs.length = h := by rw [hl, List.length_map, hr'.1]
        have hL2 : upd H1 T (.tup (cs.map fun c => V.str ⟨#[c]⟩)) D = some (.lst (((tr w g).take i).map fun r => V.str (S (sl (c == 117) r)))) := by
          rw [upd_ne (ne_of_none hL hT)]
          exact hL
        refine ⟨rfl, ?_⟩
        refine ⟨⟨_, rfl⟩, _, rfl, _, T, cs.map fun c => S [c], rfl, rfl, .inr ?_, ?_, _, rfl, rfl, cs, c == 117, ?_, by omega, _, hL2, ?_, ?_⟩
        · rw [List.map_map]
          exact SqT.of upd_same
        · rw [sum_ones, List.length_map]
          show _ + _ * 0 ≤ _
          omega
        · show [V.str (Txt.join (Str.ofString "") (cs.map fun c => S [c])), V.bl (decide (sg c = V.str (S [117])))] = _
          rw [dL, join_signs]
        · rw [List.length_map, List.length_take]
          show _ < 16777216
          omega
        · refine ⟨same_put (sm.trans (same_new hT)) hD, ?_⟩
          rw [upd_same, take_map_snoc hcol]
      · rintro H1 ⟨sm, hL⟩
        have hrt := tr_rect hr'
        have hlt := lt_rect (s := c == 117) hrt
        rw [show (tr w g).take w = tr w g from List.take_of_length_le (by rw [hrt.1]; exact Nat.le_refl _)] at hL
        have hm2 : ∀ x ∈ (TM.LT (c == 117) (tr w g)).map S, x.cps.size = h := fun x hx => by
          obtain ⟨r, hr, rfl⟩ := List.mem_map.mp hx
          rw [S_size]
          exact hlt.2 r hr
        have hL' : SqL K H1 D (((TM.LT (c == 117) (tr w g)).map S).map V.str) := by
          unfold TM.LT
          rw [List.map_map, List.map_map]
          exact SqL.of hL
        refine ⟨_, rfl, D, (TM.LT (c == 117) (tr w g)).map S, h, rfl, .inr hL', ?_, ?_, hm2, fun D2 hD2 => lc_it walk_zips (fun i H2 => Same H H2 ∧ H2 D2 = some (.lst (((UT (c == 117) h w g).take i).map fun r => V.str (S r))))
          ⟨sm.trans (same_new hD2), upd_same⟩ (fun _ _ _ _ => True.intro) ?_ ?_⟩
        · rw [List.length_map, hlt.1]; omega
        · rw [List.length_map, hlt.1]; omega
        · rintro i x H2 H3 hi ⟨sm2, hL2⟩ ⟨T, cs, rfl, hT, rfl, hl, hcs⟩
          have hcol := col_of hlt hi hl hcs
          have hlc : cs.length = w := by rw [hl, List.length_map, hlt.1]
          have hL3 : upd H2 T (.tup (cs.map fun c => V.str ⟨#[c]⟩)) D2 = some (.lst (((UT (c == 117) h w g).take i).map fun r => V.str (S r))) := by
            rw [upd_ne (ne_of_none hL2 hT)]
            exact hL2
          refine ⟨rfl, ?_⟩
          refine ⟨⟨_, rfl⟩, _, rfl, _, T, cs.map fun c => S [c], rfl, rfl, .inr ?_, ?_, _, hL3, ?_, ?_⟩
          · rw [List.map_map]
            exact SqT.of upd_same
          · rw [sum_ones, List.length_map]
            show _ + _ * 0 ≤ _
            omega
          · rw [List.length_map, List.length_take]
            show _ < 16777216
            omega
          · refine ⟨same_put (sm2.trans (same_new hT)) (sm.free hD2), ?_⟩
            rw [upd_same, take_map_snoc (l := UT (c == 117) h w g) hcol, join_signs]
        · rintro H2 ⟨sm2, hL2⟩
          rw [show (UT (c == 117) h w g).take h = UT (c == 117) h w g from List.take_of_length_le (by rw [(ut_rect hr').1]; exact Nat.le_refl _)] at hL2
          refine ⟨D2, _, rfl, .inl ⟨SqL.of hL2, fun l hl => ?_⟩⟩
          refine k _ l (sm2.trans (same_new hl)) ?_
          rw [et]
          exact SqT.of upd_same
end
end TK
end
section
set_option Elab.async false
set_option maxRecDepth 100000
set_option linter.all false
namespace TK
open PySem L2 TM
open PySem.Spec PyProof.Rows TH
theorem mb_flat : ∀ g : Grid, mb g.flatten = (g.map mb).flatten
  | [] => rfl
  | r :: g => by rw [List.flatten_cons, mb_app, mb_flat g]; rfl
theorem flat_cons {f : Nat → Nat} {h : Nat → List Nat} : ∀ l : List Nat, ((l.map fun j => f j :: h j).flatten).Perm (l.map f ++ (l.map h).flatten)
  | [] => List.Perm.refl _
  | a :: l => by
    have ih := flat_cons (f := f) (h := h) l
    simp only [List.map_cons, List.flatten_cons, List.cons_append]
    refine List.Perm.cons _ ((List.Perm.append_left _ ih).trans ?_)
    rw [← List.append_assoc, ← List.append_assoc]
    exact List.Perm.append_right _ List.perm_append_comm
theorem flat_none : ∀ l : List Nat, ((l.map fun _ => ([] : List Nat)).flatten) = []
  | [] => rfl
  | _ :: l => by simp [flat_none l]
theorem get_all {m : Nat} {r : List Nat} (h : r.length = m) : (List.range m).map (fun j => r.getD j 46) = r := by
  subst h
  refine List.ext_getElem? fun k => ?_
  rw [List.getElem?_map]
  by_cases hk : k < r.length
  · rw [List.getElem?_range hk, List.getElem?_eq_getElem hk]
    simp [hk]
  · rw [List.getElem?_eq_none_iff.mpr (by simpa using hk), List.getElem?_eq_none_iff.mpr (by omega)]
    rfl
theorem tr_perm {m : Nat} : ∀ {g : Grid}, (∀ r ∈ g, r.length = m) → ((tr m g).flatten).Perm g.flatten
  | [], _ => by
    unfold tr
    rw [show ((List.range m).map fun j => ([] : Grid).map fun r => r.getD j 46) = (List.range m).map fun _ => [] from rfl, flat_none]
    exact List.Perm.refl _
  | r :: g, h => by
    have ih := tr_perm (g := g) fun z hz => h z (List.mem_cons_of_mem _ hz)
    unfold tr at ih ⊢
    refine (flat_cons (f := fun j => r.getD j 46) (h := fun j => g.map fun r => r.getD j 46) (List.range m)).trans ?_
    rw [get_all (h r List.mem_cons_self), List.flatten_cons]
    exact List.Perm.append_left _ ih
theorem lt_mb (s : Bool) (g : Grid) : mb (TM.LT s g).flatten = mb g.flatten := by
  rw [mb_flat, mb_flat]
  unfold TM.LT
  rw [List.map_map]
  congr 1
  exact List.map_congr_left fun r _ => mb_sl s r
/-- as many marbles, the same ones; and signs that are cells -/
structure Like (g g' : Grid) : Prop where
  pm : (mb g'.flatten).Perm (mb g.flatten)
  ok : (∀ c ∈ g.flatten, Cell c) → ∀ c ∈ g'.flatten, Cell c
theorem Like.trans {a b c : Grid} (x : Like a b) (y : Like b c) : Like a c := ⟨y.pm.trans x.pm, fun h => y.ok (x.ok h)⟩
theorem cell_of {l l' : List Nat} (e : mb l' = mb l) (h : ∀ c ∈ l, Cell c) : ∀ c ∈ l', Cell c := fun c hc => by
  by_cases h46 : c = 46
  · exact .inl h46
  · have : c ∈ mb l' := List.mem_filter.mpr ⟨hc, by simp [h46]⟩
    rw [e] at this
    exact h c (List.mem_filter.mp this).1
theorem like_lt (s : Bool) (g : Grid) : Like g (TM.LT s g) := ⟨by rw [lt_mb], cell_of (lt_mb s g)⟩
theorem like_tr {n m : Nat} {g : Grid} (h : Rect n m g) : Like g (tr m g) :=
  have p := tr_perm (m := m) h.2
  ⟨p.filter _, fun k c hc => k c (p.mem_iff.mp hc)⟩
theorem like_tilt {n m c : Nat} {g : Grid} (h : Rect n m g) : Like g (tilt n m g c) := by
  unfold tilt
  split
  · exact like_lt _ g
  · unfold UT
    exact ((like_tr h).trans (like_lt _ _)).trans (like_tr (lt_rect (tr_rect h)))
theorem VG.tilt {n m c : Nat} {g : Grid} (G : VG n m g) : VG n m (TM.tilt n m g c) := by
  have L := like_tilt (c := c) G.rc
  refine ⟨tilt_rect G.rc, G.n1, G.n8, G.m1, G.m8, fun r hr d hd => ?_, L.pm.nodup_iff.mpr G.nd⟩
  exact L.ok (fun d hd => by
    obtain ⟨r, hr, hd⟩ := List.mem_flatten.mp hd
    exact G.ok r hr d hd) d (List.mem_flatten.mpr ⟨r, hr, hd⟩)
theorem VG.tilts {n m : Nat} : ∀ (t : List Nat) {g : Grid}, VG n m g → VG n m (TM.tilts n m t g)
  | [], _, G => G
  | c :: t, g, G => VG.tilts t (G.tilt (c := c))
section
variable {P : Program} {w : World} {K : PySem.W.Frag} {mg : Str → Option Value} {base : Heap} {t0 : Tok} {n : Nat} {C D pT gT fD fI : Addr} {fdG : FuncData}
theorem scRs : FnScope ["self", "other", "rows", "tilt"] ["self", "other"] (defScope sTrayRshift) := ⟨rfl, rfl, rfl, by decide +kernel, rfl, by decide +kernel, by decide +kernel⟩
def spRs (K : PySem.W.Frag) (C D : Addr) : Sp := fun vs H Q _ => ∃ (p q : Addr) (h w : Nat) (g : Grid) (t : List Nat), vs = [.ref p, .ref q] ∧ TrayAt K D H p g ∧ VG h w g ∧ WordAt C H q t ∧ ∀ H' r, Same H H' → TrayAt K D H' r (tilts h w t g) → Q (.ref r) H'
theorem ok_rs {f : Addr} {fd : FuncData} (F : Fun K "__rshift__" "Tray.__rshift__" sTrayRshift f fd) (T : TxtW K mg) (CW : ClsW K mg C) (CT : ClsT K mg D) (IC : C8.InsC K C) (b : Binds K fd ["self", "other"] [])
    (PT : PropOf K C "text" pT gT) (GT : FnOk P w K mg base CX0 1 gT fdG ["self"] (getSp C "_text")) (bT : Binds K fdG ["self"] [])
    (GD : FnRn n P w K mg base CX0 2 fD (spTd K)) (kD : PySem.W.keepIn K (.ref fD) = true) (mD : mg "_tilted" = some (.ref fD)) (M : Mk K D fI)
    (GI : FnR P w K mg base CX0 3 fI (fun vs H Q E => ∃ ws rest, vs = ws ++ rest ∧ ws.length = 1 ∧ rest.length ≤ sizeLine ∧ ∀ p, H p = Option.none → spTi K D (ws ++ [V.ref p]) (upd H p (.tup rest)) Q E)) :
    FnRn n P w K mg base CX0 5 f (spRs K C D) := by
  refine fn_n F b scRs (fun vs H Q E h => ?_) fun cdv A outer s H vs Q E hr h => ?_
  · obtain ⟨p, q, h, w, g, t, rfl, _⟩ := h
    rfl
  · obtain ⟨p, q, h, w, g, t, rfl, ⟨dx, a, hp, hS⟩, G, ⟨dy, hq⟩, k⟩ := h
    refine ⟨_, pssn_cons (PS.up (ps_if (pt_not (pt_val (pe_callB (C8.call_isC IC) (by rfl) T.isi (by decide +kernel) (pa_cons (pv 1) (pa_cons (pe_glob (v := .ref C) rfl CW.mgC rfl) pa_nil))))) pss_never pss_nil))
      (pssn_cons (PS.up (ps_set (i := 2) scRs.nd rfl (.inl rfl) (pe_fld (pv 0) rfl)))
      (pssn_cons (psn_for PassesOwn.never rfl (pi_str (pe_prop (pv 1) CW.cl PT GT (hr.mono (by decide)) bT .nil pass0 rfl)) (pg_name (i := 3) scRs.nd rfl (.inl rfl))
        (pssn_one (psn_set (i := 2) scRs.nd rfl (.inl rfl) (pen_call GD (hr.mono (by decide)) rfl mD kD pass0 (pan_cons (PE.up (pv 2)) (pan_cons (PE.up (pv 3)) pan_nil))))))
      (pssn_one (PS.up (ps_ret (pe_makeS M GI hr rfl CT.mgC pass0 (pv 2))))))), ?_⟩
    refine ⟨_, rfl, q, dy, _, rfl, hq, true, rfl, iteF ?_⟩
    refine ⟨_, rfl, p, D, dx, _, _, rfl, hp, CT.cl, CT.nR, rfl, ?_⟩
    refine ⟨_, rfl, q, dy, _, rfl, hq, q, dy, _, _, rfl, hq, rfl, S t, rfl, for_it (walk_str (z := S t)) (fun i σ H1 => ∃ b v, σ = [some (.ref p), some (.ref q), some (.ref b), v] ∧ Same H H1 ∧ SqT K H1 b (rowV (tilts h w (t.take i) g)))
      ⟨a, none, rfl, Same.refl H, hS⟩ (fun _ _ _ _ _ => True.intro) ?_ ?_⟩
    · rintro i x σ H1 H2 hi ⟨b, v, rfl, sm, hb⟩ ⟨rfl, c, hc, rfl⟩
      rw [S_at] at hc
      have et : tilts h w (t.take (i + 1)) g = TM.tilt h w (tilts h w (t.take i) g) c := by
        rw [List.take_add_one, hc]
        exact tilts_snoc _ _
      have G2 := VG.tilts (t.take i) G
      refine ⟨_, rfl, _, rfl, b, c, h, w, _, rfl, hb, G2.rc, G.n1, G.n8, G.m1, G.m8, fun H3 b3 sm3 hb3 => ?_⟩
      rw [et]
      exact ⟨b3, _, rfl, sm.trans sm3, hb3⟩
    · rintro σ H1 ⟨b, v, rfl, sm, hb⟩
      rw [S_size, List.take_length] at hb
      have G2 := VG.tilts t G
      refine ⟨_, rfl, b, _, rfl, .inl hb, fun x dx nx ndx nex => ?_⟩
      refine ⟨[.ref x], rowV (tilts h w t g), rfl, rfl, ?_, fun p hp => ?_⟩
      · have := G2.len
        rw [List.length_map]
        show _ ≤ 16777216
        omega
      have hpx : x ≠ p := fun z => by rw [← z, upd_same] at hp; cases hp
      refine ⟨x, dx, p, h, w, _, rfl, by rw [upd_ne hpx, upd_same], SqT.of upd_same, G2, fun H' ht kp => ⟨rfl, ?_⟩⟩
      refine k _ _ (sm.trans fun b o e => ?_) ht
      have hbx : b ≠ x := ne_of_none e nx
      have hbd : b ≠ dx := ne_of_none e ndx
      have e2 : (upd (upd H1 dx (.own x)) x (.ins D dx [])) b = some o := by rw [upd_ne hbx, upd_ne hbd]; exact e
      exact kp b o (by rw [upd_ne (ne_of_none e2 hp)]; exact e2) hbx
end
end TK
end
section
set_option Elab.async false
set_option maxRecDepth 100000
set_option linter.all false
namespace TK
open PySem L2 TM
structure TxtL (K : PySem.W.Frag) (mg : Str → Option Value) : Prop where
  int : mg "int" = none
  range : mg "range" = none
  min : mg "min" = none
/-- the script's list at a, where the drawing stands at r -/
def RowAt (K : PySem.W.Frag) (a : Addr) (ns : List Int) (H : Hp) (r : Addr) : Prop := ∃ i seed rest : Int, H r = some (.lst [.ref a, .int i, .int seed, .int rest]) ∧ 0 ≤ i ∧ SqL K H a (ns.map V.int)
def But (r : Addr) (H H' : Hp) : Prop := ∀ b o, H b = some o → b ≠ r → H' b = some o
theorem But.refl (r : Addr) (H : Hp) : But r H H := fun _ _ h _ => h
theorem But.trans {r : Addr} {H H1 H2 : Hp} (a : But r H H1) (b : But r H1 H2) : But r H H2 := fun c o h n => b c o (a c o h n) n
theorem But.same {r : Addr} {H H' : Hp} (s : Same H H') : But r H H' := fun b o h _ => s b o h
theorem RowAt.same {K : PySem.W.Frag} {a r : Addr} {ns : List Int} {H H' : Hp} (R : RowAt K a ns H r) (s : Same H H') : RowAt K a ns H' r := by
  obtain ⟨i, d, e, h, hi, q⟩ := R
  exact ⟨i, d, e, s _ _ h, hi, s.seq q⟩
theorem row_seq {K : PySem.W.Frag} {a r : Addr} {ns : List Int} {H : Hp} {i d e : Int} {o : HO} (h : H r = some (.lst [.ref a, .int i, .int d, .int e])) (q : SqL K H a (ns.map V.int)) : SqL K (upd H r o) a (ns.map V.int) := by
  have hne : ∀ {u : HO}, H a = some u → (∀ xs, u = .lst xs → xs ≠ [.ref a, .int i, .int d, .int e]) → a ≠ r := fun hu hn e' => by
    subst e'
    exact hn _ (Option.some.inj (hu.symm.trans h)) rfl
  rcases q with (q | ⟨u, q⟩) | q
  · refine .inl (.inl ?_)
    rw [upd_ne (hne q fun xs e => by
      cases e
      intro z
      cases ns with
      | nil => simp at z
      | cons n r => simp at z)]
    exact q
  · refine .inl (.inr ⟨u, ?_⟩)
    rw [upd_ne (hne q fun xs e => by cases e)]
    exact q
  · exact .inr q
theorem fmod_in {k m : Int} (h : 1 ≤ m) : 0 ≤ k.fmod m ∧ k.fmod m < m := by
  rw [Int.fmod_eq_emod_of_nonneg _ (by omega)]
  exact ⟨Int.emod_nonneg _ (by omega), Int.emod_lt_of_pos _ (by omega)⟩
section
variable {P : Program} {w : World} {K : PySem.W.Frag} {mg : Str → Option Value} {base : Heap}
theorem scTk : FnScope ["_law_row", "_law_many", "_law_found", "_law_cell"] ["_law_row", "_law_many"] (defScope sLawTaken) := ⟨rfl, rfl, rfl, by decide +kernel, rfl, by decide +kernel, by decide +kernel⟩
def spTk (K : PySem.W.Frag) (a : Addr) (ns : List Int) : Sp := fun vs H Q _ => ∃ (r : Addr) (m : Int), vs = [.ref r, .int m] ∧ RowAt K a ns H r ∧ 1 ≤ m ∧ m ≤ 1000000000 ∧ ∀ H' (k : Nat), (k : Int) < m → RowAt K a ns H' r → But r H H' → Q (.int k) H'
theorem ok_tk {a : Addr} {ns : List Int} {f : Addr} {fd : FuncData} (F : Fun K "_law_taken" "_law_taken" sLawTaken f fd) (T : TxtW K mg) (L : TxtL K mg) : FnOk P w K mg base CX0 1 f fd ["_law_row", "_law_many"] (spTk K a ns) := by
  refine F.ok scTk (fun vs H Q E h => ?_) (fun cdv A outer s H vs Q E hr h => ?_)
  · obtain ⟨r, m, rfl, _⟩ := h
    rfl
  · obtain ⟨r, m, rfl, ⟨i, d, e, hR, hi, hS⟩, m1, m2, k⟩ := h
    have nd := scTk.nd
    refine ⟨_, pss_cons (ps_if (pt_cmpR op_gt (pe_ix ix_list (pv 0) pe_int (fun _ _ => rfl)) pe_int (nomark _))
        (pss_cons (ps_set (i := 2) nd rfl (.inl rfl) (pe_op op_modN (pe_callTy call_int1 (by rfl) L.int (by decide +kernel) (pa_cons (pe_ix ix_list (pv 0) pe_int (fun _ _ => rfl)) pa_nil)) (pv 1)))
        (pss_cons (ps_asg (pe_op op_fdivN (pe_ix ix_list (pv 0) pe_int (fun _ _ => rfl)) (pv 1)) (pg_sub (pv 0) pe_int set_list))
        (pss_one (ps_ret (pv 2))))) pss_nil)
      (C8.pss_cut (ps_asg (pe_op op_add (pe_ix ix_list (pv 0) pe_int (fun _ _ => rfl)) pe_int) (pg_sub (pv 0) pe_int set_list))
      (pss_cons (ps_if (pt_cmpR op_gt (pe_ix ix_list (pv 0) pe_int (fun _ _ => rfl)) (pe_callB call_len_seq (by rfl) T.len PySem.boot_len (pa_cons (pe_ix ix_list (pv 0) pe_int (fun _ _ => rfl)) pa_nil)) (nomark _))
        (pss_cons (ps_asg (pe_op op_modN (pe_callTy call_int1 (by rfl) L.int (by decide +kernel) (pa_cons (pe_op op_add (pe_op op_mul (pe_ix ix_list (pv 0) pe_int (fun _ _ => rfl)) pe_int) pe_int) pa_nil)) pe_int) (pg_sub (pv 0) pe_int set_list))
        (pss_one (ps_ret (pe_op op_modN (pe_callTy call_int1 (by rfl) L.int (by decide +kernel) (pa_cons (pe_op op_fdivN (pe_ix ix_list (pv 0) pe_int (fun _ _ => rfl)) pe_int) pa_nil)) (pv 1))))) pss_nil)
      (pss_cons (ps_set (i := 3) nd rfl (.inl rfl) (pe_ix ix_list (pe_ix ix_list (pv 0) pe_int (fun _ _ => rfl)) (pe_op op_sub (pe_ix ix_list (pv 0) pe_int (fun _ _ => rfl)) pe_int) (fun _ _ => rfl)))
      (C8.pss_cut (ps_asg (pe_op op_modN (pe_callTy call_int1 (by rfl) L.int (by decide +kernel) (pa_cons (pe_op op_add (pe_op op_add (pe_op op_mul (pe_ix ix_list (pv 0) pe_int (fun _ _ => rfl)) pe_int) (pv 3)) pe_int) pa_nil)) pe_int) (pg_sub (pv 0) pe_int set_list))
      (C8.pss_cut (ps_if (pt_cmpR op_ge (pv 3) (pe_op op_pow pe_int pe_int) (nomark _)) (pss_one (ps_asg (pe_op op_fdivN (pv 3) (pv 1)) (pg_sub (pv 0) pe_int set_list))) pss_nil)
      (pss_one (ps_ret (pe_op op_modN (pe_callTy call_int1 (by rfl) L.int (by decide +kernel) (pa_cons (pv 3) pa_nil)) (pv 1))))))))), ?_⟩
    have m0 : m ≠ 0 := by omega
    have mb : m ≠ 0 ∧ m.natAbs < 1073741824 := ⟨m0, by omega⟩
    have row : ∀ {H1 : Hp} {i d e : Int}, H1 r = some (.lst [.ref a, .int i, .int d, .int e]) → 0 ≤ i → SqL K H1 a (ns.map V.int) → RowAt K a ns H1 r := fun h1 h2 h3 => ⟨_, _, _, h1, h2, h3⟩
    have but : ∀ {H1 : Hp} {o : HO}, But r H H1 → But r H (upd H1 r o) := fun b c o h n => by rw [upd_ne n]; exact b c o h n
    refine ⟨_, rfl, r, _, _, _, rfl, rfl, SqL.of hR, rfl, _, _, rfl, rfl, _, rfl, ?_⟩
    by_cases he : e > 0
    · rw [decide_eq_true he]
      refine iteT ⟨_, rfl, r, _, _, _, rfl, rfl, SqL.of hR, rfl, .inl ⟨_, rfl, _, rfl, _, _, rfl, rfl, m0, ?_⟩⟩
      refine ⟨_, rfl, r, _, _, _, rfl, rfl, SqL.of hR, rfl, _, rfl, _, _, rfl, rfl, mb, _, rfl, r, _, _, 3, rfl, rfl, hR, rfl, ?_⟩
      refine ⟨_, rfl, ?_⟩
      have hk := fmod_in (k := e) m1
      have := k (upd H r (.lst [.ref a, .int i, .int d, .int (e.fdiv m)])) (e.fmod m).toNat (by omega) (row upd_same hi (row_seq hR hS)) (but (But.refl r H))
      rw [Int.toNat_of_nonneg hk.1] at this
      exact this
    · rw [decide_eq_false he]
      refine iteF ?_
      refine ⟨fun σ H1 => σ = [some (.ref r), some (.int m), none, none] ∧ H1 r = some (.lst [.ref a, .int (i + 1), .int d, .int e]) ∧ SqL K H1 a (ns.map V.int) ∧ But r H H1, ?_, ?_⟩
      · refine ⟨_, rfl, r, _, _, _, rfl, rfl, SqL.of hR, rfl, _, _, rfl, rfl, _, rfl, r, _, _, 1, rfl, rfl, hR, rfl, ?_⟩
        exact ⟨rfl, upd_same, row_seq hR hS, but (But.refl r H)⟩
      rintro σ H1 ⟨rfl, hR1, hS1, b1⟩
      refine ⟨_, rfl, r, _, _, _, rfl, rfl, SqL.of hR1, rfl, _, rfl, r, _, _, _, rfl, rfl, SqL.of hR1, rfl, a, _, rfl, .inl hS1, _, _, rfl, rfl, _, rfl, ?_⟩
      rw [List.length_map]
      by_cases hl : i + 1 > (ns.length : Int)
      · rw [decide_eq_true hl]
        refine iteT ⟨_, rfl, r, _, _, _, rfl, rfl, SqL.of hR1, rfl, _, _, rfl, rfl, .inr (by decide), _, _, rfl, rfl, .inl ⟨_, rfl, _, _, rfl, rfl, (by show (2147483647 : Int) ≠ 0; decide), _, rfl, r, _, _, 2, rfl, rfl, hR1, rfl, ?_⟩⟩
        refine ⟨_, rfl, r, _, _, _, rfl, rfl, SqL.of upd_same, rfl, _, _, rfl, rfl, (by show (7 : Int) ≠ 0 ∧ (7 : Int).natAbs < 1073741824; decide), .inl ⟨_, rfl, _, rfl, _, _, rfl, rfl, m0, ?_⟩⟩
        have hk := fmod_in (k := ((d * 48271 + 11).fmod 2147483647).fdiv 7) m1
        have := k (upd H1 r (.lst [.ref a, .int (i + 1), .int ((d * 48271 + 11).fmod 2147483647), .int e])) (((d * 48271 + 11).fmod 2147483647).fdiv 7 |>.fmod m).toNat (by omega) (row upd_same (by omega) (row_seq hR1 hS1)) (but b1)
        rw [Int.toNat_of_nonneg hk.1] at this
        exact this
      · rw [decide_eq_false hl]
        refine iteF ?_
        obtain ⟨c, hc⟩ : ∃ c, ns[i.toNat]? = some c := ⟨_, List.getElem?_eq_getElem (by omega)⟩
        refine ⟨_, rfl, r, _, _, _, rfl, rfl, SqL.of hR1, rfl, _, rfl, r, _, _, _, rfl, rfl, SqL.of hR1, rfl, _, _, rfl, rfl, a, _, _, .int c, rfl, rfl, hS1, ?_, ?_⟩
        · rw [show i + 1 - 1 = ((i.toNat : Nat) : Int) by omega]
          exact atI_nat (by rw [List.getElem?_map, hc]; all_goals rfl)
        refine ⟨fun σ H2 => ∃ d' : Int, σ = [some (.ref r), some (.int m), none, some (.int c)] ∧ H2 r = some (.lst [.ref a, .int (i + 1), .int d', .int e]) ∧ SqL K H2 a (ns.map V.int) ∧ But r H H2, ?_, ?_⟩
        · refine ⟨_, rfl, r, _, _, _, rfl, rfl, SqL.of hR1, rfl, _, _, rfl, rfl, .inr (by decide), _, rfl, _, _, rfl, rfl, _, _, rfl, rfl, .inl ⟨_, rfl, _, _, rfl, rfl, (by show (2147483647 : Int) ≠ 0; decide), _, rfl, r, _, _, 2, rfl, rfl, hR1, rfl, ?_⟩⟩
          exact ⟨_, rfl, upd_same, row_seq hR1 hS1, but b1⟩
        rintro σ H2 ⟨d', rfl, hR2, hS2, b2⟩
        refine ⟨fun σ H3 => ∃ e' : Int, σ = [some (.ref r), some (.int m), none, some (.int c)] ∧ H3 r = some (.lst [.ref a, .int (i + 1), .int d', .int e']) ∧ SqL K H3 a (ns.map V.int) ∧ But r H H3, ?_, ?_⟩
        · refine ⟨_, rfl, _, _, rfl, rfl, ⟨by decide, by decide, by decide⟩, _, _, rfl, rfl, _, rfl, ?_⟩
          refine ite2 (fun _ => ?_) fun _ => ?_
          · refine ⟨_, rfl, _, rfl, _, _, rfl, rfl, mb, _, rfl, r, _, _, 3, rfl, rfl, hR2, rfl, ?_⟩
            exact ⟨_, rfl, upd_same, row_seq hR2 hS2, but b2⟩
          · exact ⟨e, rfl, hR2, hS2, b2⟩
        rintro σ H3 ⟨e', rfl, hR3, hS3, b3⟩
        refine ⟨_, rfl, .inl ⟨_, rfl, _, rfl, _, _, rfl, rfl, m0, ?_⟩⟩
        have hk := fmod_in (k := c) m1
        have := k H3 (c.fmod m).toNat (by omega) (row hR3 (by omega) hS3) b3
        rw [Int.toNat_of_nonneg hk.1] at this
        exact this
end
end TK
end
section
set_option Elab.async false
set_option maxRecDepth 100000
set_option linter.all false
namespace TK
open PySem L2 TM
/-- the letters of a way -/
def lets (k : Nat) : List Nat := match k with
  | 0 => [108, 114, 117, 100]
  | 1 => [108, 117]
  | 2 => [114, 100, 108, 117]
  | _ => [108, 114]
theorem lets_ok : ∀ k, ∀ c ∈ lets k, isT c = true
  | 0 => by decide
  | 1 => by decide
  | 2 => by decide
  | _ + 3 => by show ∀ c ∈ [108, 114], isT c = true; decide
theorem lets_1 : ∀ k, 1 ≤ (lets k).length ∧ (lets k).length ≤ 4
  | 0 => by decide
  | 1 => by decide
  | 2 => by decide
  | _ + 3 => ⟨(by show 1 ≤ 2; decide), (by show 2 ≤ 4; decide)⟩
theorem way_text {k : Nat} (h : k < 4) : ([V.str (S [108, 114, 117, 100]), V.str (S [108, 117]), V.str (S [114, 100, 108, 117]), V.str (S [108, 114])] : List V)[k]? = some (.str (S (lets k))) := by
  match k, h with
  | 0, _ => rfl
  | 1, _ => rfl
  | 2, _ => rfl
  | 3, _ => rfl
theorem way_len {k : Nat} (h : k < 4) : ([V.int 4, V.int 2, V.int 4, V.int 2] : List V)[k]? = some (.int ((lets k).length : Nat)) := by
  match k, h with
  | 0, _ => rfl
  | 1, _ => rfl
  | 2, _ => rfl
  | 3, _ => rfl
section
variable {P : Program} {w : World} {K : PySem.W.Frag} {mg : Str → Option Value} {base : Heap} {a : Addr} {ns : List Int} {fT : Addr} {fdT : FuncData}
abbrev NTx : List Str := ["_law_row", "_law_most", "_law_text_here", "_law_way", "_law_k"]
theorem scTx : FnScope NTx ["_law_row", "_law_most"] (defScope sLawText) := ⟨rfl, rfl, rfl, by decide +kernel, rfl, by decide +kernel, by decide +kernel⟩
def spTx (K : PySem.W.Frag) (a : Addr) (ns : List Int) : Sp := fun vs H Q _ => ∃ (r : Addr) (m : Nat), vs = [.ref r, .int m] ∧ RowAt K a ns H r ∧ m ≤ 60 ∧ ∀ H' t, Good t → t.length ≤ m → RowAt K a ns H' r → But r H H' → Q (.str (S t)) H'
theorem ok_tx {f : Addr} {fd : FuncData} (F : Fun K "_law_text" "_law_text" sLawText f fd) (L : TxtL K mg) (GT : FnOk P w K mg base CX0 1 fT fdT ["_law_row", "_law_many"] (spTk K a ns)) (kT : PySem.W.keepIn K (.ref fT) = true) (bT : Binds K fdT ["_law_row", "_law_many"] []) (mT : mg "_law_taken" = some (.ref fT)) :
    FnOk P w K mg base CX0 2 f fd ["_law_row", "_law_most"] (spTx K a ns) := by
  refine F.ok scTx (fun vs H Q E h => ?_) (fun cdv A outer s H vs Q E hr h => ?_)
  · obtain ⟨r, m, rfl, _⟩ := h
    rfl
  · obtain ⟨r, m, rfl, hR, hm, k⟩ := h
    have nd := scTx.nd
    refine ⟨_, pss_cons (ps_par (i := 2) (j := 3) rfl nd rfl rfl (by decide) rfl rfl (pa_cons pe_str (pa_cons (pe_call GT hr rfl mT kT bT .nil pass0 (pa_cons (pv 0) (pa_cons pe_int pa_nil))) pa_nil)) (by rfl))
      (pss_cons (ps_for PassesOwn.never rfl (pi_range1 (by rfl) L.range (pa_cons (pe_call GT hr rfl mT kT bT .nil pass0 (pa_cons (pv 0) (pa_cons (pe_op op_add (pv 1) pe_int) pa_nil))) pa_nil)) (pg_name (i := 4) nd rfl (.inl rfl))
        (pss_one (ps_set (i := 2) nd rfl (.inl rfl) (pe_op op_add_str (pv 2)
          (pe_ix ix_str (pe_ix ix_list (pe_lst (pa_cons pe_str (pa_cons pe_str (pa_cons pe_str (pa_cons pe_str pa_nil))))) (pv 3) (fun _ _ => rfl))
            (pe_call GT hr rfl mT kT bT .nil pass0 (pa_cons (pv 0) (pa_cons (pe_ix ix_list (pe_lst (pa_cons pe_int (pa_cons pe_int (pa_cons pe_int (pa_cons pe_int pa_nil))))) (pv 3) (fun _ _ => rfl)) pa_nil))) (fun _ _ => rfl))))))
      (pss_one (ps_ret (pv 2)))), ?_⟩
    refine ⟨_, rfl, r, 4, rfl, hR, by decide, by decide, fun H1 way hw R1 b1 => ?_⟩
    refine ⟨_, _, rfl, ?_⟩
    refine ⟨_, rfl, _, rfl, _, _, rfl, rfl, r, (m : Int) + 1, rfl, R1, by omega, by omega, fun H2 j hj R2 b2 => ?_⟩
    refine ⟨(j : Int), rfl, by omega, by omega, for_range (lo := 0) (n := (j : Int).toNat) (fun i σ H3 => ∃ t v, σ = [some (.ref r), some (.int m), some (.str (S t)), some (.int way), v] ∧ t.length = i ∧ (∀ c ∈ t, isT c = true) ∧ RowAt K a ns H3 r ∧ But r H H3)
      ⟨[], none, rfl, rfl, by simp, R2, b1.trans b2⟩ ?_ ?_⟩
    · rintro i σ H3 hi ⟨t, v, rfl, ht, hg, R3, b3⟩
      have hw4 : way < 4 := by omega
      refine ⟨_, rfl, (by show 4 ≤ sizeLine; decide), fun p hp => ?_⟩
      have sm : Same H3 (upd H3 p (.lst [V.str (S [108, 114, 117, 100]), V.str (S [108, 117]), V.str (S [114, 100, 108, 117]), V.str (S [108, 114])])) := same_new hp
      refine ⟨_, rfl, p, _, _, _, rfl, rfl, SqL.of upd_same, atI_nat (way_text hw4), ?_⟩
      refine ⟨_, rfl, (by show 4 ≤ sizeLine; decide), fun q hq => ?_⟩
      refine ⟨_, rfl, q, _, _, _, rfl, rfl, SqL.of upd_same, atI_nat (way_len hw4), ?_⟩
      have R4 := (R3.same sm).same (same_new (o := .lst [V.int 4, V.int 2, V.int 4, V.int 2]) hq)
      refine ⟨r, _, rfl, R4, ?_, ?_, fun H5 d hd R5 b5 => ?_⟩
      · have := (lets_1 way).1; omega
      · have := (lets_1 way).2; omega
      have hd' : d < (lets way).length := by omega
      obtain ⟨c, hc⟩ : ∃ c, (lets way)[d]? = some c := ⟨_, List.getElem?_eq_getElem hd'⟩
      have h4 := (lets_1 way).2
      refine ⟨S (lets way), (d : Int), c, rfl, rfl, ?_, ?_, ?_⟩
      · rw [S_len]
        show _ ≤ 16777216
        omega
      · rw [S_list]
        exact atI_nat hc
      refine ⟨_, _, rfl, rfl, ?_, ?_⟩
      · rw [S_len, ht]
        show i + 1 ≤ 16777216
        omega
      refine ⟨t ++ [c], some (.int (0 + (i : Int))), ?_, ?_, ?_, R5, ?_⟩
      · rw [← show S t ++ ⟨#[c]⟩ = S (t ++ [c]) from SX.S_cat t [c]]
        rfl
      · simp [ht]
      · intro x hx
        rcases List.mem_append.mp hx with hx | hx
        · exact hg x hx
        · rw [List.mem_singleton.mp hx]
          exact lets_ok way c (List.mem_of_getElem? hc)
      · exact ((b3.trans (.same sm)).trans (.same (same_new hq))).trans b5
    · rintro σ H3 ⟨t, v, rfl, ht, hg, R3, b3⟩
      exact ⟨_, rfl, k _ t ⟨by omega, hg⟩ (by omega) R3 b3⟩
end
end TK
end
section
set_option Elab.async false
set_option maxRecDepth 100000
set_option linter.all false
namespace TK
open PySem L2 TM
abbrev intV (l : List Nat) : List V := l.map fun j => V.int (j : Nat)
theorem range_snoc {p : Nat → Bool} (i : Nat) : (List.range (i + 1)).filter p = (List.range i).filter p ++ (if p i then [i] else []) := by
  rw [List.range_succ, List.filter_append]
  congr 1
  by_cases h : p i <;> simp [h]
section
variable {P : Program} {w : World} {K : PySem.W.Frag} {mg : Str → Option Value} {base : Heap}
end
end TK
end
section
set_option Elab.async false
set_option maxRecDepth 100000
set_option linter.all false
namespace TK
open PySem L2 TM
/-- the cells in rows of w -/
def chunk (h w : Nat) (cs : List Nat) : Grid := (List.range h).map fun i => (cs.drop (i * w)).take w
theorem chunk_flat (w : Nat) (cs : List Nat) : ∀ h, (chunk h w cs).flatten = cs.take (h * w)
  | 0 => by simp [chunk]
  | h + 1 => by
    have ih := chunk_flat w cs h
    unfold chunk at ih ⊢
    rw [List.range_succ, List.map_append, List.flatten_append, ih, List.map_singleton, List.flatten_cons, List.flatten_nil, List.append_nil, Nat.succ_mul]
    exact (List.take_add).symm
theorem chunk_rect {h w : Nat} {cs : List Nat} (hl : cs.length = h * w) : Rect h w (chunk h w cs) := by
  refine ⟨by simp [chunk], fun r hr => ?_⟩
  obtain ⟨i, hi, rfl⟩ := List.mem_map.mp hr
  have hi := List.mem_range.mp hi
  rw [List.length_take, List.length_drop, hl]
  have : (i + 1) * w ≤ h * w := Nat.mul_le_mul_right _ hi
  rw [Nat.succ_mul] at this
  omega
/-- k marbles lie, a, b, .. of them -/
structure Lay (k : Nat) (cs : List Nat) : Prop where
  len : (mb cs).length = k
  nd : (mb cs).Nodup
  ab : ∀ c ∈ mb cs, 97 ≤ c ∧ c < 97 + k
theorem Lay.none (n : Nat) : Lay 0 (List.replicate n 46) := by
  have e : mb (List.replicate n 46) = [] := mb_dots n
  exact ⟨by rw [e]; rfl, by rw [e]; exact List.nodup_nil, by rw [e]; intro c hc; cases hc⟩
theorem Lay.cell {k : Nat} {cs : List Nat} (L : Lay k cs) (hk : k ≤ 26) : ∀ c ∈ cs, Cell c := fun c hc => by
  by_cases h : c = 46
  · exact .inl h
  · have := L.ab c (List.mem_filter.mpr ⟨hc, by simp [h]⟩)
    exact .inr ⟨this.1, by omega⟩
theorem Lay.put {k p : Nat} {cs : List Nat} (L : Lay k cs) (hp : cs[p]? = some 46) : Lay (k + 1) (cs.set p (97 + k)) := by
  have hi := (List.getElem?_eq_some_iff.mp hp).1
  have e1 : cs = cs.take p ++ 46 :: cs.drop (p + 1) := by
    have := (List.getElem?_eq_some_iff.mp hp).2
    rw [← this]
    simp
  have e2 : cs.set p (97 + k) = cs.take p ++ (97 + k) :: cs.drop (p + 1) := List.set_eq_take_append_cons_drop ▸ by rw [if_pos hi]
  have m1 : mb cs = mb (cs.take p) ++ mb (cs.drop (p + 1)) := by
    conv => lhs; rw [e1, mb_app]
    simp [mb]
  have m2 : mb (cs.set p (97 + k)) = mb (cs.take p) ++ (97 + k) :: mb (cs.drop (p + 1)) := by
    rw [e2, mb_app]
    have : (97 + k != 46) = true := by simp; omega
    simp [mb, this]
  have pm : (mb (cs.set p (97 + k))).Perm ((97 + k) :: mb cs) := by
    rw [m1, m2]
    exact List.perm_middle
  have fresh : 97 + k ∉ mb cs := fun h => by
    have := L.ab _ h
    omega
  refine ⟨by rw [pm.length_eq, List.length_cons, L.len], pm.nodup_iff.mpr (List.nodup_cons.mpr ⟨fresh, L.nd⟩), fun c hc => ?_⟩
  rcases List.mem_cons.mp (pm.mem_iff.mp hc) with e | e
  · subst e; omega
  · have := L.ab c e
    omega
/-- the free places -/
def frees (cs : List Nat) (n : Nat) : List Nat := (List.range n).filter fun j => cs.getD j 0 == 46
theorem frees_le (cs : List Nat) (n : Nat) : (frees cs n).length ≤ n := by
  have := List.length_filter_le (fun j => cs.getD j 0 == 46) (List.range n)
  rw [List.length_range] at this
  exact this
theorem frees_at {cs : List Nat} {d p : Nat} (h : (frees cs cs.length)[d]? = some p) : cs[p]? = some 46 := by
  have hm := List.mem_filter.mp (List.mem_of_getElem? h)
  have hp := List.mem_range.mp hm.1
  have h2 := hm.2
  rw [List.getD_eq_getElem?_getD, List.getElem?_eq_getElem hp] at h2
  rw [List.getElem?_eq_getElem hp]
  simpa using h2
theorem frees_pos {k : Nat} {cs : List Nat} (L : Lay k cs) (hk : k < cs.length) : 0 < (frees cs cs.length).length := by
  refine Nat.pos_of_ne_zero fun h0 => ?_
  have e : frees cs cs.length = [] := List.length_eq_zero_iff.mp h0
  have all : ∀ c ∈ cs, (c != 46) = true := fun c hc => by
    obtain ⟨j, hj, rfl⟩ := List.mem_iff_getElem.mp hc
    by_cases q : cs[j] = 46
    · have : j ∈ frees cs cs.length := List.mem_filter.mpr ⟨List.mem_range.mpr hj, by rw [List.getD_eq_getElem?_getD, List.getElem?_eq_getElem hj]; simp [q]⟩
      rw [e] at this
      cases this
    · simp [q]
  have : mb cs = cs := List.filter_eq_self.mpr all
  have := L.len
  rw [‹mb cs = cs›] at this
  omega
theorem lay_VG {h w k : Nat} {cs : List Nat} (L : Lay k cs) (hk : k ≤ 26) (hl : cs.length = h * w) (h1 : 1 ≤ h) (h8 : h ≤ 8) (w1 : 1 ≤ w) (w8 : w ≤ 8) : VG h w (chunk h w cs) := by
  have ef : (chunk h w cs).flatten = cs := by rw [chunk_flat, ← hl, List.take_length]
  refine ⟨chunk_rect hl, h1, h8, w1, w8, fun r hr c hc => ?_, by rw [ef]; exact L.nd⟩
  exact L.cell hk c (by rw [← ef]; exact List.mem_flatten.mpr ⟨r, hr, hc⟩)
end TK
end
section
set_option Elab.async false
set_option maxRecDepth 100000
set_option linter.all false
namespace TK
open PySem L2 TM
theorem ix_listK {X : Cx} {K : PySem.W.Frag} (h : X.K = K) : IxR X (rIxL K) := by
  subst h
  exact ix_list
theorem sl_listK {X : Cx} {K : PySem.W.Frag} (h : X.K = K) : SlR X (rSlL K) := by
  subst h
  exact sl_list
theorem but_put {r l : Addr} {H0 H : Hp} {o : HO} (b : But r H0 H) (h : H0 l = none) : But r H0 (upd H l o) := fun c u e n => by
  rw [upd_ne (ne_of_none e h)]
  exact b c u e n
theorem but_none {r l : Addr} {H0 H : Hp} {x : HO} (b : But r H0 H) (hr : H r = some x) (h : H l = none) : H0 l = none := by
  cases e : H0 l with
  | none => rfl
  | some o =>
    have := b l o e (fun q => by subst q; rw [hr] at h; cases h)
    rw [h] at this
    cases this
theorem RowAt.ne {K : PySem.W.Frag} {a r l : Addr} {ns : List Int} {H : Hp} (R : RowAt K a ns H r) (h : H l = none) : l ≠ r := by
  obtain ⟨_, _, _, e, _⟩ := R
  exact (ne_of_none e h).symm
theorem RowAt.none {K : PySem.W.Frag} {a r l : Addr} {ns : List Int} {H0 H : Hp} (R : RowAt K a ns H r) (b : But r H0 H) (h : H l = none) : H0 l = none := by
  obtain ⟨_, _, _, e, _⟩ := R
  exact but_none b e h
/-- a store at a list that is not the drawing's -/
theorem RowAt.put {K : PySem.W.Frag} {a r l : Addr} {ns : List Int} {H : Hp} {xs ys : List V} (R : RowAt K a ns H r) (hl : H l = some (.lst xs)) (hn : l ≠ r) (hs : ∃ c t, xs = sg c :: t) : RowAt K a ns (upd H l (.lst ys)) r := by
  obtain ⟨i, d, e, h, hi, q⟩ := R
  refine ⟨i, d, e, by rw [upd_ne hn.symm]; exact h, hi, ?_⟩
  obtain ⟨c, t, rfl⟩ := hs
  rcases q with (q | ⟨u, q⟩) | q
  · refine .inl (.inl ?_)
    rw [upd_ne (fun e' => by
      subst e'
      have := Option.some.inj (q.symm.trans hl)
      cases ns with
      | nil => cases this
      | cons n r => cases this)]
    exact q
  · refine .inl (.inr ⟨u, ?_⟩)
    rw [upd_ne (fun e' => by
      subst e'
      have := Option.some.inj (q.symm.trans hl)
      cases this)]
    exact q
  · exact .inr q
def side (k : Nat) : Nat := match k with
  | 0 => 3
  | 1 => 5
  | _ => 8
theorem side_at {k : Nat} (h : k < 3) : ([V.int 3, V.int 5, V.int 8] : List V)[k]? = some (.int (side k : Nat)) := by
  match k, h with
  | 0, _ => rfl
  | 1, _ => rfl
  | 2, _ => rfl
theorem side_1 : ∀ k, 1 ≤ side k ∧ side k ≤ 8
  | 0 => by decide
  | 1 => by decide
  | _ + 2 => by show 1 ≤ 8 ∧ 8 ≤ 8; decide
theorem rep_dots (k : Nat) : (List.replicate k [V.str (S [46])]).flatten = (List.replicate k 46).map sg := by
  induction k with
  | zero => rfl
  | succ k ih =>
    rw [List.replicate_succ, List.flatten_cons, ih, List.replicate_succ, List.map_cons]
    rfl
section
variable {P : Program} {w : World} {K : PySem.W.Frag} {mg : Str → Option Value} {base : Heap} {a : Addr} {ns : List Int} {fT : Addr} {fdT : FuncData}
abbrev NRw : List Str := ["_law_row", "_law_most", "_law_height", "_law_width", "_law_cells", "_law_names", "_law_k", "_law_free", "_law_place"]
theorem scRw : FnScope NRw ["_law_row", "_law_most"] (defScope sLawRows) := ⟨rfl, rfl, rfl, by decide +kernel, rfl, by decide +kernel, by decide +kernel⟩
def spRw (K : PySem.W.Frag) (a : Addr) (ns : List Int) : Sp := fun vs H Q _ => ∃ (r : Addr) (m : Nat), vs = [.ref r, .int m] ∧ RowAt K a ns H r ∧ m ≤ 26 ∧ ∀ H' l h w g, VG h w g → H' l = some (.lst (rowV g)) → RowAt K a ns H' r → But r H H' → Q (.ref l) H'
/-- .. and the marbles are the first m at most -/
def spRwN (K : PySem.W.Frag) (a : Addr) (ns : List Int) : Sp := fun vs H Q _ => ∃ (r : Addr) (m : Nat), vs = [.ref r, .int m] ∧ RowAt K a ns H r ∧ m ≤ 26 ∧ ∀ H' l h w g, VG h w g → (∀ c ∈ mb g.flatten, c < 97 + m) → H' l = some (.lst (rowV g)) → RowAt K a ns H' r → But r H H' → Q (.ref l) H'
theorem ok_rwN {f : Addr} {fd : FuncData} (F : Fun K "_law_rows" "_law_rows" sLawRows f fd) (T : TxtW K mg) (L : TxtL K mg) (GT : FnOk P w K mg base CX0 1 fT fdT ["_law_row", "_law_many"] (spTk K a ns)) (kT : PySem.W.keepIn K (.ref fT) = true) (bT : Binds K fdT ["_law_row", "_law_many"] []) (mT : mg "_law_taken" = some (.ref fT)) :
    FnOk P w K mg base CX0 2 f fd ["_law_row", "_law_most"] (spRwN K a ns) := by
  refine F.ok scRw (fun vs H Q E h => ?_) (fun cdv A outer s H vs Q E hr h => ?_)
  · obtain ⟨r, m, rfl, _⟩ := h
    rfl
  · obtain ⟨r, m, rfl, hR, hm, k⟩ := h
    have nd := scRw.nd
    refine ⟨_, C8.pss_cut (ps_set (i := 2) nd rfl (.inl rfl) (pe_op op_add pe_int (pe_call GT hr rfl mT kT bT .nil pass0 (pa_cons (pv 0) (pa_cons (pe_ix ix_list (pe_lst (pa_cons pe_int (pa_cons pe_int (pa_cons pe_int pa_nil)))) (pe_call GT hr rfl mT kT bT .nil pass0 (pa_cons (pv 0) (pa_cons pe_int pa_nil))) (fun _ _ => rfl)) pa_nil)))))
      (C8.pss_cut (ps_set (i := 3) nd rfl (.inr rfl) (pe_op op_add pe_int (pe_call GT hr rfl mT kT bT .nil pass0 (pa_cons (pv 0) (pa_cons (pe_ix ix_list (pe_lst (pa_cons pe_int (pa_cons pe_int (pa_cons pe_int pa_nil)))) (pe_call GT hr rfl mT kT bT .nil pass0 (pa_cons (pv 0) (pa_cons pe_int pa_nil))) (fun _ _ => rfl)) pa_nil)))))
      (C8.pss_cut (ps_set (i := 4) nd rfl (.inr rfl) (pe_op op_rep (pe_lst (pa_cons pe_str pa_nil)) (pe_op op_mul (pv 2) (pv 3))))
      (pss_cons (ps_set (i := 5) nd rfl (.inl rfl) pe_str)
      (pss_cons (ps_for PassesOwn.never rfl (pi_range1 (by rfl) L.range (pa_cons (pe_callB (call_min2 rfl) (by rfl) L.min (by decide +kernel) (pa_cons (pe_op op_mul (pv 2) (pv 3)) (pa_cons (pe_call GT hr rfl mT kT bT .nil pass0 (pa_cons (pv 0) (pa_cons (pe_op op_add (pv 1) pe_int) pa_nil))) pa_nil))) pa_nil)) (pg_name (i := 6) nd rfl (.inl rfl))
        (C8.pss_cut (ps_setLc (i := 7) (own := [("_law_place", 8)]) (g := gName 8) rfl nd rfl rfl (sw_true rfl rfl rfl (by decide +kernel)) (pi_range1 (by rfl) L.range (pa_cons (pe_op op_mul (pv 2) (pv 3)) pa_nil)) (blkOk_by (N := NRw) (sc := defScope sLawRows) (by decide +kernel)) (fun _ _ _ _ _ => pg_name (i := 8) nd rfl (.inl rfl))
            (fun _ _ _ _ _ => pts_one (pt_cmpR op_eq (pe_ix (ix_listK (K := K) rfl) (pv 4) (pv 8) (fun _ _ => rfl)) pe_str (nomark _))) (fun _ _ _ _ _ => pv 8))
        (pss_one (ps_asg (pe_ix ix_str (pv 5) (pv 6) (fun _ _ => rfl)) (pg_sub (pv 4) (pe_ix ix_list (pv 7) (pe_call GT hr rfl mT kT bT .nil pass0 (pa_cons (pv 0) (pa_cons (pe_callB call_len_seq (by rfl) T.len PySem.boot_len (pa_cons (pv 7) pa_nil)) pa_nil))) (fun _ _ => rfl)) set_list)))))
      (pss_one (ps_ret (pe_lc (own := [("_law_k", 6)]) (g := gName 6) (tt := tYes) rfl nd (pi_range1 (by rfl) L.range (pa_cons (pv 2) pa_nil)) (blkOk_by (N := NRw) (sc := defScope sLawRows) (by decide +kernel)) (fun _ _ _ _ _ => pg_name (i := 6) nd rfl (.inl rfl)) (fun _ _ _ _ _ => pts_nil)
        (fun _ _ _ _ _ => pe_joinK (K := K) rfl pe_str (pe_slice (sl_listK (K := K) rfl) (pv 4) (po_some (pe_op op_mul (pv 6) (pv 3))) (po_some (pe_op op_add (pe_op op_mul (pv 6) (pv 3)) (pv 3)))))))))))), ?_⟩
    refine ⟨fun σ H1 => ∃ h : Nat, σ = [some (.ref r), some (.int m), some (.int h), none, none, none, none, none, none] ∧ 1 ≤ h ∧ h ≤ 8 ∧ RowAt K a ns H1 r ∧ But r H H1, ?_, ?_⟩
    · refine ⟨_, rfl, (by show 3 ≤ sizeLine; decide), fun p hp => ⟨_, rfl, r, 3, rfl, hR.same (same_new hp), by decide, by decide, fun HA d hd RA bA => ?_⟩⟩
      have hd3 : d < 3 := by omega
      have s1 := side_1 d
      refine ⟨p, _, _, _, rfl, rfl, SqL.of (bA p _ upd_same (hR.ne hp)), atI_nat (side_at hd3), r, _, rfl, RA, by omega, by omega, fun HB e he RB bB => ?_⟩
      exact ⟨_, _, rfl, rfl, e + 1, by rw [show ((e + 1 : Nat) : Int) = 1 + (e : Int) by omega]; rfl, by omega, by omega, RB, (((But.refl r H).trans (.same (same_new hp))).trans bA).trans bB⟩
    rintro σ H1 ⟨h, rfl, h1, h8, R1, b1⟩
    refine ⟨fun σ H2 => ∃ w : Nat, σ = [some (.ref r), some (.int m), some (.int h), some (.int w), none, none, none, none, none] ∧ 1 ≤ w ∧ w ≤ 8 ∧ RowAt K a ns H2 r ∧ But r H H2, ?_, ?_⟩
    · refine ⟨_, rfl, (by show 3 ≤ sizeLine; decide), fun p hp => ⟨_, rfl, r, 3, rfl, R1.same (same_new hp), by decide, by decide, fun HA d hd RA bA => ?_⟩⟩
      have hd3 : d < 3 := by omega
      have s1 := side_1 d
      refine ⟨p, _, _, _, rfl, rfl, SqL.of (bA p _ upd_same (R1.ne hp)), atI_nat (side_at hd3), r, _, rfl, RA, by omega, by omega, fun HB e he RB bB => ?_⟩
      exact ⟨_, _, rfl, rfl, e + 1, by rw [show ((e + 1 : Nat) : Int) = 1 + (e : Int) by omega]; rfl, by omega, by omega, RB, ((b1.trans (.same (same_new hp))).trans bA).trans bB⟩
    rintro σ H2 ⟨w, rfl, w1, w8, R2, b2⟩
    have hw : h * w ≤ 64 := Nat.mul_le_mul h8 w8
    have hw1 : 1 ≤ h * w := Nat.mul_le_mul h1 w1
    have ehw : (h : Int) * (w : Int) = ((h * w : Nat) : Int) := by simp
    have bh : ((-(2 ^ 64) < (h : Int) ∧ (h : Int) < 2 ^ 64) ∨ (-(2 ^ 64) < (w : Int) ∧ (w : Int) < 2 ^ 64)) := .inl ⟨by omega, by omega⟩
    refine ⟨fun σ H3 => ∃ l, σ = [some (.ref r), some (.int m), some (.int h), some (.int w), some (.ref l), none, none, none, none] ∧ H l = none ∧ l ≠ r ∧ H3 l = some (.lst ((List.replicate (h * w) 46).map sg)) ∧ RowAt K a ns H3 r ∧ But r H H3, ?_, ?_⟩
    · refine ⟨(by show 1 ≤ sizeLine; decide), fun p hp => ⟨_, rfl, _, rfl, _, _, rfl, rfl, bh, ?_⟩⟩
      refine ⟨p, ((h * w : Nat) : Int), _, rfl, congrArg V.int ehw, upd_same, by omega, by omega, ?_, fun q hq => ?_⟩
      · show 1 * ((h * w : Nat) : Int).toNat ≤ 16777216
        rw [Int.toNat_natCast]
        omega
      · rw [Int.toNat_natCast]
        have R3 := R2.same (same_new (o := .lst [V.str (S [46])]) hp)
        have b3 := b2.trans (.same (same_new (o := .lst [V.str (S [46])]) hp))
        refine ⟨q, rfl, R3.none b3 hq, R3.ne hq, ?_, R3.same (same_new hq), b3.trans (.same (same_new hq))⟩
        rw [upd_same, ← rep_dots]
        rfl
    rintro σ H3 ⟨l, rfl, hl0, hlr, hL, R3, b3⟩
    refine ⟨_, rfl, _, rfl, _, _, rfl, rfl, bh, _, rfl, _, rfl, _, _, rfl, rfl, r, (m : Int) + 1, rfl, R3, by omega, by omega, fun H4 kk hkk R4 b4 => ?_⟩
    have hmin : ∃ N : Nat, (if (kk : Int) < (h : Int) * (w : Int) then (kk : Int) else (h : Int) * (w : Int)) = (N : Int) ∧ N ≤ 26 ∧ N ≤ h * w ∧ N ≤ m := by
      rw [ehw]
      by_cases hc : (kk : Int) < ((h * w : Nat) : Int)
      · rw [if_pos hc]
        exact ⟨kk, rfl, by omega, by omega, by omega⟩
      · rw [if_neg hc]
        exact ⟨h * w, rfl, by omega, Nat.le_refl _, by omega⟩
    obtain ⟨N, eN, N26, Nhw, Nm⟩ := hmin
    refine ⟨_, _, rfl, ?_⟩
    refine ⟨(N : Int), congrArg (fun z => [V.int z]) eN, by omega, by omega, for_range (lo := 0) (n := ((N : Nat) : Int).toNat) (fun i σ H5 => ∃ cs v6 v7 v8, σ = [some (.ref r), some (.int m), some (.int h), some (.int w), some (.ref l), some (.str (S letters)), v6, v7, v8] ∧ Lay i cs ∧ cs.length = h * w ∧ H5 l = some (.lst (cs.map sg)) ∧ RowAt K a ns H5 r ∧ But r H H5)
      ⟨_, none, none, none, rfl, Lay.none (h * w), List.length_replicate, b4 _ _ hL hlr, R4, b3.trans b4⟩ ?_ ?_⟩
    · rintro i σ H5 hi ⟨cs, v6, v7, v8, rfl, La, hcs, hL5, R5, b5⟩
      rw [Int.toNat_natCast] at hi
      rw [Int.zero_add]
      refine ⟨fun σ H6 => ∃ D v8, σ = [some (.ref r), some (.int m), some (.int h), some (.int w), some (.ref l), some (.str (S letters)), some (.int (i : Nat)), some (.ref D), v8] ∧ D ≠ r ∧ D ≠ l ∧ H6 D = some (.lst (intV (frees cs cs.length))) ∧ H6 l = some (.lst (cs.map sg)) ∧ RowAt K a ns H6 r ∧ But r H H6, ?_, ?_⟩
      · refine ⟨_, rfl, _, rfl, _, _, rfl, rfl, bh, ?_⟩
        refine ⟨((h * w : Nat) : Int), congrArg (fun z => [V.int z]) ehw, by omega, by omega, fun D hD => lc_range (lo := 0) (n := (((h * w : Nat) : Int)).toNat) (fun j H6 => Same H5 H6 ∧ H6 D = some (.lst (intV ((List.range j).filter fun x => cs.getD x 0 == 46))))
          ⟨same_new hD, upd_same⟩ ?_ ?_⟩
        · rintro j H6 hj ⟨sm, hD6⟩
          rw [Int.toNat_natCast] at hj
          rw [Int.zero_add]
          obtain ⟨d, hd⟩ : ∃ d, cs[j]? = some d := ⟨_, List.getElem?_eq_getElem (by omega)⟩
          refine ⟨rfl, _, rfl, _, rfl, l, _, _, sg d, rfl, rfl, SqL.of (sm _ _ hL5), atI_nat (by rw [List.getElem?_map, hd]; all_goals rfl), rfl, _, rfl, ?_⟩
          rw [show decide (sg d = V.str (Str.ofString ".")) = (d == 46) from dL d 46]
          have eg : cs.getD j 0 = d := by rw [List.getD_eq_getElem?_getD, hd]; rfl
          have es := range_snoc (p := fun x => cs.getD x 0 == 46) j
          by_cases hx : (d == 46) = true
          · rw [hx]
            refine iteT ⟨_, rfl, _, hD6, ?_, same_put sm hD, ?_⟩
            · rw [List.length_map]
              have := List.length_filter_le (fun x => cs.getD x 0 == 46) (List.range j)
              rw [List.length_range] at this
              show _ < 16777216
              omega
            · rw [upd_same, es, if_pos (by rw [eg]; exact hx)]
              simp [intV]
          · rw [Bool.not_eq_true] at hx
            rw [hx]
            refine iteF ⟨sm, ?_⟩
            rw [hD6, es, if_neg (by rw [eg, hx]; exact Bool.false_ne_true), List.append_nil]
        · rintro H6 ⟨sm, hD6⟩
          rw [Int.toNat_natCast, ← hcs] at hD6
          exact ⟨D, _, rfl, R5.ne hD, (ne_of_none hL5 hD).symm, hD6, sm _ _ hL5, R5.same sm, b5.trans (.same sm)⟩
      rintro σ H6 ⟨D, v8', rfl, hDr, hDl, hD6, hL6, R6, b6⟩
      have hpos := frees_pos La (by omega)
      have hfl := frees_le cs cs.length
      have hle : letters[i]? = some (97 + i) := by
        have : i < 26 := by omega
        have all : ∀ i : Fin 26, letters[i.1]? = some (97 + i.1) := by decide
        exact all ⟨i, this⟩
      refine ⟨_, rfl, _, rfl, S letters, (i : Int), 97 + i, rfl, rfl, (by show 26 ≤ sizeLine; decide), by rw [S_list]; exact atI_nat hle, ?_⟩
      refine ⟨_, rfl, _, rfl, _, rfl, _, rfl, D, _, rfl, .inl (SqL.of hD6), ?_⟩
      refine ⟨r, _, rfl, R6, ?_, ?_, fun H7 d hd R7 b7 => ?_⟩
      · rw [List.length_map]; omega
      · rw [List.length_map]; omega
      rw [List.length_map] at hd
      obtain ⟨p, hp⟩ : ∃ p, (frees cs cs.length)[d]? = some p := ⟨_, List.getElem?_eq_getElem (by omega)⟩
      have hcp := frees_at hp
      have hpl : p < cs.length := (List.getElem?_eq_some_iff.mp hcp).1
      have hL7 := b7 _ _ hL6 hlr
      refine ⟨D, _, _, .int (p : Nat), rfl, rfl, SqL.of (b7 _ _ hD6 hDr), atI_nat (by rw [List.getElem?_map, hp]; all_goals rfl), l, _, _, p, rfl, rfl, hL7, ?_, ?_⟩
      · rw [List.length_map]
        unfold ixN
        rw [if_pos (by omega), if_pos (by omega), Int.toNat_natCast]
      · have hs : ∃ c t, cs.map sg = sg c :: t := by
          cases cs with
          | nil => simp at hpl
          | cons c t => exact ⟨c, t.map sg, rfl⟩
        refine ⟨cs.set p (97 + i), _, _, _, rfl, La.put hcp, by rw [List.length_set]; exact hcs, ?_, R7.put hL7 hlr hs, but_put (b6.trans b7) hl0⟩
        rw [upd_same, List.map_set]
    · rintro σ H5 ⟨cs, v6, v7, v8, rfl, La, hcs, hL5, R5, b5⟩
      rw [Int.toNat_natCast] at La
      have La' := La
      have goal := lay_VG La' N26 hcs h1 h8 w1 w8
      refine ⟨_, rfl, (h : Int), rfl, by omega, by omega, fun D hD => lc_range (lo := 0) (n := ((h : Nat) : Int).toNat) (fun i H6 => Same H5 H6 ∧ H6 D = some (.lst ((List.range i).map fun j => V.str (S ((cs.drop (j * w)).take w)))))
          ⟨same_new hD, upd_same⟩ ?_ ?_⟩
      · rintro i H6 hi ⟨sm, hD6⟩
        rw [Int.toNat_natCast] at hi
        rw [Int.zero_add]
        have hiw : i * w + w ≤ h * w := by
          have : (i + 1) * w ≤ h * w := Nat.mul_le_mul_right _ hi
          rw [Nat.succ_mul] at this
          exact this
        have eiw : (i : Int) * (w : Int) = ((i * w : Nat) : Int) := by simp
        have bi : ((-(2 ^ 64) < (i : Int) ∧ (i : Int) < 2 ^ 64) ∨ (-(2 ^ 64) < (w : Int) ∧ (w : Int) < 2 ^ 64)) := .inr ⟨by omega, by omega⟩
        have ecut : cutV (cs.map sg) (some ((i : Int) * (w : Int))) (some ((i : Int) * (w : Int) + (w : Int))) = ((cs.drop (i * w)).take w).map sg := by
          rw [eiw, show ((i * w : Nat) : Int) + (w : Int) = ((i * w + w : Nat) : Int) by omega]
          unfold cutV
          rw [HT.sIx_nat, HT.sIx_nat, List.length_map, hcs, Nat.min_eq_left hiw, Nat.min_eq_left (by omega : i * w ≤ h * w), show i * w + w - i * w = w by omega, List.map_take, List.map_drop]
        refine ⟨rfl, ⟨_, rfl⟩, _, rfl, _, rfl, _, rfl, _, _, rfl, rfl, bi, _, rfl, _, rfl, _, rfl, _, _, rfl, rfl, bi, _, rfl, _, _, rfl, rfl, _, rfl, l, _, rfl, SqL.of (sm _ _ hL5), fun q hq => ?_⟩
        rw [ecut]
        have hD7 : (upd H6 q (.lst (((cs.drop (i * w)).take w).map sg))) D = some (.lst ((List.range i).map fun j => V.str (S ((cs.drop (j * w)).take w)))) := by
          rw [upd_ne (ne_of_none hD6 hq)]
          exact hD6
        refine ⟨_, q, ((cs.drop (i * w)).take w).map fun c => S [c], rfl, rfl, .inl ?_, ?_, _, hD7, ?_, ?_⟩
        · rw [List.map_map]
          exact SqL.of upd_same
        · rw [sum_ones, List.length_map, List.length_take, List.length_drop]
          show _ + _ * 0 ≤ _
          omega
        · rw [List.length_map, List.length_range]
          show _ < 16777216
          omega
        · refine ⟨same_put (sm.trans (same_new hq)) hD, ?_⟩
          rw [upd_same, join_signs, List.range_succ, List.map_append]
          rfl
      · rintro H6 ⟨sm, hD6⟩
        rw [Int.toNat_natCast] at hD6
        refine k _ D h w _ goal (fun c hc => ?_) ?_ (R5.same sm) (b5.trans (.same sm))
        · rw [show (chunk h w cs).flatten = cs by rw [chunk_flat, ← hcs, List.take_length]] at hc
          have := La'.ab c hc
          omega
        rw [hD6]
        unfold rowV chunk
        rw [List.map_map]
        rfl
theorem ok_rw {f : Addr} {fd : FuncData} (F : Fun K "_law_rows" "_law_rows" sLawRows f fd) (T : TxtW K mg) (L : TxtL K mg) (GT : FnOk P w K mg base CX0 1 fT fdT ["_law_row", "_law_many"] (spTk K a ns)) (kT : PySem.W.keepIn K (.ref fT) = true) (bT : Binds K fdT ["_law_row", "_law_many"] []) (mT : mg "_law_taken" = some (.ref fT)) :
    FnOk P w K mg base CX0 2 f fd ["_law_row", "_law_most"] (spRw K a ns) := (ok_rwN F T L GT kT bT mT).imp fun vs H Q E ⟨r, m, e, hR, hm, k⟩ => ⟨r, m, e, hR, hm, fun H' l h w g hV _ => k H' l h w g hV⟩
end
end TK
end
section
set_option Elab.async false
set_option maxRecDepth 100000
set_option linter.all false
namespace TK
open PySem L2 TM
open PySem.Spec PyProof.Rows TH
theorem op_twoN {X : Cx} {CX : CXT} {j n : Nat} {C D g : Addr} {sp : Sp} {E : XK} {op : Operator} (hCD : C ≠ D) (hc : PySem.W.selfFirst X.K C = true) (N : NoOp X.K D op.info.2) (hs : PySem.W.findIn X.K (.ref C) (PySem.dunder op.info.2) = some (some (.ref g))) (hf : PySem.W.isFn X.K (.ref g) = true)
    (F : FnRn n X.prog X.w X.K X.mg X.base CX j g sp) (hr : Room j X.A) (hx : Passes CX X E) : OpRn n X (binaryOp op) (rTwo C D sp E) := by
  intro pins s σ H x y v u Q hn I rx ry h
  obtain ⟨a, dx, fs, b, dy, gs, rfl, rfl, ha, hb, q⟩ := h
  cases (show v = Value.ref a from rx)
  cases (show u = Value.ref b from ry)
  obtain ⟨mA, O, _⟩ := ins_get I.hok ha
  obtain ⟨od, J, _⟩ := O.look
  obtain ⟨mB, O', _⟩ := ins_get I.hok hb
  obtain ⟨od', J', _⟩ := O'.look
  refine binop_two I.kIn J J'.type hCD hc N hs hf ?_
  refine wpAny_mono (wpAny_call (run_fnRn (us := [.ref a, .ref b]) (vs := [.ref a, .ref b]) hn F hr hx I (.cons rfl (.cons rfl .nil)) q)) (fun w s' z => ?_) fun _ _ x => x
  obtain ⟨z', H', I', rz, qz⟩ := z
  exact SlX.cmpback rz ⟨z', H', I', rz, qz⟩
abbrev rowD (g : Grid) : List PyData := g.map fun r => PyData.str (S r)
theorem row_all {K : PySem.W.Frag} {H : Hp} : ∀ g : Grid, DpAll K H (rowV g) (rowD g)
  | [] => .nil
  | _ :: g => .cons (.str _) (row_all g)
theorem row_depth : ∀ g : Grid, PyData.depthAll (rowD g) = 0
  | [] => rfl
  | x :: g => by
    show max (PyData.depth (.str _)) (PyData.depthAll (rowD g)) = 0
    rw [row_depth g]
    rfl
theorem row_lay : ∀ g : Grid, (∀ r ∈ g, ∀ c ∈ r, Cell c) → PyData.canLayAll0 (rowD g) = true
  | [], _ => rfl
  | x :: g, h => by
    show (PyData.canLay0 (.str (S x)) && PyData.canLayAll0 (rowD g)) = true
    rw [row_lay g fun r hr => h r (List.mem_cons_of_mem _ hr), Bool.and_true]
    show (S x).cps.all (· < 0x110000) = true
    rw [← Array.all_toList]
    refine List.all_eq_true.mpr fun c hc => ?_
    have := h x List.mem_cons_self c hc
    unfold Cell at this
    exact decide_eq_true (by omega)
theorem row_shaped {n m : Nat} {g : Grid} (G : VG n m g) : SeqAt.shaped (.tuple (rowD g)) = true := by
  show (PyData.canLayAll0 (rowD g) && decide (PyData.depthAll (rowD g) + 1 ≤ 64)) = true
  rw [row_lay g G.ok, row_depth]
  rfl
theorem row_sum (k : Nat) : ∀ g : Grid, (∀ r ∈ g, r.length ≤ k) → ((g.map S).map (·.length)).sum ≤ g.length * k
  | [], _ => by simp
  | x :: g, h => by
    have h1 := row_sum k g fun r hr => h r (List.mem_cons_of_mem _ hr)
    have h2 := h x List.mem_cons_self
    rw [List.map_cons, List.map_cons, List.sum_cons, S_len, List.length_cons, Nat.succ_mul]
    omega
end TK
end
section
set_option Elab.async false
set_option maxRecDepth 100000
set_option linter.all false
namespace TP
open PySem L2 TM TK TH
open PySem.Spec PyProof.Rows
def srt (l : List Nat) : List Nat := l.mergeSort (fun a b => decide (a ≤ b))
theorem srt_perm (l : List Nat) : (srt l).Perm l := List.mergeSort_perm _ _
theorem srt_up (l : List Nat) : (srt l).Pairwise (· ≤ ·) := by
  have := List.pairwise_mergeSort (le := fun a b : Nat => decide (a ≤ b)) (fun a b c h1 h2 => by simp at *; omega) (fun a b => by simp; omega) l
  exact this.imp fun h => by simpa using h
theorem rise : ∀ (zs : List Nat) (p : Nat), risingS (S [p]) (zs.map fun c => S [c]) = true → (p :: zs).Pairwise (· ≤ ·)
  | [], p, _ => by simp
  | x :: r, p, h => by
    have h' : (!ltCps [x] [p] && risingS (S [x]) (r.map fun c => S [c])) = true := h
    rw [Bool.and_eq_true] at h'
    have hpx : p ≤ x := by
      have := h'.1
      simp [ltCps] at this
      omega
    have ih := rise r x h'.2
    refine List.pairwise_cons.mpr ⟨fun y hy => ?_, ih⟩
    rcases List.mem_cons.mp hy with e | e
    · omega
    · have := (List.pairwise_cons.mp ih).1 y e
      omega
theorem sort_uniq {ys : List Str} {l : List Nat} (p : ys.Perm (l.map fun c => S [c])) (s : sortedS ys = true) : ys = (srt l).map fun c => S [c] := by
  obtain ⟨zs, rfl⟩ : ∃ zs : List Nat, ys = zs.map fun c => S [c] := by
    have : ∀ y ∈ ys, ∃ c, y = S [c] := fun y hy => by
      obtain ⟨c, _, rfl⟩ := List.mem_map.mp (p.mem_iff.mp hy)
      exact ⟨c, rfl⟩
    clear p s
    induction ys with
    | nil => exact ⟨[], rfl⟩
    | cons y ys ih =>
      obtain ⟨c, rfl⟩ := this y List.mem_cons_self
      obtain ⟨zs, rfl⟩ := ih fun y hy => this y (List.mem_cons_of_mem _ hy)
      exact ⟨c :: zs, rfl⟩
  have pz : zs.Perm l := by
    have := p.map fun y : Str => y.cps.getD 0 0
    have e : ((fun y : Str => y.cps.getD 0 0) ∘ fun c : Nat => S [c]) = id := funext fun c => rfl
    rw [List.map_map, List.map_map, e, List.map_id, List.map_id] at this
    exact this
  have up : zs.Pairwise (· ≤ ·) := by
    cases zs with
    | nil => exact List.Pairwise.nil
    | cons z zs => exact rise zs z s
  have : zs = srt l := List.Perm.eq_of_pairwise (le := (· ≤ ·)) (fun a b _ _ h1 h2 => by omega) up (srt_up l) (pz.trans (srt_perm l).symm)
  rw [this]
section
variable {P : Program} {w : World} {K : PySem.W.Frag} {mg : Str → Option Value} {base : Heap} {D : Addr} {t0 : Tok}
structure TxtM (K : PySem.W.Frag) (mg : Str → Option Value) : Prop where
  em : ∃ u, mg "EMPTY" = some u ∧ RelV (.str (S [46])) u
  srt : mg "sorted" = none
  len : mg "len" = none
abbrev NMb : List Str := ["self", "row", "cell"]
theorem scMb : FnScope NMb ["self"] (defScope sTrayMarbles) := ⟨rfl, rfl, rfl, by decide +kernel, rfl, by decide +kernel, by decide +kernel⟩
def spMb (K : PySem.W.Frag) (D : Addr) : Sp := fun vs H Q _ => ∃ (p : Addr) (h w : Nat) (g : Grid), vs = [.ref p] ∧ TrayAt K D H p g ∧ VG h w g ∧ ∀ H', Same H H' → Q (.str (S (srt (mb g.flatten)))) H'
theorem nodup_le : ∀ (n : Nat) (l : List Nat), l.Nodup → (∀ c ∈ l, 97 ≤ c ∧ c < 97 + n) → l.length ≤ n
  | 0, l, _, h => by
    cases l with
    | nil => exact Nat.le_refl _
    | cons c l =>
      have := h c List.mem_cons_self
      omega
  | n + 1, l, nd, h => by
    by_cases q : (97 + n) ∈ l
    · have e := List.length_erase_of_mem q
      have ih := nodup_le n (l.erase (97 + n)) (nd.erase _) fun c hc => by
        have := (List.Nodup.mem_erase_iff nd).mp hc
        have h2 := h c this.2
        have := this.1
        omega
      omega
    · have ih := nodup_le n l nd fun c hc => by
        have h2 := h c hc
        have : c ≠ 97 + n := fun z => q (by rw [← z]; exact hc)
        omega
      omega
theorem mb_26 {h w : Nat} {g : Grid} (V : VG h w g) : (mb g.flatten).length ≤ 26 := by
  have sub : ∀ c ∈ mb g.flatten, 97 ≤ c ∧ c < 123 := fun c hc => by
    have := List.mem_filter.mp hc
    obtain ⟨r, hr, hcr⟩ := List.mem_flatten.mp this.1
    have h2 := V.ok r hr c hcr
    rcases h2 with h2 | h2
    · subst h2; simp at this
    · exact ⟨by omega, by omega⟩
  exact nodup_le 26 _ V.nd sub
theorem ok_mb {f : Addr} {fd : FuncData} (F : Fun K "marbles" "Tray.marbles" sTrayMarbles f fd) (T : TxtM K mg) (CT : ClsT K mg D) : FnOk P w K mg base CX0 1 f fd ["self"] (spMb K D) := by
  refine F.ok scMb (fun vs H Q E h => ?_) (fun cdv A outer s H vs Q E hr h => ?_)
  · obtain ⟨p, h, w, g, rfl, _⟩ := h
    rfl
  · obtain ⟨p, h, w, g, rfl, ⟨dx, a, hp, hS⟩, hV, k⟩ := h
    have nd := scMb.nd
    refine ⟨_, pss_one (ps_ret (pe_join pe_str (pe_callB cr_sortedS (by rfl) T.srt (by decide +kernel) (pa_cons (pe_lc2 (own := [("row", 1), ("cell", 2)]) (vs1 := [2]) (g := gName 1) (g1 := gName 2) (tt := tYes) rfl nd (pi_tup (pe_fld (pv 0) rfl)) (blkOk_by (N := NMb) (sc := defScope sTrayMarbles) (by decide +kernel)) (by decide)
      (fun _ _ _ _ _ => pg_name (i := 1) nd rfl (.inl rfl)) (fun _ _ _ _ _ => pts_nil) (fun _ _ _ _ _ => pi_str (pv 1)) (fun _ _ _ _ _ => pg_name (i := 2) nd rfl (.inl rfl)) (fun _ _ _ _ _ => pts_one (pt_cmpR op_ne (pv 2) (C8.pe_gc rfl T.em) (nomark _))) (fun _ _ _ _ _ => pv 2)) pa_nil)))), ?_⟩
    refine ⟨⟨_, rfl⟩, _, rfl, p, D, dx, _, _, rfl, hp, CT.cl, CT.nR, rfl, a, rfl, ⟨_, hS⟩, fun E2 hE2 => lc2_it walk_tup (fun i H1 => Same H H1 ∧ H1 E2 = some (.lst ((mb (g.take i).flatten).map sg)))
      ⟨same_new hE2, upd_same⟩ (fun i H1 _ ⟨sm, _⟩ => sm.tup hS) ?_ ?_⟩
    · rintro i x Hz H1 hi ⟨sm, hL⟩ ⟨rfl, hx⟩
      obtain ⟨r, hri, rfl⟩ := at_map hx
      have et : ((g.take (i + 1)).flatten) = (g.take i).flatten ++ r := by
        rw [List.take_add_one, hri, List.flatten_append]
        simp
      refine ⟨rfl, _, rfl, S r, rfl, in_it (walk_str (z := S r)) (fun j H2 => Same H H2 ∧ H2 E2 = some (.lst ((mb (g.take i).flatten ++ mb (r.take j)).map sg))) ⟨sm, by rw [hL]; simp [mb]⟩ (fun _ _ _ _ => True.intro) ?_ ?_⟩
      · rintro j x Hz H2 hj ⟨sm2, hL2⟩ ⟨rfl, c, hc, rfl⟩
        rw [S_at] at hc
        have et2 : mb (r.take (j + 1)) = mb (r.take j) ++ if c = 46 then [] else [c] := by
          rw [List.take_add_one, hc]
          show mb (r.take j ++ [c]) = _
          rw [mb_app]
          by_cases q : c = 46
          · subst q; rfl
          · rw [if_neg q]; simp [mb, q]
        have hlen : (mb (g.take i).flatten ++ mb (r.take j)).length ≤ 1000 := by
          have h1 := mb_le (g.take i).flatten
          have h2 := mb_le (r.take j)
          have h3 : (g.take i).flatten.length ≤ g.flatten.length := by
            have : (g.take i).flatten ++ (g.drop i).flatten = g.flatten := by rw [← List.flatten_append, List.take_append_drop]
            rw [← this, List.length_append]
            omega
          have h4 : g.flatten.length = h * w := by
            rw [List.length_flatten]
            have : g.map List.length = List.replicate h w := List.eq_replicate_iff.mpr ⟨by rw [List.length_map]; exact hV.rc.1, fun x hx => by
              obtain ⟨l, hl, rfl⟩ := List.mem_map.mp hx
              exact hV.rc.2 l hl⟩
            rw [this]
            simp
          have h5 : h * w ≤ 64 := Nat.mul_le_mul hV.n8 hV.m8
          have h6 := hV.row (List.mem_of_getElem? hri)
          rw [List.length_take] at h2
          rw [List.length_append]
          omega
        refine ⟨rfl, _, rfl, rfl, _, rfl, ?_⟩
        rw [show (!decide (V.str (⟨#[c]⟩ : Str) = V.str (S [46]))) = !(c == 46) from congrArg _ (dL c 46)]
        by_cases q : c = 46
        · rw [beq_iff_eq.mpr q]
          refine iteF ⟨sm2, ?_⟩
          rw [hL2, et2, if_pos q, List.append_nil]
        · rw [beq_eq_false_iff_ne.mpr q]
          refine iteT ⟨_, rfl, _, hL2, ?_, same_put sm2 hE2, ?_⟩
          · rw [List.length_map]
            show _ < 16777216
            omega
          · rw [upd_same, et2, if_neg q, ← List.append_assoc, List.map_append (l₂ := [c])]
            rfl
      · rintro H2 ⟨sm2, hL2⟩
        rw [S_size, List.take_length] at hL2
        refine ⟨sm2, ?_⟩
        rw [hL2, et, mb_app]
    · rintro H1 ⟨sm, hL⟩
      rw [List.length_map, List.take_length] at hL
      have h26 := mb_26 hV
      refine ⟨E2, (mb g.flatten).map fun c => S [c], rfl, ?_, ?_, fun ys z pm st hz => ?_⟩
      · rw [List.map_map]
        exact SqL.of hL
      · rw [List.length_map]
        omega
      · have e := sort_uniq pm st
        subst e
        have l26 : (srt (mb g.flatten)).length ≤ 26 := by rw [(srt_perm _).length_eq]; exact h26
        refine ⟨_, z, (srt (mb g.flatten)).map fun c => S [c], rfl, rfl, .inl (SqL.of upd_same), ?_, ?_⟩
        · rw [sum_ones, List.length_map]
          show _ + _ * 0 ≤ _
          omega
        · rw [join_signs]
          exact k _ (sm.trans (same_new hz))
theorem scHt : FnScope ["self"] ["self"] (defScope sTrayHeight) := ⟨rfl, rfl, rfl, by decide +kernel, rfl, by decide +kernel, by decide +kernel⟩
theorem scWd : FnScope ["self"] ["self"] (defScope sTrayWidth) := ⟨rfl, rfl, rfl, by decide +kernel, rfl, by decide +kernel, by decide +kernel⟩
def spHt (K : PySem.W.Frag) (D : Addr) : Sp := fun vs H Q _ => ∃ (p : Addr) (h w : Nat) (g : Grid), vs = [.ref p] ∧ TrayAt K D H p g ∧ VG h w g ∧ Q (.int (h : Nat)) H
def spWd (K : PySem.W.Frag) (D : Addr) : Sp := fun vs H Q _ => ∃ (p : Addr) (h w : Nat) (g : Grid), vs = [.ref p] ∧ TrayAt K D H p g ∧ VG h w g ∧ Q (.int (w : Nat)) H
theorem row0 {h w : Nat} {g : Grid} (G : VG h w g) : ∃ r0, atI (rowV g) ((0 : Nat) : Int) = some (V.str (S r0)) ∧ r0.length = w ∧ r0 ∈ g := by
  have hg : 0 < g.length := by rw [G.rc.1]; exact G.n1
  have e : g[0]? = some g[0] := List.getElem?_eq_getElem hg
  exact ⟨g[0], atI_nat (by rw [List.getElem?_map, e]; all_goals rfl), G.rc.2 _ (List.getElem_mem hg), List.getElem_mem hg⟩
theorem ok_ht {f : Addr} {fd : FuncData} (F : Fun K "height" "Tray.height" sTrayHeight f fd) (T : TxtM K mg) (CT : ClsT K mg D) : FnOk P w K mg base CX0 1 f fd ["self"] (spHt K D) := by
  refine F.ok scHt (fun vs H Q E h => ?_) (fun cdv A outer s H vs Q E hr h => ?_)
  · obtain ⟨p, h, w, g, rfl, _⟩ := h
    rfl
  · obtain ⟨p, h, w, g, rfl, ⟨dx, a, hp, hS⟩, hV, k⟩ := h
    refine ⟨_, pss_one (ps_ret (pe_callB call_len_seq (by rfl) T.len PySem.boot_len (pa_cons (pe_fld (pv 0) rfl) pa_nil))), ?_⟩
    refine ⟨_, rfl, p, D, dx, _, _, rfl, hp, CT.cl, CT.nR, rfl, a, _, rfl, .inr hS, ?_⟩
    rw [List.length_map, hV.rc.1]
    exact k
theorem ok_wd {f : Addr} {fd : FuncData} (F : Fun K "width" "Tray.width" sTrayWidth f fd) (T : TxtM K mg) (CT : ClsT K mg D) : FnOk P w K mg base CX0 1 f fd ["self"] (spWd K D) := by
  refine F.ok scWd (fun vs H Q E h => ?_) (fun cdv A outer s H vs Q E hr h => ?_)
  · obtain ⟨p, h, w, g, rfl, _⟩ := h
    rfl
  · obtain ⟨p, h, w, g, rfl, ⟨dx, a, hp, hS⟩, hV, k⟩ := h
    obtain ⟨r0, e0, l0, m0⟩ := row0 hV
    refine ⟨_, pss_one (ps_ret (pe_callB call_len_str (by rfl) T.len PySem.boot_len (pa_cons (pe_ix ix_tup (pe_fld (pv 0) rfl) pe_int (fun _ _ => rfl)) pa_nil))), ?_⟩
    have := hV.row m0
    refine ⟨_, rfl, p, D, dx, _, _, rfl, hp, CT.cl, CT.nR, rfl, a, _, _, _, rfl, rfl, hS, e0, _, rfl, by rw [S_len]; show _ ≤ 16777216; omega, ?_⟩
    rw [S_len, l0]
    exact k
end
end TP
end
section
set_option Elab.async false
set_option maxRecDepth 100000
set_option linter.all false
namespace TX
open PySem PySem.Spec PyProof.Rows L2
section
variable {X : Cx} {pins : List (Addr × Obj)} {σ : L2.St} {H : Hp} {s : Shared} {A : Around} {E : Value → Shared → Prop}
/-- the bound ValueError.__init__ is called -/
theorem mw_call {u a C : Addr} {us : List Value} {Q : Value → Shared → Prop} (T : OexC X.K C) (I : Inv X pins σ H s) (e : H a = some (exo a C none)) (hu : s.heap.get? u = some (PySem.W.kxs_mw "ValueError.__init__" a)) (hl : us.length ≤ sizeLine)
    (h : ∀ s', Inv X pins σ H s' → Q .none s') : wpAny (model X.prog X.w) A (call (.ref u) us) Q E s := by
  obtain ⟨nm, q, N, bs, bm, sn, sub, ab, col, dd, k0, k1, k2, k3, k5, hC, hbm⟩ := T.cls
  obtain ⟨t1, ho⟩ := exo_at I.hok e
  have hC := I.kIn _ _ hC
  obtain ⟨hp, g, d, t, os⟩ := s
  refine wpAny_call (codeAny_of_tree ?_)
  show wpAny _ A.in1 (callAny (.ref u) ⟨us, []⟩) _ _ _
  simp only [callAny]
  refine wpAny_bind (wpAny_load hu ?_)
  simp only [PySem.W.kxs_mw, show (Value.type "method-wrapper" == Value.type "method" || Value.type "method-wrapper" == Value.type "builtin_function_or_method" || Value.type "method-wrapper" == Value.type "method-wrapper") = true from by decide, if_true]
  refine PySem.W.KFB.if_so (by decide) ?_
  refine wpAny_bind (PySem.W.check_bound_init F.excBase_ValueError.toExcCallFacts hC ho rfl ?_)
  refine wpAny_bind (wpAny_pure (wpAny_pure ?_))
  refine ⟨plainId_quiet F.excBase_ValueError.init.plain _, ?_⟩
  refine codeAny_builtin F.excBase_ValueError.initEntry ?_
  refine PySem.W.exc_init_tree (cls := .ref C) (t0 := t1) (dv := none) (c2 := .none) (c3 := .none) (b4 := .bool false) ho hl fun h' k hx _ => ?_
  have J := I.write (t' := t) (x := a) (e := a) (o := exo a C none) (by rw [e]; exact True.intro) (.inl rfl) k ⟨_, hx⟩ (exo_ok hx)
  have eu : upd H a (exo a C none) = H := by
    funext b
    by_cases hb : b = a
    · rw [hb, upd_same, e]
    · rw [upd_ne hb]
  rw [eu] at J
  exact h _ J
end
/-- what is written of an __init__ at f that says super().__init__(..): its class at C, its cell at cc, its code at cda -/
structure SupI (P : Program) (K : PySem.W.Frag) (C f cc cda : Addr) (fd : FuncData) (ar : Arg) : Prop where
  fn : ∃ oc od osl, K.lookup f = some ⟨oc, od, .func fd, osl⟩
  hd : (fd.params.posonlyargs ++ fd.params.args).head? = some ar
  code : ∃ ccl cdd vs ccs file tf, K.lookup cda = some ⟨ccl, cdd, .fields vs, ccs⟩ ∧ vs[2]? = some (.str file tf) ∧ ((P.main.file : Str) == file) = true
  cell : ∃ cl cld csl, K.lookup cc = some ⟨cl, cld, .cell (some (.ref C)), csl⟩
  sub : PySem.W.mroIn K C (.ref C) = some true
  sup : PySem.W.ks_superIn K C C "__init__" = some (some (.builtin "ValueError.__init__"))
  ve : PySem.W.subIn K (.ref C) (.type "ValueError") = some true
  op : PySem.W.nsIn K cStatics "thirdparty.any" = some none
  top : (P.main.scope.names.lookup ("super" : Str)).isSome = false
section
variable {X : Cx} {pins : List (Addr × Obj)} {σ : L2.St} {H : Hp} {s : Shared}
theorem super_stmt {a C f cc cda : Addr} {fd : FuncData} {ar : Arg} {arg : Expr} {body : List Stmt} {t : TA} {p0 p1 apos pos spos : Pos} {Qn : Hp → Prop} {pl : Sem Bool} (S : SupI X.prog X.K C f cc cda fd ar) (T : OexC X.K C) (hm : X.mg "super" = none)
    (hfu : X.env.func = some f) (hco : X.env.code = .ref cda) (hce : X.env.cells.lookup ("__class__" : Str) = some cc) (hks : X.env.scope.names.lookup ("super" : Str) = some .globalImplicit) (hkc : X.env.scope.names.lookup ("__class__" : Str) = some .free) (hka : X.env.scope.names.lookup ar.arg = some .local) (hN : X.N[0]? = some ar.arg)
    (hc : eval (.Call (.Attribute (.Call (.Name "super" p0) [] [] p1) "__init__" apos) [arg] [] pos) X.env = (do
      let ov ← attributeBase (.Call (.Name "super" p0) [] [] p1) "__init__" X.env (eval (.Call (.Name "super" p0) [] [] p1) X.env)
      standAt apos.atName
      let (f, first) ← holding [ov] (getMethod ov "__init__" pl)
      callWith pos f first (backTo pos (starEach [arg] X.env)) []))
    (hsw : swapsWith (.Call (.Attribute (.Call (.Name "super" p0) [] [] p1) "__init__" apos) [arg] [] pos) none spos.line X.env = pure false)
    (hi : interactive X.env = false) (I : Inv X pins σ H s) (hσ : σ[0]? = some (some (.ref a))) (e : H a = some (exo a C none)) (ha : PA X [arg] t) (hstar : starEach [arg] X.env = [(false, eval arg X.env)])
    (ht : t σ H fun vs H1 => vs.length ≤ 1000 ∧ H1 a = some (exo a C none) ∧ Qn H1) :
    PySem.wpAt (model X.prog X.w) X.A (.func body X.env) (exec (.Expr (.Call (.Attribute (.Call (.Name "super" p0) [] [] p1) "__init__" apos) [arg] [] pos) spos) X.env) (fun fl s' => fl = .next ∧ ∃ H1, Inv X pins σ H1 s' ∧ Qn H1) X.xe s := by
  obtain ⟨oc, od, osl, hf⟩ := S.fn
  obtain ⟨ccl, cdd, vs, ccs, file, tf, hcode, hvs, hfile⟩ := S.code
  obtain ⟨cl, cld, csl, hcell⟩ := S.cell
  have hsup := S.sup
  unfold PySem.W.ks_superIn at hsup
  cases hcd : PySem.W.clsIn X.K C with
  | none => rw [hcd] at hsup; cases hsup
  | some cd =>
  rw [hcd] at hsup
  obtain ⟨t1, ho⟩ := exo_at I.hok e
  obtain ⟨mb, hb1, hb2⟩ := I.ok.mod.blt
  obtain ⟨m, hns, hloc⟩ := I.loc
  obtain ⟨u0, ru, hlook⟩ := hloc 0 ar.arg (.ref a) hN hσ (.inl hka)
  obtain rfl : u0 = Value.ref a := ru
  refine ks_wpAt_Expr_any (ks_wpAt_MethodCall ?_ hc) hi hsw
  obtain ⟨hp, g, d, tk, os⟩ := s
  have hD := hcd
  unfold PySem.W.clsIn at hD
  split at hD
  · rename_i c0 d0 cd0 sl0 hCl
    cases hD
    have hCo := I.kIn _ _ hCl
    refine ks_wpAt_super_base (f := f) (cc := cda) (ar := ar) (vs := vs) (file := file) (tf := tf) (fd := fd) hks hkc (by decide) hfu (I.kIn _ _ hf) rfl S.hd hco (I.kIn _ _ hcode) rfl hvs hfile S.top ?_
    refine PySem.W.ks_loadName_global I.ok.kind hks (Calls.loadGlobal_builtin (by rw [I.ok.glob]; exact I.ok.mod.glob.keeps I.bk) hm (by rw [I.ok.blt]; exact hb1.keeps I.bk) ((hb2 "super" (by decide)).trans (by decide +kernel)) ⟨rfl, ?_⟩)
    refine wpAny_loadName_free I.ok.kind hkc hce ⟨_, I.kIn _ _ hcell, rfl⟩ ?_
    rcases hlook with ⟨_, hv⟩ | ⟨hk, _⟩
    · refine wpAny_loadName_local I.ok.kind hka hns hv ?_
      refine ks_wpAny_isType_cls hCo rfl ⟨rfl, ?_⟩
      refine ks_wpAny_call_super hCo rfl ho rfl (fun c z => nomatch z) (PySem.W.looks_mroIn I.kIn S.sub) fun h' e1 k1 => ?_
      have I1 : Inv X pins σ H ⟨h', g, d, tk, os⟩ := I.kept (t' := tk) k1
      obtain ⟨t2, ho1⟩ := exo_at I1.hok e
      have hne : a ≠ C := fun z => by
        subst z
        rw [ho] at hCo
        cases hCo
      refine PySem.W.kxs_getMethod PySem.W.kxs_ValueError e1 (PySem.W.looks_opaque I1.kIn S.op) (l₀ := _) (fun A Q E s k q => wpAny_bind ((PySem.W.looks_clsIn I1.kIn hcd) A _ E s k (wpAny_pure q))) rfl I1.kIn hsup ((show PySem.W.InstAt h' a _ C none from ⟨ho1, rfl, rfl, True.intro⟩).type.andThen (PySem.W.looks_subIn I1.kIn S.ve)) hne (by decide) ?_
      have I2 := ClX.pin_new (a := h'.objs.size) (o := PySem.W.kxs_mw "ValueError.__init__" a) (t' := tk + 1) I1 (fun _ _ z => Heap.get?_push_of_some _ z) (Nat.le_refl _) (Heap.get?_push_size h' rfl) (fun v z => nomatch z)
      have hrun := ha.run pos _ _ σ H _ I2 ht
      rw [hstar] at hrun ⊢
      refine PySem.W.kxs_callWith (i := "ValueError.__init__") (x := a) rfl (Calls.evalArgs_plain (thn hrun fun us s3 ⟨ws, H3, I3, rv, hl, e3, q⟩ => ⟨ClX.pin_at I3, ?_⟩))
      refine mw_call T I3 e3 (ClX.pin_at I3) ?_ fun s4 I4 => ⟨rfl, H3, ClX.unpin I4, q⟩
      show us.length ≤ sizeLine
      rw [← rv.length]
      exact Nat.le_trans hl (by decide)
    · have hk' : X.env.scope.names.lookup ar.arg = some .cell ∨ X.env.scope.names.lookup ar.arg = some .free := hk
      rw [hka] at hk'
      rcases hk' with z | z <;> cases z
  · cases hD
end
end TX
end
section
set_option Elab.async false
set_option maxRecDepth 100000
set_option linter.all false
namespace TX
open PySem PySem.Spec PyProof.Rows L2 NdefX
theorem super_fn {CX : CXT} {P : Program} {w : World} {K : PySem.W.Frag} {mg : Str → Option Value} {base : Heap} {k : Nat} {f C cc cda : Addr} {name qual : Str} {params : Arguments} {body rest : List Stmt} {scope : Scope} {kV doc pm ct oc : Value} {an od : Option Addr} {osl : Array (Option Value)}
    {N ps : List Str} {sp : Sp} {ar : Arg} {arg : Expr} {p0 p1 apos pos spos : Pos}
    (lk : K.lookup f = some ⟨oc, od, .func (PySem.W.fnX name qual params body scope [("__class__", cc)] .none kV doc pm an (.ref cda) ct), osl⟩) (hcd : PySem.W.codeIn K (.ref cda) qual = true) (S : NScope N ps ["__class__"] scope)
    (U : SupI P K C f cc cda (PySem.W.fnX name qual params body scope [("__class__", cc)] .none kV doc pm an (.ref cda) ct) ar) (T : OexC K C) (hm : mg "super" = none)
    (hbd : body = .Expr (.Call (.Attribute (.Call (.Name "super" p0) [] [] p1) "__init__" apos) [arg] [] pos) spos :: rest)
    (hks : scope.names.lookup ("super" : Str) = some .globalImplicit) (hka : scope.names.lookup ar.arg = some .local) (hN : N[0]? = some ar.arg) (len : ∀ vs H Q E, sp vs H Q E → vs.length = ps.length)
    (hst : ∀ env : Env, ∀ L : Addr, env = envF ⟨name, qual, params, body, scope, [("__class__", cc)], cda⟩ f L → ∃ pl : Sem Bool, eval (.Call (.Attribute (.Call (.Name "super" p0) [] [] p1) "__init__" apos) [arg] [] pos) env = (do
      let ov ← attributeBase (.Call (.Name "super" p0) [] [] p1) "__init__" env (eval (.Call (.Name "super" p0) [] [] p1) env)
      standAt apos.atName
      let (f, first) ← holding [ov] (getMethod ov "__init__" pl)
      callWith pos f first (backTo pos (starEach [arg] env)) []) ∧ swapsWith (.Call (.Attribute (.Call (.Name "super" p0) [] [] p1) "__init__" apos) [arg] [] pos) none spos.line env = pure false ∧ interactive env = false ∧ starEach [arg] env = [(false, eval arg env)])
    (hbody : ∀ (A : Around) (outer : List Env) (s : Shared) (H : Hp) (vs : List V) (Q : VK) (E : XK), sp vs H Q E → ∃ (a : Addr) (Mid : Hp → Prop) (ta : TA) (t : TS),
      PA (ncx CX P w K mg base N ⟨name, qual, params, body, scope, [("__class__", cc)], cda⟩ f A outer s H E) [arg] ta ∧ PSs (ncx CX P w K mg base N ⟨name, qual, params, body, scope, [("__class__", cc)], cda⟩ f A outer s H E) rest t ∧
      (startF N vs [some (.ref C)])[0]? = some (some (.ref a)) ∧ H a = some (exo a C none) ∧ ta (startF N vs [some (.ref C)]) H (fun vs H1 => vs.length ≤ 1000 ∧ H1 a = some (exo a C none) ∧ Mid H1) ∧
      ∀ H1, Mid H1 → t { nx := fun _ H' => Q .non H', rt := Q } (startF N vs [some (.ref C)]) H1) :
    FnOk P w K mg base CX (k + 1) f (PySem.W.fnX name qual params body scope [("__class__", cc)] .none kV doc pm an (.ref cda) ct) ps sp := by
  refine ⟨len, fun A outer s H args us vs Q E hr e0 hb r hsp => ?_⟩
  have hl := len _ _ _ _ hsp
  have KX : K.In s.heap := e0.mod.kin.keeps fun b o e => (e0.bs b o e).1
  have lim : s.heap.NoLimit := e0.mod.nolimit.keeps fun b o e => (e0.bs b o e).1
  obtain ⟨cl, cld, csl, hcell⟩ := U.cell
  have one : ∀ {y : Str} {c : Addr}, ([("__class__", cc)] : List (Str × Addr)).lookup y = some c → y = "__class__" ∧ c = cc := fun {y c} h => by
    rw [List.lookup_cons] at h
    cases e : (y == ("__class__" : Str)) with
    | true => rw [e] at h; exact ⟨eq_of_beq e, (Option.some.inj h).symm⟩
    | false => rw [e] at h; cases h
  have cells : CellsAt [("__class__", cc)] ["__class__"] [some (.ref C)] s.heap H := by
    refine ⟨rfl, fun y c h => ?_, fun x y c h1 h2 => (one h1).1.trans (one h2).1.symm, fun i y h => ?_⟩
    · obtain ⟨rfl, rfl⟩ := one h
      exact ⟨(e0.bs _ _ (e0.mod.kin _ _ hcell)).2, _, _, KX _ _ hcell, rfl⟩
    · match i, h with
      | 0, h =>
        obtain rfl : ("__class__" : Str) = y := Option.some.inj h
        exact ⟨cc, rfl, fun v e => ⟨.ref C, by cases e; rfl, _, KX _ _ hcell, rfl⟩⟩
      | i + 1, h => cases h
  obtain ⟨a, Mid, ta, t, hA, hS, h0, ea, hta, ht⟩ := hbody A outer s H vs Q E hsp
  refine ks_codeAny_call_defAt (body := body) (binds := ps.zip us) hr.depth (KX _ _ lk) rfl lim (PySem.W.codeRec_of KX hcd) rfl hb S.nocell (fun ⟨n, _⟩ hy => S.par n (List.of_mem_zip hy).1) (fun h₁ hns kp => ?_) S.co S.gen S.kind
  have I : Inv (ncx CX P w K mg base N ⟨name, qual, params, body, scope, [("__class__", cc)], cda⟩ f A outer s H E) [] (startF N vs [some (.ref C)]) H { s with heap := h₁, toks := s.toks + (ps.zip us).length } := inv_startN S hr.hd e0 hl r cells hns kp
  obtain ⟨pl, hc, hsw, hi, hstar⟩ := hst (envF ⟨name, qual, params, body, scope, [("__class__", cc)], cda⟩ f s.heap.objs.size) _ rfl
  have fin : ∀ {σ' : L2.St} {H' : Hp} {v : V} {u : Value} {s' : Shared}, Inv (ncx CX P w K mg base N ⟨name, qual, params, body, scope, [("__class__", cc)], cda⟩ f A outer s H E) [] σ' H' s' → L2.RelV v u → Q v H' → CE outer P w H s Q u s' :=
    fun {σ' H' v u s'} J rv q => ⟨v, H', J.os, J.bare, J.base, J.hok, rv, q⟩
  have first := super_stmt (X := ncx CX P w K mg base N ⟨name, qual, params, body, scope, [("__class__", cc)], cda⟩ f A outer s H E) (body := body) (Qn := Mid) U T hm rfl rfl rfl hks (S.frk _ (by simp)) hka hN hc hsw hi I h0 ea hA hstar hta
  subst hbd
  refine ks_wpAt_execs_cons (ks_wpAt_mono first (fun fl s1 ⟨e, H1, I1, q1⟩ => ?_) fun _ _ z => z)
  subst e
  refine wpAt_of_wpAny (wpAny_mono (hS.run [] s1 _ H1 _ I1 (ht H1 q1)) (fun fl s' hs => ?_) fun _ _ z => z)
  cases fl with
  | ret u =>
    obtain ⟨v, σ', H', J, rv, q⟩ := hs
    exact fin J rv q
  | next =>
    obtain ⟨σ', H', J, q⟩ := hs
    exact fin (v := V.non) (u := Value.none) J rfl q
  | brk =>
    obtain ⟨_, _, _, q⟩ := hs
    exact False.elim q
  | cont =>
    obtain ⟨_, _, _, q⟩ := hs
    exact False.elim q
end TX
end
section
set_option Elab.async false
set_option maxRecDepth 100000
set_option linter.all false
namespace TX
open PySem PySem.Spec PyProof.Rows L2 NdefX TK
section
variable {CX : CXT} {P : Program} {w : World} {K : PySem.W.Frag} {mg : Str → Option Value} {base : Heap} {f C cc cda : Addr} {kV doc pm ct oc : Value} {an od : Option Addr} {osl : Array (Option Value)} {ar : Arg}
def spUm (C : Addr) : Sp := fun vs H Q _ => ∃ (a : Addr) (v : V), vs = [.ref a, v] ∧ H a = some (exo a C none) ∧ ∀ dx, H dx = none → dx ≠ a → Q .non (upd (upd H dx (exd dx [("marble", v)])) a (exo a C (some dx)))
theorem scUm : NScope ["self", "marble", "__class__"] ["self", "marble"] ["__class__"] (defScope sUnknownMarbleInit) := nscope_by (by decide +kernel)
theorem ok_um (lk : K.lookup f = some ⟨oc, od, .func (PySem.W.fnX "__init__" "UnknownMarble.__init__" (defArgs sUnknownMarbleInit) (defBody sUnknownMarbleInit) (defScope sUnknownMarbleInit) [("__class__", cc)] .none kV doc pm an (.ref cda) ct), osl⟩) (hcd : PySem.W.codeIn K (.ref cda) "UnknownMarble.__init__" = true)
    (U : SupI P K C f cc cda (PySem.W.fnX "__init__" "UnknownMarble.__init__" (defArgs sUnknownMarbleInit) (defBody sUnknownMarbleInit) (defScope sUnknownMarbleInit) [("__class__", cc)] .none kV doc pm an (.ref cda) ct) ar) (har : ar.arg = "self") (T : OexC K C) (hm : mg "super" = none) (hno : PySem.W.findIn K (.ref C) "marble" = some none) :
    FnOk P w K mg base CX 1 f (PySem.W.fnX "__init__" "UnknownMarble.__init__" (defArgs sUnknownMarbleInit) (defBody sUnknownMarbleInit) (defScope sUnknownMarbleInit) [("__class__", cc)] .none kV doc pm an (.ref cda) ct) ["self", "marble"] (spUm C) := by
  refine super_fn (N := ["self", "marble", "__class__"]) (k := 0) lk hcd scUm U T hm rfl (by decide +kernel) (by rw [har]; decide +kernel) (by rw [har]; rfl) (fun vs H Q E h => ?_) (fun env L he => ?_) fun A outer s H vs Q E h => ?_
  · obtain ⟨a, v, rfl, _⟩ := h
    rfl
  · subst he
    exact ⟨_, rfl, rfl, rfl, rfl⟩
  · obtain ⟨a, v, rfl, e, k⟩ := h
    refine ⟨a, fun H1 => H1 = H, _, _, pa_cons pe_str pa_nil, pss_one (ps_ost (pv 0) (pv 1)), rfl, e, ?_, ?_⟩
    · exact ⟨by show 1 ≤ 1000; decide, e, rfl⟩
    · rintro H1 rfl
      exact ⟨_, rfl, _, rfl, a, C, rfl, T, hno, .inl ⟨e, k⟩⟩
end
end TX
end
section
set_option Elab.async false
set_option maxRecDepth 100000
set_option linter.all false
namespace TK
open PySem L2 TM
open TX
section
variable {P : Program} {w : World} {K : PySem.W.Frag} {mg : Str → Option Value} {base : Heap} {C fT : Addr} {fdT : FuncData}
/-- a value that is no text -/
def NoText (K : PySem.W.Frag) (H : Hp) (x : V) : Prop := ∃ ty, TyX K H x (.type ty) ∧ kitB ty "str" = some false
/-- what is written of an exception class of the program -/
structure ExcT (K : PySem.W.Frag) (mg : Str → Option Value) (x : Str) (CE fE : Addr) : Prop where
  ox : OexC K CE
  mgE : mg x = some (.ref CE)
  iE : PySem.W.findIn K (.ref CE) "__init__" = some (some (.ref fE))
  tE : PySem.W.typeIn K (.ref fE) = some (.type "function")
end
end TK
end
namespace TX
end TX
section
set_option Elab.async false
set_option maxRecDepth 100000
set_option linter.all false
namespace TA
open TK
open PySem PySem.Spec PyProof.Rows L2 LamX TX
theorem ix_listK {X : Cx} {K : PySem.W.Frag} (h : X.K = K) : IxR X (rIxL K) := by
  subst h
  exact ix_list
section
variable {X : Cx} {ce : Nat → Addr} {cT : Addr}
end
end TA
end
section
set_option Elab.async false
set_option maxRecDepth 100000
set_option linter.all false
namespace TA
open TK
open PySem PySem.Spec PyProof.Rows L2
/-- a sequence at a: a list, a tuple -/
inductive Sq (K : PySem.W.Frag) (H : Hp) (a : Addr) (xs : List V) : Bool → Prop where
  | lst (h : SqL K H a xs) : Sq K H a xs false
  | tup (h : SqT K H a xs) : Sq K H a xs true
def tyN (t : Bool) : String := if t then "tuple" else "list"
theorem sq_ty {K : PySem.W.Frag} {H : Hp} {a : Addr} {xs : List V} {t : Bool} (h : Sq K H a xs t) : TyX K H (.ref a) (.type (tyN t)) := by
  cases h with
  | lst h =>
    rcases h with (h | ⟨o, h⟩) | ⟨o, its, n, h, c, _⟩
    · exact .base (.lst h)
    · exact .base (.frz h)
    · exact .kList h c
  | tup h =>
    rcases h with (h | ⟨o, h⟩) | ⟨o, its, n, h, c, _⟩
    · exact .base (.tup h)
    · exact .fTuple h
    · exact .kTuple h c
theorem tup_kit (t : Bool) : kitB (tyN t) "tuple" = some t := by
  cases t <;> decide +kernel
section
variable {P : Program} {w : World} {K : PySem.W.Frag} {mg : Str → Option Value} {base : Heap}
end
end TA
end
section
set_option Elab.async false
set_option maxRecDepth 100000
set_option maxHeartbeats 4000000
set_option linter.all false
namespace TB
open PySem PySem.Spec PyProof.Rows L2
section
variable {X : Cx} {CX : CXT} {n : Nat} {C g : Addr} {sp : Sp} {E : XK}
/-- a op y, y an instance of the class at C or a value of the built-in type T -/
def rCmpOwn (K : PySem.W.Frag) (C : Addr) (sp : Sp) (E : XK) : R2 := fun x y H Q => ∃ a dx fs, x = .ref a ∧ H a = some (.ins C dx fs) ∧
  ((∃ b dy gs, y = .ref b ∧ H b = some (.ins C dy gs)) ∨ ∃ T, (∀ u, RelV y u → typeOf u = pure (.type T)) ∧ PySem.W.notFirst K C (.type T) = true) ∧ sp [x, y] H Q E
theorem op_cmpOwn {op : CmpOp} (hop : ∀ a b, compareOp op a b = richCompare op a b) (hs : PySem.W.findIn X.K (.ref C) (cmpInfo op).2.1 = some (some (.ref g))) (hf : PySem.W.isFn X.K (.ref g) = true) (F : FnR X.prog X.w X.K X.mg X.base CX n g sp)
    (hr : Room n X.A) (hx : Passes CX X E) : OpR X (compareOp op) (rCmpOwn X.K C sp E) := by
  intro pins s σ H x y v u Q I rx ry h
  obtain ⟨a, dx, fs, rfl, ha, hy, q⟩ := h
  cases (show v = Value.ref a from rx)
  obtain ⟨mA, O, _⟩ := ins_get I.hok ha
  obtain ⟨od, J, _⟩ := O.look
  obtain ⟨m, hF⟩ := I.fr
  obtain ⟨tb, hb, hn⟩ : ∃ tb, PySem.W.Looks (model X.prog X.w) s.heap (typeOf u) tb ∧ PySem.W.notFirst X.K C tb = true := by
    rcases hy with ⟨b, dy, gs, rfl, hb⟩ | ⟨T, ht, hn⟩
    · cases (show u = Value.ref b from ry)
      obtain ⟨mB, O', _⟩ := ins_get I.hok hb
      obtain ⟨od', J', _⟩ := O'.look
      exact ⟨.ref C, J'.type, by simp [PySem.W.notFirst]⟩
    · exact ⟨.type T, PySem.W.Looks.of_pure (ht _ ry), hn⟩
  rw [hop]
  refine PySem.W.cmp_K (op := op) (tb := tb) hr.units0 hF I.ok.mod.kin J hb hn hs hf ?_
  refine wpAny_mono (wpAny_call (run_fnR (us := [.ref a, u]) (vs := [.ref a, y]) F hr hx I (.cons rfl (.cons ry .nil)) q)) (fun w s' z => ?_) fun _ _ x => x
  obtain ⟨z', H', I', rz, qz⟩ := z
  exact SlX.cmpback rz ⟨z', H', I', rz, qz⟩
end
end TB
end
namespace TB
end TB
namespace TA
end TA
section
set_option Elab.async false
set_option maxRecDepth 100000
set_option linter.all false
namespace TA
open TK
open PySem PySem.Spec PyProof.Rows L2 LamX TX TK TM TB
def isN : V → Int → Bool
  | .int i, l => decide (0 ≤ i) && decide (i ≤ l)
  | _, _ => false
/-- what isinstance says of a value -/
structure Kn (K : PySem.W.Frag) (H : Hp) (x : V) (ty : String) (bb bi : Bool) : Prop where
  t : TyX K H x (.type ty)
  b : kitB ty "bool" = some bb
  i : kitB ty "int" = some bi
  yes : bb = false → bi = true → ∃ i, x = .int i
  no : bb = true ∨ bi = false → ∀ i, x ≠ .int i
theorem kn_int {K : PySem.W.Frag} {H : Hp} (i : Int) : Kn K H (.int i) "int" false true := ⟨.base (.int i), by decide +kernel, by decide +kernel, fun _ _ => ⟨i, rfl⟩, fun h => by rcases h with h | h <;> cases h⟩
structure TxtN (K : PySem.W.Frag) (mg : Str → Option Value) : Prop where
  isi : mg "isinstance" = none
  bool : mg "bool" = none
  int : mg "int" = none
section
variable {P : Program} {w : World} {K : PySem.W.Frag} {mg : Str → Option Value} {base : Heap} {C fT : Addr} {fdT : FuncData}
theorem scNu : FnScope ["value", "limit"] ["value", "limit"] (defScope sIsNumber) := ⟨rfl, rfl, rfl, by decide +kernel, rfl, by decide +kernel, by decide +kernel⟩
def spNum (K : PySem.W.Frag) : Sp := fun vs H Q _ => ∃ (x : V) (l : Int) (ty : String) (bb bi : Bool), vs = [x, .int l] ∧ Kn K H x ty bb bi ∧ Q (.bl (isN x l)) H
theorem ok_num {f : Addr} {fd : FuncData} (F : Fun K "is_number" "is_number" sIsNumber f fd) (T : TxtN K mg) : FnOk P w K mg base CX0 1 f fd ["value", "limit"] (spNum K) := by
  refine F.ok scNu (fun vs H Q E h => ?_) (fun cdv A outer s H vs Q E hr h => ?_)
  · obtain ⟨x, l, ty, bb, bi, rfl, _⟩ := h
    rfl
  · obtain ⟨x, l, ty, bb, bi, rfl, N, k⟩ := h
    refine ⟨_, pss_cons (ps_if (PW.pt (pw_or (pt_val (pe_callB call_isi (by rfl) T.isi (by decide +kernel) (pa_cons (pv 0) (pa_cons (pe_bltn (v := .ty "bool") (by rfl) T.bool (by decide +kernel) rfl) pa_nil))))
        (pw_or1 (pt_not (pt_val (pe_callB call_isi (by rfl) T.isi (by decide +kernel) (pa_cons (pv 0) (pa_cons (pe_bltn (v := .ty "int") (by rfl) T.int (by decide +kernel) rfl) pa_nil)))))))) (pss_one (ps_ret pe_bl)) pss_nil)
      (pss_one (ps_ret (pe_chain op_le op_le pe_int (pv 0) (pv 1)))), ?_⟩
    refine ⟨_, rfl, _, _, _, _, bb, rfl, .ty _, N.t, kit_ty N.b, bb, rfl, ?_⟩
    cases bb with
    | true =>
      refine iteT ?_
      have e : isN x l = false := by
        have h := N.no (.inl rfl)
        cases x with
        | int i => exact absurd rfl (h i)
        | _ => rfl
      rw [e] at k
      exact k
    | false =>
      refine iteF ⟨_, rfl, _, _, _, _, bi, rfl, .ty _, N.t, kit_ty N.i, bi, rfl, ?_⟩
      cases bi with
      | false =>
        refine iteT ?_
        have e : isN x l = false := by
          have h := N.no (.inr rfl)
          cases x with
          | int i => exact absurd rfl (h i)
          | _ => rfl
        rw [e] at k
        exact k
      | true =>
        obtain ⟨i, rfl⟩ := N.yes rfl rfl
        refine iteF ?_
        refine ⟨_, rfl, _, _, rfl, rfl, _, rfl, ?_⟩
        by_cases h0 : (0 : Int) ≤ i
        · rw [decide_eq_true h0]
          refine iteT ⟨_, rfl, _, _, rfl, rfl, ?_⟩
          have e : isN (.int i) l = decide (i ≤ l) := by
            show (decide (0 ≤ i) && decide (i ≤ l)) = _
            rw [decide_eq_true h0, Bool.true_and]
          rw [e] at k
          exact k
        · rw [decide_eq_false h0]
          refine iteF ?_
          have e : isN (.int i) l = false := by
            show (decide (0 ≤ i) && decide (i ≤ l)) = _
            rw [decide_eq_false h0, Bool.false_and]
          rw [e] at k
          exact k
end
end TA
end
section
set_option Elab.async false
set_option maxRecDepth 100000
set_option linter.all false
namespace TP
open PySem L2 TM TK TH TB TX
open PySem.Spec PyProof.Rows
def rNotOwn (C : Addr) (sp : Sp) (E : XK) : R2 := fun y x H Q => ∃ a dx fs, x = .ref a ∧ H a = some (.ins C dx fs) ∧ sp [.ref a, y] H (fun z H' => ∃ c, z = .bl c ∧ Q (.bl (!c)) H') E
theorem one_of {u : List Nat} (h : u.length = 1) : ∃ c, u = [c] := by
  match u, h with
  | [c], _ => exact ⟨c, rfl⟩
theorem op_notOwn {X : Cx} {CX : CXT} {n : Nat} {C g : Addr} {sp : Sp} {E : XK} (hs : PySem.W.findIn X.K (.ref C) "__contains__" = some (some (.ref g))) (hf : PySem.W.isFn X.K (.ref g) = true) (F : FnR X.prog X.w X.K X.mg X.base CX n g sp) (hr : Room n X.A) (hx : Passes CX X E) : OpR X (compareOp .NotIn) (rNotOwn C sp E) := by
  intro pins s σ H y x u v Q I ry rx h
  obtain ⟨a, dx, fs, rfl, ha, q⟩ := h
  cases (show v = Value.ref a from rx)
  obtain ⟨mA, O, _⟩ := ins_get I.hok ha
  obtain ⟨od, J, _⟩ := O.look
  obtain ⟨m, hF⟩ := I.fr
  refine PySem.W.notIn_K hF I.ok.mod.kin J hs hf (wpAny_mono (wpAny_call (SlX.run_at (us := [.ref a, u]) (ws := [.ref a, y]) F hr I.env0 hx I (.cons rfl (.cons ry .nil)) q)) (fun w s' z => ?_) fun _ _ x => x)
  obtain ⟨z', H', I', rz, b, rfl, qz⟩ := z
  obtain rfl : w = Value.bool b := rz
  exact wpAny_truthy_bool ⟨.bl (!b), H', I', rfl, qz⟩
theorem occ_at {t : List Nat} {c : Nat} (h : c ∈ t) : ∃ i rest, Builtin.Str.occurrences (S t) (S [c]) 0 (S t).length 1 = i :: rest ∧ t[i]? = some c := by
  have h1 := StrLaws.found_one (S t) c
  rw [S_list] at h1
  change (!(Builtin.Str.occurrences (S t) (S [c]) 0 (S t).length 1).isEmpty) = _ at h1
  rw [decide_eq_true h] at h1
  obtain ⟨f, hc⟩ := StrLaws.occ_chain (S t) (S [c]) 1
  cases e : Builtin.Str.occurrences (S t) (S [c]) 0 (S t).length 1 with
  | nil =>
    rw [e] at h1
    cases h1
  | cons i rest =>
    rw [e] at hc
    obtain ⟨_, ⟨h2, h3⟩, _⟩ := hc
    refine ⟨i, rest, rfl, ?_⟩
    rw [S_len, S_len] at h2
    have hi : i < t.length := by
      have : i + 1 ≤ t.length := h2
      omega
    have h4 := beq_iff_eq.mp h3
    have h5 := congrArg (fun a : Array Nat => a[0]?) h4
    simp only [Array.getElem?_extract] at h5
    rw [List.getElem?_eq_getElem hi]
    simp [S] at h5
    rw [← h5.2, List.getElem?_eq_getElem hi]
section
variable {P : Program} {w : World} {K : PySem.W.Frag} {mg : Str → Option Value} {base : Heap} {D CU fU pM gM pW gW fC : Addr} {fdM fdW fdU : FuncData}
theorem scTc : FnScope ["self", "x"] ["self", "x"] (defScope sTrayContains) := ⟨rfl, rfl, rfl, by decide +kernel, rfl, by decide +kernel, by decide +kernel⟩
def has (g : Grid) (u : List Nat) : Bool := decide (u.length = 1) && decide (u.getD 0 0 ∈ mb g.flatten)
def spTc (K : PySem.W.Frag) (D : Addr) : Sp := fun vs H Q _ => ∃ (p : Addr) (x : V) (h w : Nat) (g : Grid), vs = [.ref p, x] ∧ TrayAt K D H p g ∧ VG h w g ∧
  ((∃ u : List Nat, x = .str (S u) ∧ u.length ≤ 1000 ∧ ∀ H', Same H H' → Q (.bl (has g u)) H') ∨ (NoText K H x ∧ ∀ H', Same H H' → Q (.bl false) H'))
theorem ok_tc {f : Addr} {fd : FuncData} (F : Fun K "__contains__" "Tray.__contains__" sTrayContains f fd) (T : TxtW K mg) (CT : ClsT K mg D) (PM : PropOf K D "marbles" pM gM) (GM : FnOk P w K mg base CX0 1 gM fdM ["self"] (spMb K D)) (bM : Binds K fdM ["self"] []) :
    FnOk P w K mg base CX0 3 f fd ["self", "x"] (spTc K D) := by
  refine F.ok scTc (fun vs H Q E h => ?_) (fun cdv A outer s H vs Q E hr h => ?_)
  · obtain ⟨p, x, h, w, g, rfl, _⟩ := h
    rfl
  · obtain ⟨p, x, h, w, g, rfl, T0, hV, hx⟩ := h
    obtain ⟨dx, a, hp, hS⟩ := id T0
    refine ⟨_, pss_one (ps_ret (pe_and (pe_callB call_isi (by rfl) T.isi (by decide +kernel) (pa_cons (pv 1) (pa_cons (pe_bltn (v := .ty "str") (by rfl) T.str (by decide +kernel) rfl) pa_nil)))
      (pe_and (pe_cmpR op_eq (pe_callB call_len_str (by rfl) T.len PySem.boot_len (pa_cons (pv 1) pa_nil)) pe_int (nomark _))
        (pe_one (pe_cmpR op_in_sign (pv 1) (pe_prop (pv 0) CT.cl PM GM (hr.mono (by decide)) bM .nil pass0 rfl) (by rfl)))))), ?_⟩
    rcases hx with ⟨u, rfl, hl, k⟩ | ⟨⟨ty, hty, hk⟩, k⟩
    · refine ⟨_, rfl, _, _, _, _, true, rfl, .ty _, .base (.str _), kit_ty (by decide +kernel), true, rfl, iteT ?_⟩
      have hs : (S u).length ≤ sizeLine := by
        rw [S_len]
        show _ ≤ 16777216
        omega
      refine ⟨_, rfl, _, rfl, hs, rfl, _, rfl, ?_⟩
      by_cases h1 : u.length = 1
      · obtain ⟨c, rfl⟩ := one_of h1
        have e : decide (V.int ((S [c]).length : Nat) = V.int 1) = true := decide_eq_true (by rw [S_len]; rfl)
        rw [e]
        refine iteT ⟨_, rfl, _, rfl, p, dx, _, rfl, hp, p, h, w, g, rfl, T0, hV, fun H1 sm => ?_⟩
        refine ⟨c, _, rfl, rfl, ?_⟩
        rw [S_list]
        have k1 := k H1 sm
        have e2 : has g [c] = decide (c ∈ mb g.flatten) := rfl
        rw [e2] at k1
        rw [show decide (c ∈ srt (mb g.flatten)) = decide (c ∈ mb g.flatten) from decide_eq_decide.mpr (srt_perm _).mem_iff]
        exact k1
      · have e : decide (V.int ((S u).length : Nat) = V.int 1) = false := decide_eq_false (by
          rw [S_len]
          intro z
          injection z with z
          omega)
        rw [e]
        refine iteF ?_
        have k1 := k H (Same.refl H)
        unfold has at k1
        rw [decide_eq_false h1, Bool.false_and] at k1
        exact k1
    · exact ⟨_, rfl, _, _, _, _, false, rfl, .ty _, hty, kit_ty hk, false, rfl, iteF (k _ (Same.refl H))⟩
theorem scCl : FnScope ["self", "marble", "cells"] ["self", "marble"] (defScope sTrayCall) := ⟨rfl, rfl, rfl, by decide +kernel, rfl, by decide +kernel, by decide +kernel⟩
def spCl (K : PySem.W.Frag) (D CU : Addr) : Sp := fun vs H Q E => ∃ (p : Addr) (x : V) (h w : Nat) (g : Grid), vs = [.ref p, x] ∧ TrayAt K D H p g ∧ VG h w g ∧
  ((∃ c k : Nat, x = sg c ∧ c ≠ 46 ∧ g.flatten[k]? = some c ∧ ∀ H' q, Same H H' → H q = none → H' q = some (.tup [.int ((k : Int) / w), .int ((k : Int) % w)]) → Q (.ref q) H') ∨
    (((∃ u : List Nat, x = .str (S u) ∧ u.length ≤ 1000 ∧ has g u = false) ∨ NoText K H x) ∧ ∀ H' d, Same H H' → H d = none → H' d = some (.xd [("marble", x)]) → E (.ref CU) (some d) H'))
theorem mb_uniq {l : List Nat} (nd : (mb l).Nodup) {c i j : Nat} (hc : c ≠ 46) (hi : l[i]? = some c) (hj : l[j]? = some c) : i = j := by
  induction l generalizing i j with
  | nil => simp at hi
  | cons x l ih =>
    by_cases hx : x = 46
    · subst hx
      have e : mb (46 :: l) = mb l := by simp [mb]
      rw [e] at nd
      cases i with
      | zero => simp at hi; exact absurd hi.symm hc
      | succ i =>
        cases j with
        | zero => simp at hj; exact absurd hj.symm hc
        | succ j => rw [ih nd (i := i) (j := j) (by simpa using hi) (by simpa using hj)]
    · have e : mb (x :: l) = x :: mb l := by simp [mb, hx]
      rw [e] at nd
      have nd' := List.nodup_cons.mp nd
      have no : ∀ {k : Nat}, l[k]? = some x → False := fun {k} hk => nd'.1 (List.mem_filter.mpr ⟨List.mem_of_getElem? hk, by simp [hx]⟩)
      cases i with
      | zero =>
        simp at hi
        subst hi
        cases j with
        | zero => rfl
        | succ j => exact (no (by simpa using hj)).elim
      | succ i =>
        cases j with
        | zero =>
          simp at hj
          subst hj
          exact (no (by simpa using hi)).elim
        | succ j => rw [ih nd'.2 (i := i) (j := j) (by simpa using hi) (by simpa using hj)]
theorem flat_len {h w : Nat} {g : Grid} (R : Rect h w g) : g.flatten.length = h * w := by
  rw [List.length_flatten]
  have : g.map List.length = List.replicate h w := List.eq_replicate_iff.mpr ⟨by rw [List.length_map]; exact R.1, fun x hx => by
    obtain ⟨l, hl, rfl⟩ := List.mem_map.mp hx
    exact R.2 l hl⟩
  rw [this]
  simp
theorem join0 : ∀ g : Grid, Txt.join (S []) (g.map S) = S g.flatten := fun g => by
  rw [join_S, joinL_nil]
theorem ok_cl {f : Addr} {fd : FuncData} (F : Fun K "__call__" "Tray.__call__" sTrayCall f fd) (CT : ClsT K mg D) (dm : mg "divmod" = none)
    (hs : PySem.W.findIn K (.ref D) "__contains__" = some (some (.ref fC))) (hf : PySem.W.isFn K (.ref fC) = true) (FC : FnR P w K mg base CX0 3 fC (spTc K D))
    (PW_ : PropOf K D "width" pW gW) (GW : FnOk P w K mg base CX0 1 gW fdW ["self"] (spWd K D)) (bW : Binds K fdW ["self"] [])
    (X : ExcT K mg "UnknownMarble" CU fU) (GU : FnOk P w K mg base CX0 1 fU fdU ["self", "marble"] (spUm CU)) (bU : Binds K fdU ["self", "marble"] []) :
    FnOk P w K mg base (L2.CX P w) 4 f fd ["self", "marble"] (spCl K D CU) := by
  refine F.okX scCl (fun vs H Q E h => ?_) (fun cdv A outer s H vs Q E hr h => ?_)
  · obtain ⟨p, x, h, w, g, rfl, _⟩ := h
    rfl
  · obtain ⟨p, x, h, w, g, rfl, T0, hV, hx⟩ := h
    obtain ⟨dx, a, hp, hS⟩ := id T0
    refine ⟨_, pss_cons (ps_if (pt_cmpR (op_notOwn hs hf FC hr pass0) (pv 1) (pv 0) (by rfl)) (pss_one (ps_raise rfl (takes_of rfl rfl rfl rfl) (pmk_oex X.ox X.iE X.tE GU (hr.mono (by decide)) bU .nil pass0 rfl X.mgE (pa_cons (pv 1) pa_nil)))) pss_nil)
      (pss_cons (ps_set (i := 2) scCl.nd rfl (.inl rfl) (pe_join pe_str (pe_fld (pv 0) rfl)))
      (pss_one (ps_ret (pe_callB call_divmod (by rfl) dm (by decide +kernel) (pa_cons (pe_bm PySem.F.plainAttrs_str PySem.F.slot_str_index PySem.F.type_str_index mt_sindex (pv 2) (pa_cons (pv 1) pa_nil)) (pa_cons (pe_prop (pv 0) CT.cl PW_ GW (hr.mono (by decide)) bW .nil pass0 rfl) pa_nil)))))), ?_⟩
    rcases hx with ⟨c, kk, rfl, hc, hk, k⟩ | ⟨hn, k⟩
    · have hm : c ∈ mb g.flatten := List.mem_filter.mpr ⟨List.mem_of_getElem? hk, by simp [hc]⟩
      have hh : has g [c] = true := by
        show (true && decide (c ∈ mb g.flatten)) = true
        rw [decide_eq_true hm]
        rfl
      refine ⟨_, rfl, _, rfl, p, dx, _, rfl, hp, p, _, h, w, g, rfl, T0, hV, .inl ⟨[c], rfl, by show 1 ≤ 1000; decide, fun H1 sm => ?_⟩⟩
      rw [hh]
      refine ⟨true, rfl, _, rfl, iteF ?_⟩
      have hf64 := flat_len hV.rc
      have h64 : h * w ≤ 64 := Nat.mul_le_mul hV.n8 hV.m8
      refine ⟨⟨_, rfl⟩, _, rfl, p, D, dx, _, _, rfl, sm _ _ hp, CT.cl, CT.nR, rfl, _, a, g.map S, rfl, rfl, .inr ?_, ?_, ?_⟩
      · rw [List.map_map]
        exact sm.tup hS
      · have h1 := row_sum 8 g fun r hr => hV.row hr
        have h2 := hV.len
        rw [List.length_map]
        show _ + _ * 0 ≤ _
        omega
      rw [show Str.ofString "" = S [] from rfl, join0]
      have hcf : c ∈ g.flatten := List.mem_of_getElem? hk
      obtain ⟨i, rest, e1, e2⟩ := occ_at hcf
      have ei := mb_uniq hV.nd hc e2 hk
      subst ei
      refine ⟨_, rfl, rfl, _, rfl, _, _, i, rest, rfl, rfl, e1, ?_⟩
      refine ⟨_, rfl, p, dx, _, rfl, sm _ _ hp, p, h, w, g, rfl, T0.same sm, hV, _, _, rfl, ⟨by have := hV.m1; omega, by have := hV.m8; omega⟩, fun q hq => ?_⟩
      exact k _ q (sm.trans (same_new hq)) (sm.free hq) upd_same
    · have raised : ∀ {H1 : Hp}, Same H H1 → ∀ a, H1 a = none → spUm CU [.ref a, x] (upd H1 a (exo a CU none)) (fun v H2 => v = .non ∧ ∃ (d : Addr) (fs : List (Str × V)), H2 a = some (exo a CU (some d)) ∧ H2 d = some (exd d fs) ∧ H1 d = none ∧ E (.ref CU) (some d) (upd (del H2 a) d (.xd fs))) (fun _ _ _ => False) := by
        intro H1 sm a ha
        refine ⟨a, x, rfl, upd_same, fun d hd hne => ⟨rfl, d, _, upd_same, by rw [upd_ne hne, upd_same], ?_, ?_⟩⟩
        · rw [upd_ne hne] at hd
          exact hd
        · rw [upd_ne hne] at hd
          refine k _ _ (fun b o e => ?_) (sm.free hd) upd_same
          have e1 := sm b o e
          have nd := ne_of_none e1 hd
          have na := ne_of_none e1 ha
          rw [upd_ne nd, del_ne na, upd_ne na, upd_ne nd, upd_ne na]
          exact e1
      refine ⟨_, rfl, _, rfl, p, dx, _, rfl, hp, p, _, h, w, g, rfl, T0, hV, ?_⟩
      rcases hn with ⟨u, rfl, hu, hh⟩ | hn
      · refine .inl ⟨u, rfl, hu, fun H1 sm => ?_⟩
        rw [hh]
        exact ⟨false, rfl, _, rfl, iteT ⟨_, rfl, by show 1 ≤ 1000; decide, raised sm⟩⟩
      · exact .inr ⟨hn, fun H1 sm => ⟨false, rfl, _, rfl, iteT ⟨_, rfl, by show 1 ≤ 1000; decide, raised sm⟩⟩⟩
end
end TP
end
namespace TA
end TA
section
set_option Elab.async false
set_option maxRecDepth 100000
set_option linter.all false
namespace TA
open TK
open PySem PySem.Spec PyProof.Rows L2 LamX TX TK TM TB
/-- an own exception class that is made with a text -/
structure ExN (K : PySem.W.Frag) (mg : Str → Option Value) (x : Str) (CE : Addr) : Prop where
  q : PySem.W.excIn K CE [.type "ValueError", .type "Exception", .type "BaseException", .type "object"] "ValueError.__new__" = true
  g : mg x = some (.ref CE)
  k : PySem.W.keepIn K (.ref CE) = true
  s : PySem.W.subIn K (.ref CE) (.type "BaseException") = some true
  t : PySem.W.typeIn K (.ref CE) = some (.type "type")
section
variable {P : Program} {w : World} {K : PySem.W.Frag} {mg : Str → Option Value} {base : Heap} {C CN fU : Addr} {fdU : FuncData}
end
end TA
end
section
set_option Elab.async false
set_option maxRecDepth 100000
set_option linter.all false
namespace TP
open PySem L2 TM TK TH TB TX
open PySem.Spec PyProof.Rows
theorem passX {X : Cx} {E : XK} (tk : Takes X (fun cls d _ H => E cls d H)) : Passes (L2.CX X.prog X.w) X E := passes_call tk fun _ _ _ _ h => h
/-- what is_place says of a value -/
inductive Plc (K : PySem.W.Frag) (H : Hp) (h w : Nat) : V → Bool → Prop where
  | two {q : Addr} {a b : V} {ta tb : String} {xa ya xb yb : Bool} (hq : SqT K H q [a, b]) (ka : TA.Kn K H a ta xa ya) (kb : TA.Kn K H b tb xb yb) : Plc K H h w (.ref q) (TA.isN a ((h : Int) - 1) && TA.isN b ((w : Int) - 1))
  | tup {q : Addr} {xs : List V} (hq : SqT K H q xs) (hl : xs.length ≠ 2) : Plc K H h w (.ref q) false
  | other {x : V} {ty : String} (ht : TyX K H x (.type ty)) (hk : kitB ty "tuple" = some false) : Plc K H h w x false
section
variable {P : Program} {w : World} {K : PySem.W.Frag} {mg : Str → Option Value} {base : Heap} {D CP fN fL pH gH pW gW : Addr} {fdN fdL fdH fdW : FuncData}
structure TxtP (K : PySem.W.Frag) (mg : Str → Option Value) : Prop where
  isi : mg "isinstance" = none
  tup : mg "tuple" = none
  len : mg "len" = none
theorem scPl : FnScope ["value", "height", "width"] ["value", "height", "width"] (defScope sIsPlace) := ⟨rfl, rfl, rfl, by decide +kernel, rfl, by decide +kernel, by decide +kernel⟩
def spPl (K : PySem.W.Frag) : Sp := fun vs H Q _ => ∃ (x : V) (h w : Nat) (b : Bool), vs = [x, .int (h : Nat), .int (w : Nat)] ∧ Plc K H h w x b ∧ Q (.bl b) H
theorem ok_pl {f : Addr} {fd : FuncData} (F : Fun K "is_place" "is_place" sIsPlace f fd) (T : TxtP K mg) (GN : FnOk P w K mg base CX0 1 fN fdN ["value", "limit"] (TA.spNum K)) (kN : PySem.W.keepIn K (.ref fN) = true) (bN : Binds K fdN ["value", "limit"] []) (mN : mg "is_number" = some (.ref fN)) :
    FnOk P w K mg base CX0 2 f fd ["value", "height", "width"] (spPl K) := by
  refine F.ok scPl (fun vs H Q E h => ?_) (fun cdv A outer s H vs Q E hr h => ?_)
  · obtain ⟨x, h, w, b, rfl, _⟩ := h
    rfl
  · obtain ⟨x, h, w, b, rfl, hx, k⟩ := h
    refine ⟨_, pss_cons (ps_if (PW.pt (pw_or (pt_not (pt_val (pe_callB call_isi (by rfl) T.isi (by decide +kernel) (pa_cons (pv 0) (pa_cons (pe_bltn (v := .ty "tuple") (by rfl) T.tup (by decide +kernel) rfl) pa_nil)))))
        (pw_or1 (pt_cmpR op_ne (pe_callB call_len_seq (by rfl) T.len PySem.boot_len (pa_cons (pv 0) pa_nil)) pe_int (nomark _))))) (pss_one (ps_ret pe_bl)) pss_nil)
      (pss_one (ps_ret (pe_and (pe_call GN hr rfl mN kN bN .nil pass0 (pa_cons (pe_ix ix_tup (pv 0) pe_int (fun _ _ => rfl)) (pa_cons (pe_op op_sub (pv 1) pe_int) pa_nil)))
        (pe_one (pe_call GN hr rfl mN kN bN .nil pass0 (pa_cons (pe_ix ix_tup (pv 0) pe_int (fun _ _ => rfl)) (pa_cons (pe_op op_sub (pv 2) pe_int) pa_nil))))))), ?_⟩
    cases hx with
    | two hq ka kb =>
      rename_i q a b ta tb xa ya xb yb
      refine ⟨_, rfl, _, _, _, _, true, rfl, .ty _, TA.sq_ty (.tup hq), kit_ty (TA.tup_kit true), true, rfl, iteF ?_⟩
      refine ⟨_, rfl, q, _, rfl, .inr hq, rfl, _, rfl, iteF ?_⟩
      refine ⟨_, rfl, q, _, _, _, rfl, rfl, hq, rfl, _, rfl, _, _, rfl, rfl, a, _, _, _, _, rfl, ka, _, rfl, ?_⟩
      by_cases ha : TA.isN a ((h : Int) - 1) = true
      · rw [ha] at k ⊢
        refine iteT ⟨_, rfl, q, _, _, _, rfl, rfl, hq, rfl, _, rfl, _, _, rfl, rfl, b, _, _, _, _, rfl, kb, ?_⟩
        rw [Bool.true_and] at k
        exact k
      · rw [Bool.not_eq_true] at ha
        rw [ha] at k ⊢
        exact iteF k
    | tup hq hl =>
      rename_i q xs
      refine ⟨_, rfl, _, _, _, _, true, rfl, .ty _, TA.sq_ty (.tup hq), kit_ty (TA.tup_kit true), true, rfl, iteF ?_⟩
      refine ⟨_, rfl, q, _, rfl, .inr hq, rfl, _, rfl, ?_⟩
      rw [show (!decide (V.int (xs.length : Nat) = V.int 2)) = true by
        rw [decide_eq_false]
        · rfl
        · intro z
          injection z with z
          omega]
      exact iteT k
    | other ht hk =>
      refine ⟨_, rfl, _, _, _, _, false, rfl, .ty _, ht, kit_ty hk, false, rfl, iteT (iteT k)⟩
theorem scCp : FnScope ["tray", "place"] ["tray", "place"] (defScope sCheckPlace) := ⟨rfl, rfl, rfl, by decide +kernel, rfl, by decide +kernel, by decide +kernel⟩
def spCp (K : PySem.W.Frag) (D CP : Addr) : Sp := fun vs H Q E => ∃ (p : Addr) (x : V) (h w : Nat) (g : Grid), vs = [.ref p, x] ∧ TrayAt K D H p g ∧ VG h w g ∧
  ((∃ (q : Addr) (r c : Nat), x = .ref q ∧ SqT K H q [.int r, .int c] ∧ r < h ∧ c < w ∧ Q .non H) ∨ (Plc K H h w x false ∧ E (.ref CP) none H))
theorem ok_cp {f : Addr} {fd : FuncData} (F : Fun K "check_place" "check_place" sCheckPlace f fd) (CT : ClsT K mg D) (GL : FnOk P w K mg base CX0 2 fL fdL ["value", "height", "width"] (spPl K)) (kL : PySem.W.keepIn K (.ref fL) = true) (bL : Binds K fdL ["value", "height", "width"] []) (mL : mg "is_place" = some (.ref fL))
    (PH : PropOf K D "height" pH gH) (GH : FnOk P w K mg base CX0 1 gH fdH ["self"] (spHt K D)) (bH : Binds K fdH ["self"] [])
    (PW_ : PropOf K D "width" pW gW) (GW : FnOk P w K mg base CX0 1 gW fdW ["self"] (spWd K D)) (bW : Binds K fdW ["self"] []) (X : TA.ExN K mg "InvalidPlace" CP) :
    FnOk P w K mg base (L2.CX P w) 3 f fd ["tray", "place"] (spCp K D CP) := by
  refine F.okX scCp (fun vs H Q E h => ?_) (fun cdv A outer s H vs Q E hr h => ?_)
  · obtain ⟨p, x, h, w, g, rfl, _⟩ := h
    rfl
  · obtain ⟨p, x, h, w, g, rfl, T0, hV, hx⟩ := h
    obtain ⟨dx, a, hp, hS⟩ := id T0
    refine ⟨_, pss_one (ps_if (pt_not (pt_val (pe_call GL hr rfl mL kL bL .nil pass0 (pa_cons (pv 1) (pa_cons (pe_prop (pv 0) CT.cl PH GH (hr.mono (by decide)) bH .nil pass0 rfl) (pa_cons (pe_prop (pv 0) CT.cl PW_ GW (hr.mono (by decide)) bW .nil pass0 rfl) pa_nil))))))
        (pss_one (ps_raise rfl (takes_of rfl rfl rfl rfl) (pmk_own PySem.F.excBase_ValueError X.q X.g X.k (raises_own X.s X.t) rfl))) pss_nil), ?_⟩
    refine ⟨_, rfl, _, rfl, p, dx, _, rfl, hp, p, h, w, g, rfl, T0, hV, _, rfl, p, dx, _, rfl, hp, p, h, w, g, rfl, T0, hV, x, h, w, ?_⟩
    rcases hx with ⟨q, r, c, rfl, hq, hr', hc', k⟩ | ⟨hb, k⟩
    · refine ⟨_, rfl, .two hq (TA.kn_int _) (TA.kn_int _), ?_⟩
      have e1 : TA.isN (.int r) ((h : Int) - 1) = true := by
        show (decide ((0 : Int) ≤ r) && decide ((r : Int) ≤ (h : Int) - 1)) = true
        rw [decide_eq_true (by omega), decide_eq_true (by omega)]
        rfl
      have e2 : TA.isN (.int c) ((w : Int) - 1) = true := by
        show (decide ((0 : Int) ≤ c) && decide ((c : Int) ≤ (w : Int) - 1)) = true
        rw [decide_eq_true (by omega), decide_eq_true (by omega)]
        rfl
      rw [e1, e2]
      exact ⟨true, rfl, iteF k⟩
    · exact ⟨false, rfl, hb, false, rfl, iteT k⟩
abbrev NAt : List Str := ["self", "place", "row", "column", "cell"]
theorem scAt : FnScope NAt ["self", "place"] (defScope sTrayAt) := ⟨rfl, rfl, rfl, by decide +kernel, rfl, by decide +kernel, by decide +kernel⟩
def atV (g : Grid) (r c : Nat) : V := if (g.getD r []).getD c 46 = 46 then .non else sg ((g.getD r []).getD c 46)
def spAt (K : PySem.W.Frag) (D CP : Addr) : Sp := fun vs H Q E => ∃ (p : Addr) (x : V) (h w : Nat) (g : Grid), vs = [.ref p, x] ∧ TrayAt K D H p g ∧ VG h w g ∧
  ((∃ (q : Addr) (r c : Nat), x = .ref q ∧ SqT K H q [.int r, .int c] ∧ r < h ∧ c < w ∧ Q (atV g r c) H) ∨ (Plc K H h w x false ∧ E (.ref CP) none H))
theorem ok_at {fV : Addr} {fdV : FuncData} {f : Addr} {fd : FuncData} (F : Fun K "at" "Tray.at" sTrayAt f fd) (T : TxtM K mg) (CT : ClsT K mg D)
    (GV : FnOk P w K mg base (L2.CX P w) 3 fV fdV ["tray", "place"] (spCp K D CP)) (kV : PySem.W.keepIn K (.ref fV) = true) (bV : Binds K fdV ["tray", "place"] []) (mV : mg "check_place" = some (.ref fV)) :
    FnOk P w K mg base (L2.CX P w) 4 f fd ["self", "place"] (spAt K D CP) := by
  refine F.okX scAt (fun vs H Q E h => ?_) (fun cdv A outer s H vs Q E hr h => ?_)
  · obtain ⟨p, x, h, w, g, rfl, _⟩ := h
    rfl
  · obtain ⟨p, x, h, w, g, rfl, T0, hV, hx⟩ := h
    obtain ⟨dx, a, hp, hS⟩ := id T0
    have nd := scAt.nd
    refine ⟨_, pss_cons (ps_expr (pe_call GV hr rfl mV kV bV .nil (passX (takes_of rfl rfl rfl rfl)) (pa_cons (pv 0) (pa_cons (pv 1) pa_nil))))
      (pss_cons (ps_asg (pv 1) (pg_tup (by rfl) (pgs_cons (pg_name (i := 2) nd rfl (.inl rfl)) (pgs_cons (pg_name (i := 3) nd rfl (.inl rfl)) pgs_nil))))
      (pss_cons (ps_set (i := 4) nd rfl (.inl rfl) (pe_ix ix_str (pe_ix ix_tup (pe_fld (pv 0) rfl) (pv 2) (fun _ _ => rfl)) (pv 3) (fun _ _ => rfl)))
      (pss_one (ps_ret (pe_ifExp (pt_cmpR op_eq (pv 4) (C8.pe_gc rfl T.em) (nomark _)) pe_non (pv 4)))))), ?_⟩
    refine ⟨_, rfl, _, rfl, p, x, h, w, g, rfl, T0, hV, ?_⟩
    rcases hx with ⟨q, r, c, rfl, hq, hr', hc', k⟩ | ⟨hb, k⟩
    · refine .inl ⟨q, r, c, rfl, hq, hr', hc', ?_⟩
      refine ⟨_, rfl, q, _, rfl, hq, rfl, _, _, rfl, _, _, rfl, rfl, ?_⟩
      have hrg : r < g.length := by rw [hV.rc.1]; exact hr'
      have er : g[r]? = some (g.getD r []) := by
        rw [List.getD_eq_getElem?_getD, List.getElem?_eq_getElem hrg]
        rfl
      have lr : (g.getD r []).length = w := hV.rc.2 _ (List.mem_of_getElem? er)
      have h8 := hV.m8
      unfold atV at k
      generalize g.getD r [] = row at er lr k
      have ec : row[c]? = some (row.getD c 46) := by
        rw [List.getD_eq_getElem?_getD, List.getElem?_eq_getElem (by omega)]
        rfl
      refine ⟨_, rfl, p, D, dx, _, _, rfl, hp, CT.cl, CT.nR, rfl, _, rfl, a, _, _, _, rfl, rfl, hS, atI_nat (by rw [List.getElem?_map, er]; all_goals rfl), _, rfl, S row, (c : Int), row.getD c 46, rfl, rfl, by rw [S_len]; show _ ≤ 16777216; omega, by rw [S_list]; exact atI_nat ec, ?_⟩
      generalize row.getD c 46 = z at k
      refine ⟨_, rfl, rfl, _, rfl, ?_⟩
      rw [show decide (V.str (⟨#[z]⟩ : Str) = V.str (S [46])) = (z == 46) from dL z 46]
      by_cases q46 : z = 46
      · rw [beq_iff_eq.mpr q46]
        rw [if_pos q46] at k
        exact iteT k
      · rw [beq_eq_false_iff_ne.mpr q46]
        rw [if_neg q46] at k
        exact iteF ⟨_, rfl, k⟩
    · exact .inr ⟨hb, k⟩
end
end TP
end
section
set_option Elab.async false
set_option maxRecDepth 100000
set_option linter.all false
namespace TR
open PySem PySem.Spec PyProof.Rows L2 TH
/-- D[y] = z, y a tuple, where a comprehension makes D -/
theorem put_tup {X : Cx} {pins : List (Addr × Obj)} {σ : L2.St} {H : Hp} {s : Shared} {E : Value → Shared → Prop} {D b : Addr} {kvs : List (List Key × V)} {k : List Key} {z : V} {r : Value} {Q : Unit → Shared → Prop}
    (hu : X.A.units + 1 < cLine) (I : Inv X pins σ H s) (hD : H D = some (.dT kvs)) (hb : H b = some (.tup (k.map kV))) (hz : kvs.length < sizeLine) (rz : RelV z r)
    (h : ∀ s', Inv X pins σ (upd H D (.dT (putK kvs k z))) s' → Q () s') : wpAny (model X.prog X.w) X.A (dictSet D (.ref b) r) Q E s := by
  obtain ⟨_, nsys, xs, rel, dd⟩ := dt_of I.hok hD
  have hxs : xs.length ≤ sizeLine := by
    rw [← Paired.length rel]
    omega
  have hnew : (putK kvs k z).length ≤ sizeLine := Nat.le_trans (length_putK kvs k z) hz
  refine wpAny_dictSet_heap (hsz := hxs) (Nat.lt_of_succ_lt hu) (key_of I.hok hb) dd fun hp ddp same => h _ ?_
  obtain ⟨ob, es, ep, g1, g2, g3, g4, _, g5⟩ := ddp
  have keep : ∀ c ys, H c = some (.tup ys) → (upd H D (.dT (putK kvs k z))) c = some (.tup ys) := fun c ys ec => by
    rw [upd_ne (ne_of ec hD (fun q => nomatch q))]
    exact ec
  exact d_write I (by rw [hD]; exact True.intro) same ⟨ob, g1⟩ ⟨hnew, nsys, _, (rel.put k hb rz).keeps keep, ob, es, ep, g1, g2, g3, g4, g5⟩
section
variable {X : Cx}
/-- what a turn asks: nothing is left out -/
abbrev DcTW (g : TG) (tk tv : TE) (vs : List Nat) (σ : L2.St) (J : It) (D : Addr) (W : Nat → Nat → Hp → Prop) (Qd : Hp → Prop) : Prop := ∀ i m H, W i m H →
  (J.stop i H ∧ Qd H) ∨ (J.go i H ∧ ∃ Nx : Hp → Prop, (∀ H', Nx H' → ∃ m', m' < m ∧ W (i + 1) m' H') ∧ ∀ x H', J.yld i H x H' → g x (wipe σ vs) H' fun σ2 H2 => wipe σ2 vs = wipe σ vs ∧
    tk σ2 H2 fun y H4 => tv σ2 H4 fun z H5 => ∃ kvs k b, y = .ref b ∧ H5 b = some (.tup (k.map kV)) ∧ H5 D = some (.dT kvs) ∧ kvs.length < sizeLine ∧ Nx (upd H5 D (.dT (putK kvs k z))))
def tDcT (wi : TI) (g : TG) (tk tv : TE) (vs : List Nat) : TE := fun σ H Q => wi σ H fun J H1 => ∀ D, H1 D = none → ∃ W : Nat → Nat → Hp → Prop, (∃ m, W 0 m (upd H1 D (.dT []))) ∧ DcTW g tk tv vs σ J D W (Q (.ref D))
/-- the loop in the block's own context B -/
theorem dcT_loop {B : Cx} {kx vx tg iter : Expr} {scope : Scope} {pos : Pos} {g : TG} {tk tv : TE} {vs : List Nat} {σ : L2.St} {J : It} {fp : List Addr} {it D : Addr} {tn : Nat → Heap → Prop} {W : Nat → Nat → Hp → Prop} {Qd : Hp → Prop} {R : Result → Shared → Prop} {H : Hp} {s : Shared} {m0 : Nat}
    (hu : B.A.units + 1 < cLine) (hx : ∀ b ∈ fp, b ∈ B.ex) (hpn : B.pn = []) (hxe : B.xe = fun _ _ => False) (hc : B.calm = true) (T : Turn B.prog B.w B.K tg J fp it tn) (pg : PG B tg g) (pk : PE B kx tk) (pe : PE B vx tv) (turn : DcTW g tk tv vs σ J D W Qd)
    (fin : ∀ H' s', Inv B [] (wipe σ vs) H' s' → Qd H' → R (.ok .next) s') (I : Inv B [] (wipe σ vs) H s) (st : tn 0 s.heap) (hf : ∀ b ∈ fp, H b = none) (w0 : W 0 m0 H) :
    codeAny (model B.prog B.w) B.A (.compLoop (.DictComp kx vx [⟨tg, iter, [], 0⟩] scope pos) 0 (.ref it) (.ref D) B.env) R s := by
  refine compLoop_anyD (fun m t => ∃ i H', Inv B [] (wipe σ vs) H' t ∧ tn i t.heap ∧ (∀ b ∈ fp, H' b = none) ∧ W i m H') ?_ m0 ⟨0, H, I, st, hf, w0⟩
  rintro m t ⟨i, H1, I1, st1, f1, w1⟩
  rcases turn i m H1 w1 with ⟨stop, qd⟩ | ⟨go, Nx, hNx, step⟩
  · refine thnF (T.done B rfl rfl rfl hc i [] t _ H1 (fun _ _ => False) I1 (blk_fp hx hpn I1 f1) st1 stop) fun r t2 ⟨e, I2⟩ => ?_
    rw [e]
    exact fin H1 t2 I2 qd
  · refine thnF (T.item B rfl rfl rfl hc i [] t _ H1 (fun _ _ => False) I1 (blk_fp hx hpn I1 f1) st1 go) fun r t2 ⟨u, e, more⟩ => ?_
    rw [e]
    refine thnF more fun _ t3 ⟨x, H3, I3, rx, y3, st3, f3⟩ => ?_
    have pinned := I3.pinned (blk_fp hx hpn I3 f3) (T.obj _ _ st3)
    have h4 := pg.run _ t3 _ H3 x u _ pinned rx (step x H3 y3)
    rw [hxe] at h4
    refine thnF h4 fun _ t4 ⟨σ4, H4, I4, w4, q4⟩ => ?_
    refine wpAny_tests_nil ?_
    have h5 := pk.run _ t4 σ4 H4 _ I4 q4
    rw [hxe] at h5
    show if true = true then _ else _
    rw [if_pos rfl]
    refine thnF h5 fun z t5 ⟨yk, H5, I5, r5, q5⟩ => ?_
    have h6 := pe.run _ t5 σ4 H5 _ I5 q5
    rw [hxe] at h6
    refine thnF h6 fun z2 t6 ⟨yv, H6, I6, r6, kvs, k, b, ek, hb, hD, hz, nx⟩ => ?_
    subst ek
    obtain rfl : z = Value.ref b := r5
    refine put_tup hu I6 hD hb hz r6 fun t7 I7 => ?_
    obtain ⟨m', lt, w7⟩ := hNx _ nx
    obtain ⟨k1, k2, k3⟩ := blk_turn T st3 w4 I7
    exact ⟨m', lt, i + 1, _, k1, k2, k3, w7⟩
theorem dcT_core {pins : List (Addr × Obj)} {s : Shared} {σ : L2.St} {H : Hp} {Q : VK} {kx vx tg iter : Expr} {scope : Scope} {own : List (Str × Nat)} {pos pos' : Pos} {wi : TI} {g : TG} {tk tv : TE} {use : Option (Value → Sem Unit)} {Qf : Value → Shared → Prop}
    (hu : X.A.units + 1 < cLine) (hc : X.calm = true) (hN : X.N.Nodup) (I : Inv X pins σ H s) (hi : PI X tg iter wi) (ok : BlkOk X.N X.env.scope scope own)
    (hg : ∀ (s : Shared) (H : Hp) (C : Addr) (cl : List (Str × Addr)) (fp : List Addr), PG (X.blk s H scope (compEnvC scope cl C X.env) fp) tg g)
    (hk : ∀ (s : Shared) (H : Hp) (C : Addr) (cl : List (Str × Addr)) (fp : List Addr), PE (X.blk s H scope (compEnvC scope cl C X.env) fp) kx tk)
    (he : ∀ (s : Shared) (H : Hp) (C : Addr) (cl : List (Str × Addr)) (fp : List Addr), PE (X.blk s H scope (compEnvC scope cl C X.env) fp) vx tv) (hs : ∀ x, foldedSetIterable iter X.env x = pure x)
    (h : tDcT wi g tk tv (own.map (·.2)) σ H Q)
    (hRR : ∀ D C s' m H', Inv X pins σ H' s' → Q (.ref D) H' → s'.heap.Ns C m → FpOk X pins H' C → compPost (model X.prog X.w) X.A X.xe use Qf (.ref D) C (.ok .next) s') :
    wpAny (model X.prog X.w) X.A (comprehension (.DictComp kx vx [⟨tg, iter, [], 0⟩] scope pos) scope X.env pos' newDict false (eval iter X.env) use) Qf X.xe s := by
  have known : ∀ y ∈ scope.names, y.2 = .free → ∃ c, X.env.cells.lookup y.1 = some c := fun y hy e => (ok.free y hy e).elim (fun k => I.ok.has _ (.inl k)) fun k => I.ok.has _ (.inr k)
  refine wpAny_comprehension_free (use := use) rfl hs (closure_ok known) ok.kind (fun y hy e => by rw [ok.uniq y hy, e]) ?_
  refine thn (hi.run pins s σ H _ I h) fun xv s1 hx => thn hx fun itv s2 h2 => ?_
  obtain ⟨it, fp, tn, J, H2, rfl, I2, T, st2, f2, q⟩ := h2
  refine wpAny_newObj_type (newEnv_comp ?_)
  have free2 : H2 s2.heap.objs.size = none := I2.hok.fresh (Nat.le_refl _)
  have below : ∀ b ∈ fp, b < s2.heap.objs.size := fun b hb => by
    obtain ⟨o, e, _⟩ := T.obj _ _ st2 b hb
    exact Heap.lt_size e
  have laid3 : Inv X pins σ (upd H2 s2.heap.objs.size (.dT [])) { s2 with heap := s2.heap.push { cls := .type "dict", data := .dict #[] } } :=
    I2.laid (t' := s2.toks) (fun b o e => Heap.get?_push_of_some _ e) (Nat.le_refl _) (dt_empty s2.heap I2.big)
  have st3 : tn 0 (s2.heap.push { cls := .type "dict", data := .dict #[] }) := T.keep _ _ _ st2 fun b _ o e => Heap.get?_push_of_some _ e
  obtain ⟨W, ⟨m0, w0⟩, turn⟩ := q _ free2
  generalize hD : s2.heap.objs.size = D at free2 below laid3 turn w0 ⊢
  generalize hH3 : upd H2 D (.dT []) = H3 at laid3 w0
  have f3 : ∀ b ∈ fp, FpOk X pins H3 b ∧ b < ({ s2 with heap := s2.heap.push { cls := .type "dict", data := .dict #[] } } : Shared).heap.objs.size := fun b hb => by
    have lt := below b hb
    refine ⟨⟨?_, (f2 b hb).2⟩, ?_⟩
    · rw [← hH3, upd_ne (Nat.ne_of_lt lt)]
      exact (f2 b hb).1
    · show b < (s2.heap.push _).objs.size
      rw [Heap.size_push, hD]
      exact Nat.lt_succ_of_lt lt
  generalize hs3 : ({ s2 with heap := s2.heap.push { cls := .type "dict", data := .dict #[] } } : Shared) = s3 at laid3 f3
  have h3 : s2.heap.push { cls := .type "dict", data := .dict #[] } = s3.heap := by rw [← hs3]
  rw [h3] at st3
  have I4 := block_start laid3 ok hN f3
  have st4 : tn 0 (pushCells (s3.heap.push { cls := .type "dict", data := .dict #[] }) scope.names) := T.keep _ _ _ st3 fun b _ o e => pushCells_keeps _ _ _ _ (Heap.get?_push_of_some _ e)
  show codeAny _ _ (.compStart (.DictComp kx vx [⟨tg, iter, [], 0⟩] scope pos) 0 (.ref it) (.ref D) (blkE X scope s3)) (compPost (model X.prog X.w) X.A X.xe use Qf (.ref D) s3.heap.objs.size) { s3 with heap := pushCells (s3.heap.push { cls := .type "dict", data := .dict #[] }) scope.names }
  have loop : codeAny (model X.prog X.w) X.A (.compLoop (.DictComp kx vx [⟨tg, iter, [], 0⟩] scope pos) 0 (.ref it) (.ref D) (blkE X scope s3)) (compPost (model X.prog X.w) X.A X.xe use Qf (.ref D) s3.heap.objs.size) { s3 with heap := pushCells (s3.heap.push { cls := .type "dict", data := .dict #[] }) scope.names } := by
    refine dcT_loop (B := X.blk s3 H3 scope (blkE X scope s3) fp) (J := J) (Qd := Q (.ref D)) (W := W) (vs := own.map (·.2)) (σ := σ) hu (fun b hb => hb) rfl rfl hc T (hg _ _ _ _ _) (hk _ _ _ _ _) (he _ _ _ _ _) turn ?_ I4 st4 (fun b hb => (f3 b hb).1.1) w0
    intro H' s' J' qd
    have back : Inv X pins σ H' s' := laid3.call' (ch := fp) J'.os J'.base J'.hok J'.bare fun b hb => ⟨(f3 b hb).1.2.2.2.1, (f3 b hb).1.2.1, (f3 b hb).1.2.2.2.2.1, (f3 b hb).1.2.2.2.2.2⟩
    obtain ⟨m, hm, _⟩ := J'.loc
    exact hRR D s3.heap.objs.size s' m H' back qd hm (laid3.fpOk (Nat.le_refl _) J'.free)
  exact codeAny_compStart_dict loop (T.self X.A 0 _ _ _ st4 loop)
/-- {k: v for x in xs}, k a tuple -/
theorem pe_dcT {kx vx tg iter : Expr} {scope : Scope} {own : List (Str × Nat)} {pos : Pos} {wi : TI} {g : TG} {tk tv : TE} (hu : X.A.units + 1 < cLine) (hc : X.calm = true) (hN : X.N.Nodup) (hi : PI X tg iter wi) (ok : BlkOk X.N X.env.scope scope own)
    (hg : ∀ (s : Shared) (H : Hp) (C : Addr) (cl : List (Str × Addr)) (fp : List Addr), PG (X.blk s H scope (compEnvC scope cl C X.env) fp) tg g)
    (hk : ∀ (s : Shared) (H : Hp) (C : Addr) (cl : List (Str × Addr)) (fp : List Addr), PE (X.blk s H scope (compEnvC scope cl C X.env) fp) kx tk)
    (he : ∀ (s : Shared) (H : Hp) (C : Addr) (cl : List (Str × Addr)) (fp : List Addr), PE (X.blk s H scope (compEnvC scope cl C X.env) fp) vx tv) (hs : ∀ x, foldedSetIterable iter X.env x = pure x := by intro _; rfl) :
    PE X (.DictComp kx vx [⟨tg, iter, [], 0⟩] scope pos) (tDcT wi g tk tv (own.map (·.2))) := by
  refine ⟨fun pins s σ H Q I h => ?_⟩
  rw [arm_eval_DictComp]
  refine dcT_core hu hc hN I hi ok hg hk he hs h fun D C s' m H' I' q hns f => ⟨m, hns, fun h2 sb => ?_⟩
  obtain ⟨a0, a1, _, a3, a4, a5⟩ := f
  exact ⟨.ref D, H', I'.turned (t' := s'.toks) (fun b o hb e => (sb.2 b hb).trans e) a0 a1 a3 a4 a5, rfl, q⟩
/-- over a text -/
theorem dcT_it {J : It} {N : Nat} {G : Hp → Prop} {Y : Nat → Hp → V → Hp → Prop} {g : TG} {tk tv : TE} {vs : List Nat} {σ : L2.St} {H1 : Hp} {D : Addr} {Qd : Hp → Prop} (Wk : Walk J N G Y) (Pv : Nat → Hp → Prop) (h0 : Pv 0 (upd H1 D (.dT []))) (hl : ∀ i H, i ≤ N → Pv i H → G H)
    (hs : ∀ i x H H', i < N → Pv i H → Y i H x H' → g x (wipe σ vs) H' fun σ2 H2 => wipe σ2 vs = wipe σ vs ∧
      tk σ2 H2 fun y H4 => tv σ2 H4 fun z H5 => ∃ kvs k b, y = .ref b ∧ H5 b = some (.tup (k.map kV)) ∧ H5 D = some (.dT kvs) ∧ kvs.length < sizeLine ∧ Pv (i + 1) (upd H5 D (.dT (putK kvs k z)))) (hd : ∀ H, Pv N H → Qd H) :
    ∃ W : Nat → Nat → Hp → Prop, (∃ m, W 0 m (upd H1 D (.dT []))) ∧ DcTW g tk tv vs σ J D W Qd := by
  refine ⟨fun i m H => m = N - i ∧ i ≤ N ∧ Pv i H, ⟨N, by simp, Nat.zero_le _, h0⟩, ?_⟩
  rintro i m H ⟨rfl, hi, p⟩
  rcases Nat.lt_or_ge i N with q | q
  · refine .inr ⟨Wk.goes i H q (hl i H hi p), Pv (i + 1), fun H' p' => ⟨N - (i + 1), by omega, rfl, q, p'⟩, fun x H' y => ?_⟩
    exact hs i x H H' q p (Wk.yields i H x H' q (hl i H hi p) y)
  · have : i = N := by omega
    subst this
    exact .inl ⟨Wk.stops H (hl i H hi p), hd H p⟩
end
end TR
end
namespace TM
end TM
section
set_option maxHeartbeats 4000000
set_option linter.all false
namespace TM
def cell (G : Grid) (i j : Nat) : Nat := (G.getD i []).getD j 0
def putc (G : Grid) (i j v : Nat) : Grid := G.set i ((G.getD i []).set j v)
theorem getD_at {G : Grid} {i : Nat} (h : i < G.length) : G[i]? = some (G.getD i []) := by
  rw [List.getD_eq_getElem?_getD, List.getElem?_eq_getElem h]
  rfl
theorem getD_len {h w i : Nat} {G : Grid} (R : Rect h w G) (hi : i < h) : (G.getD i []).length = w := R.2 _ (List.mem_of_getElem? (getD_at (by rw [R.1]; exact hi)))
theorem put_rect {h w i j v : Nat} {G : Grid} (R : Rect h w G) : Rect h w (putc G i j v) := by
  by_cases q : i < G.length
  · refine ⟨by unfold putc; rw [List.length_set]; exact R.1, fun r hr => ?_⟩
    unfold putc at hr
    rcases List.mem_or_eq_of_mem_set hr with h1 | h1
    · exact R.2 r h1
    · subst h1
      rw [List.length_set]
      exact R.2 _ (List.mem_of_getElem? (getD_at q))
  · have : putc G i j v = G := by unfold putc; exact List.set_eq_of_length_le (by omega)
    rw [this]
    exact R
theorem getD_set_same {α : Type} {l : List α} {i : Nat} {x d : α} (h : i < l.length) : (l.set i x).getD i d = x := by
  rw [List.getD_eq_getElem?_getD, List.getElem?_set_self h]
  rfl
/-- along a column: the grid turned -/
theorem tr_cell {h w i j : Nat} {G : Grid} (R : Rect h w G) (hi : i < h) (hj : j < w) : cell (tr w G) j i = cell G i j := by
  unfold cell
  rw [List.getD_eq_getElem?_getD (l := tr w G), tr_get hj]
  show (G.map fun r => r.getD j 46).getD i 0 = _
  rw [List.getD_eq_getElem?_getD, List.getElem?_map, getD_at (by rw [R.1]; exact hi)]
  show (G.getD i []).getD j 46 = _
  have hl := getD_len R hi
  generalize G.getD i [] = l at hl ⊢
  rw [List.getD_eq_getElem?_getD, List.getD_eq_getElem?_getD, List.getElem?_eq_getElem (show j < l.length by omega)]
  rfl
theorem cell_ext {h w : Nat} {A B : Grid} (RA : Rect h w A) (RB : Rect h w B) (e : ∀ i j, i < h → j < w → cell A i j = cell B i j) : A = B := by
  refine List.ext_getElem? fun i => ?_
  by_cases hi : i < h
  · rw [getD_at (by rw [RA.1]; exact hi), getD_at (by rw [RB.1]; exact hi)]
    refine congrArg some (List.ext_getElem? fun j => ?_)
    have la := getD_len RA hi
    have lb := getD_len RB hi
    by_cases hj : j < w
    · have := e i j hi hj
      unfold cell at this
      rw [List.getD_eq_getElem?_getD, List.getD_eq_getElem?_getD (l := B.getD i []), List.getElem?_eq_getElem (show j < (A.getD i []).length by omega), List.getElem?_eq_getElem (show j < (B.getD i []).length by omega)] at this
      rw [List.getElem?_eq_getElem (show j < (A.getD i []).length by omega), List.getElem?_eq_getElem (show j < (B.getD i []).length by omega)]
      exact congrArg some this
    · rw [List.getElem?_eq_none_iff.mpr (show (A.getD i []).length ≤ j by omega), List.getElem?_eq_none_iff.mpr (show (B.getD i []).length ≤ j by omega)]
  · rw [List.getElem?_eq_none_iff.mpr (by have := RA.1; omega), List.getElem?_eq_none_iff.mpr (by have := RB.1; omega)]
theorem put_cell {h w i j v i' j' : Nat} {G : Grid} (R : Rect h w G) (hi : i < h) (hj : j < w) (hi' : i' < h) (hj' : j' < w) : cell (putc G i j v) i' j' = if i' = i ∧ j' = j then v else cell G i' j' := by
  have hG : i < G.length := by rw [R.1]; exact hi
  have hl := getD_len R hi
  unfold cell putc
  by_cases e : i' = i
  · subst e
    rw [getD_set_same hG]
    by_cases e2 : j' = j
    · subst e2
      rw [if_pos ⟨rfl, rfl⟩, getD_set_same (by omega)]
    · rw [if_neg fun z => e2 z.2, List.getD_eq_getElem?_getD (l := List.set _ _ _), List.getElem?_set_ne (fun z => e2 z.symm), ← List.getD_eq_getElem?_getD]
  · rw [if_neg fun z => e z.1, List.getD_eq_getElem?_getD (l := G.set i _), List.getElem?_set_ne (fun z => e z.symm), ← List.getD_eq_getElem?_getD]
theorem map_rect {h w : Nat} {f : List Nat → List Nat} {G : Grid} (R : Rect h w G) (hf : ∀ l, (f l).length = l.length) : Rect h w (G.map f) := by
  refine ⟨by rw [List.length_map]; exact R.1, fun r hr => ?_⟩
  obtain ⟨l, hl, rfl⟩ := List.mem_map.mp hr
  rw [hf]
  exact R.2 l hl
end TM
end
section
set_option maxHeartbeats 4000000
set_option linter.all false
namespace TM
/-- other signs for the marbles -/
structure Sig (f : Nat → Nat) : Prop where
  z : f 46 = 46
  nz : ∀ c, c ≠ 46 → f c ≠ 46
abbrev rel (f : Nat → Nat) (g : Grid) : Grid := g.map (List.map f)
theorem mb_map {f : Nat → Nat} (s : Sig f) : ∀ l : List Nat, mb (l.map f) = (mb l).map f
  | [] => rfl
  | x :: l => by
    by_cases h : x = 46
    · subst h
      have e1 : mb (46 :: l) = mb l := by simp [mb]
      have e2 : mb (f 46 :: l.map f) = mb (l.map f) := by rw [s.z]; simp [mb]
      rw [List.map_cons, e1, e2, mb_map s l]
    · have e1 : mb (x :: l) = x :: mb l := by simp [mb, h]
      have e2 : mb (f x :: l.map f) = f x :: mb (l.map f) := by simp [mb, s.nz x h]
      rw [List.map_cons, e1, e2, mb_map s l, List.map_cons]
theorem sl_map {f : Nat → Nat} (s : Sig f) (b : Bool) (l : List Nat) : sl b (l.map f) = (sl b l).map f := by
  have e := mb_map s l
  have d : ∀ n, dots n = (dots n).map f := fun n => by simp [dots, s.z]
  unfold sl
  rw [e, List.length_map, List.length_map]
  cases b with
  | true => simp only [if_true, List.map_append, ← d]
  | false => simp only [Bool.false_eq_true, if_false, List.map_append, ← d]
theorem lt_rel {f : Nat → Nat} (s : Sig f) (b : Bool) (g : Grid) : LT b (rel f g) = rel f (LT b g) := by
  show (g.map (List.map f)).map (sl b) = (g.map (sl b)).map (List.map f)
  rw [List.map_map, List.map_map]
  exact List.map_congr_left fun l _ => sl_map s b l
theorem tr_rel {f : Nat → Nat} (s : Sig f) (m : Nat) (g : Grid) : tr m (rel f g) = rel f (tr m g) := by
  show (List.range m).map _ = ((List.range m).map _).map (List.map f)
  rw [List.map_map]
  refine List.map_congr_left fun j _ => ?_
  show (g.map (List.map f)).map (fun r => r.getD j 46) = (g.map fun r => r.getD j 46).map f
  rw [List.map_map, List.map_map]
  refine List.map_congr_left fun r _ => ?_
  show (r.map f).getD j 46 = f (r.getD j 46)
  rw [List.getD_eq_getElem?_getD, List.getD_eq_getElem?_getD, List.getElem?_map]
  cases r[j]? with
  | none => exact s.z.symm
  | some x => rfl
theorem tilt_rel {f : Nat → Nat} (s : Sig f) (n m c : Nat) (g : Grid) : tilt n m (rel f g) c = rel f (tilt n m g c) := by
  unfold tilt UT
  split
  · exact lt_rel s _ g
  · rw [tr_rel s, lt_rel s, tr_rel s]
theorem tilts_rel {f : Nat → Nat} (s : Sig f) (n m : Nat) : ∀ (t : List Nat) (g : Grid), tilts n m t (rel f g) = rel f (tilts n m t g)
  | [], _ => rfl
  | c :: t, g => by
    show tilts n m t (tilt n m (rel f g) c) = _
    rw [tilt_rel s, tilts_rel s n m t]
    rfl
theorem snoc_ind {p : List Nat → Prop} (h0 : p []) (hs : ∀ t c, p t → p (t ++ [c])) (t : List Nat) : p t := by
  have : ∀ l : List Nat, p l.reverse := fun l => by
    induction l with
    | nil => exact h0
    | cons c l ih => rw [List.reverse_cons]; exact hs _ c ih
  have h := this t.reverse
  rw [List.reverse_reverse] at h
  exact h
theorem lt_still {a o : Bool} {n m : Nat} {g : Grid} (R : Rect n m g) (h : UT a n m g = g) : UT a n m (LT o g) = LT o g := by
  have := ulu (a := a) (o := o) R
  rw [h] at this
  exact this
theorem ut_still {a o : Bool} {n m : Nat} {g : Grid} (R : Rect n m g) (h : LT a g = g) : LT a (UT o n m g) = UT o n m g := by
  have := lul (a := a) (o := o) R
  rw [h] at this
  exact this
/-- the last tilt along rows, along columns: to the beginning -/
def lastH (t : List Nat) : Option Bool := ((t.filter isH).getLast?).map (· == 108)
def lastV (t : List Nat) : Option Bool := ((t.filter fun c => !isH c).getLast?).map (· == 117)
theorem lastH_snoc (t : List Nat) (c : Nat) : lastH (t ++ [c]) = if isH c then some (c == 108) else lastH t := by
  unfold lastH
  rw [List.filter_append]
  by_cases h : isH c = true
  · rw [if_pos h]; simp [h]
  · rw [if_neg h]; simp [h]
theorem lastV_snoc (t : List Nat) (c : Nat) : lastV (t ++ [c]) = if isH c then lastV t else some (c == 117) := by
  unfold lastV
  rw [List.filter_append]
  by_cases h : isH c = true
  · rw [if_pos h]; simp [h]
  · rw [if_neg h]; simp [h]
theorem tilt_H {n m c : Nat} {g : Grid} (h : isH c = true) : tilt n m g c = LT (c == 108) g := if_pos h
theorem tilt_V {n m c : Nat} {g : Grid} (h : ¬ isH c = true) : tilt n m g c = UT (c == 117) n m g := if_neg h
theorem still {n m : Nat} {g : Grid} (R : Rect n m g) (t : List Nat) : (∀ b, lastH t = some b → LT b (tilts n m t g) = tilts n m t g) ∧ ∀ b, lastV t = some b → UT b n m (tilts n m t g) = tilts n m t g := by
  refine snoc_ind (p := fun t => (∀ b, lastH t = some b → LT b (tilts n m t g) = tilts n m t g) ∧ ∀ b, lastV t = some b → UT b n m (tilts n m t g) = tilts n m t g) ⟨fun b h => by simp [lastH] at h, fun b h => by simp [lastV] at h⟩ (fun t c ih => ?_) t
  · have R2 := tilts_rect t R
    rw [tilts_snoc, lastH_snoc, lastV_snoc]
    by_cases h : isH c = true
    · rw [if_pos h, if_pos h, tilt_H h]
      refine ⟨fun b e => ?_, fun b e => lt_still R2 (ih.2 b e)⟩
      cases e
      exact lt_lt _ _ _
    · rw [if_neg h, if_neg h, tilt_V h]
      refine ⟨fun b e => ut_still R2 (ih.1 b e), fun b e => ?_⟩
      cases e
      exact ut_ut R2
def Bin (g : Grid) : Prop := ∀ r ∈ g, ∀ c ∈ r, c = 46 ∨ c = 97
theorem bin_mb {l : List Nat} (h : ∀ c ∈ l, c = 46 ∨ c = 97) : mb l = List.replicate (mb l).length 97 := by
  refine List.eq_replicate_iff.mpr ⟨rfl, fun c hc => ?_⟩
  have := List.mem_filter.mp hc
  rcases h c this.1 with e | e
  · rw [e] at this; simp at this
  · exact e
theorem bin_rev {s : Bool} {l : List Nat} (hb : ∀ c ∈ l, c = 46 ∨ c = 97) (h : sl s l = l) : sl (!s) l = l.reverse := by
  have e := bin_mb hb
  cases s with
  | true =>
    simp only [sl, if_true] at h
    simp only [sl, Bool.not_true, Bool.false_eq_true, if_false]
    conv => rhs; rw [← h]
    rw [List.reverse_append, e]
    simp [dots]
  | false =>
    simp only [sl, Bool.false_eq_true, if_false] at h
    simp only [sl, Bool.not_false, if_true]
    conv => rhs; rw [← h]
    rw [List.reverse_append, e]
    simp [dots]
abbrev MH (g : Grid) : Grid := g.map List.reverse
theorem lt_mirror {s b : Bool} {g : Grid} (hb : Bin g) (h : LT s g = g) : LT b g = if b = s then g else MH g := by
  by_cases q : b = s
  · rw [if_pos q, q, h]
  · rw [if_neg q]
    have e : b = !s := by cases b <;> cases s <;> simp_all
    subst e
    refine List.map_congr_left fun l hl => bin_rev (hb l hl) ?_
    unfold LT at h
    obtain ⟨i, hi, rfl⟩ := List.mem_iff_getElem.mp hl
    have h2 := congrArg (fun g => g[i]?) h
    simp only [List.getElem?_map, List.getElem?_eq_getElem hi] at h2
    exact Option.some.inj h2
theorem rev_cell {h w i j : Nat} {g : Grid} (R : Rect h w g) (hi : i < h) (hj : j < w) : cell (MH g) i j = cell g i (w - 1 - j) := by
  have hg : i < g.length := by rw [R.1]; exact hi
  have hl := getD_len R hi
  unfold cell
  have e : (MH g).getD i [] = (g.getD i []).reverse := by
    rw [List.getD_eq_getElem?_getD, List.getElem?_map, getD_at hg]
    rfl
  rw [e]
  generalize g.getD i [] = l at hl ⊢
  rw [List.getD_eq_getElem?_getD, List.getElem?_reverse (by omega), List.getD_eq_getElem?_getD, hl]
theorem vrev_cell {h w i j : Nat} {g : Grid} (R : Rect h w g) (hi : i < h) (_hj : j < w) : cell g.reverse i j = cell g (h - 1 - i) j := by
  unfold cell
  rw [List.getD_eq_getElem?_getD (l := g.reverse), List.getElem?_reverse (by rw [R.1]; exact hi), R.1, ← List.getD_eq_getElem?_getD]
theorem mh_rect {h w : Nat} {g : Grid} (R : Rect h w g) : Rect h w (MH g) := map_rect R fun l => List.length_reverse
theorem mv_rect {h w : Nat} {g : Grid} (R : Rect h w g) : Rect h w g.reverse := ⟨by rw [List.length_reverse]; exact R.1, fun r hr => R.2 r (List.mem_reverse.mp hr)⟩
theorem tr_mh {h w : Nat} {g : Grid} (R : Rect h w g) : tr w (MH g) = (tr w g).reverse := by
  refine cell_ext (tr_rect (mh_rect R)) (mv_rect (tr_rect R)) fun i j hi hj => ?_
  rw [tr_cell (mh_rect R) hj hi, rev_cell R hj hi, vrev_cell (tr_rect R) hi hj, tr_cell R hj (by omega)]
theorem tr_mv {h w : Nat} {g : Grid} (R : Rect h w g) : tr w g.reverse = MH (tr w g) := by
  refine cell_ext (tr_rect (mv_rect R)) (mh_rect (tr_rect R)) fun i j hi hj => ?_
  rw [tr_cell (mv_rect R) hj hi, vrev_cell R hj hi, rev_cell (tr_rect R) hi hj, tr_cell R (by omega) hi]
theorem lt_mv (s : Bool) (g : Grid) : LT s g.reverse = (LT s g).reverse := List.map_reverse ..
theorem ut_mh {s : Bool} {h w : Nat} {g : Grid} (R : Rect h w g) : UT s h w (MH g) = MH (UT s h w g) := by
  unfold UT
  rw [tr_mh R, lt_mv, tr_mv (lt_rect (tr_rect R))]
theorem bin_tr {h w : Nat} {g : Grid} (R : Rect h w g) (hb : Bin g) : Bin (tr w g) := by
  intro r hr c hc
  obtain ⟨j, hj, rfl⟩ := List.mem_map.mp hr
  obtain ⟨l, hl, rfl⟩ := List.mem_map.mp hc
  have hj := List.mem_range.mp hj
  have ll := R.2 l hl
  rw [List.getD_eq_getElem?_getD, List.getElem?_eq_getElem (by omega)]
  exact hb l hl _ (List.getElem_mem _)
theorem ut_mirror {s b : Bool} {h w : Nat} {g : Grid} (R : Rect h w g) (hb : Bin g) (hs : UT s h w g = g) : UT b h w g = if b = s then g else g.reverse := by
  have hs' : LT s (tr w g) = tr w g := by
    have e := congrArg (tr w) hs
    unfold UT at e
    rw [tr_tr (lt_rect (tr_rect R))] at e
    exact e
  unfold UT
  rw [lt_mirror (bin_tr R hb) hs']
  by_cases q : b = s
  · rw [if_pos q, if_pos q, tr_tr R]
  · rw [if_neg q, if_neg q, tr_mh (tr_rect R), tr_tr R]
/-- where both kinds of tilts leave a heap of two signs, they do not mind each other -/
theorem lt_ut {v h s b : Bool} {n m : Nat} {g : Grid} (R : Rect n m g) (hb : Bin g) (hv : UT v n m g = g) (hh : LT h g = g) : LT s (UT b n m g) = UT b n m (LT s g) := by
  rw [ut_mirror R hb hv, lt_mirror (b := s) hb hh]
  by_cases q : b = v
  · rw [if_pos q, q]
    by_cases q2 : s = h
    · rw [if_pos q2, q2, hh, hv]
    · rw [if_neg q2, ut_mh R, hv, lt_mirror hb hh, if_neg q2]
  · rw [if_neg q, lt_mv, lt_mirror hb hh]
    by_cases q2 : s = h
    · rw [if_pos q2, ut_mirror R hb hv, if_neg q]
    · rw [if_neg q2, ut_mh R, ut_mirror R hb hv, if_neg q]
      exact (List.map_reverse ..).symm
theorem bin_lt {s : Bool} {g : Grid} (hb : Bin g) : Bin (LT s g) := by
  intro r hr c hc
  obtain ⟨l, hl, rfl⟩ := List.mem_map.mp hr
  have : c = 46 ∨ c ∈ l := by
    cases s with
    | true =>
      rcases List.mem_append.mp hc with h | h
      · exact .inr (List.mem_filter.mp h).1
      · exact .inl (List.mem_replicate.mp h).2
    | false =>
      rcases List.mem_append.mp hc with h | h
      · exact .inl (List.mem_replicate.mp h).2
      · exact .inr (List.mem_filter.mp h).1
  rcases this with h | h
  · exact .inl h
  · exact hb l hl c h
theorem bin_tilt {n m c : Nat} {g : Grid} (R : Rect n m g) (hb : Bin g) : Bin (tilt n m g c) := by
  unfold tilt
  split
  · exact bin_lt hb
  · exact bin_tr (lt_rect (tr_rect R)) (bin_lt (bin_tr R hb))
theorem bin_tilts {n m : Nat} : ∀ (t : List Nat) {g : Grid}, Rect n m g → Bin g → Bin (tilts n m t g)
  | [], _, _, hb => hb
  | _ :: t, _, R, hb => bin_tilts t (tilt_rect R) (bin_tilt R hb)
theorem goes {v h : Bool} {n m : Nat} {g : Grid} (R : Rect n m g) (hb : Bin g) (hv : UT v n m g = g) (hh : LT h g = g) (t : List Nat) : tilts n m t g = UT ((lastV t).getD v) n m (LT ((lastH t).getD h) g) := by
  refine snoc_ind (p := fun t => tilts n m t g = UT ((lastV t).getD v) n m (LT ((lastH t).getD h) g)) ?_ (fun t c ih => ?_) t
  · show g = UT v n m (LT h g)
    rw [hh, hv]
  · rw [tilts_snoc, ih, lastH_snoc, lastV_snoc]
    by_cases q : isH c = true
    · rw [if_pos q, if_pos q, tilt_H q]
      show LT (c == 108) _ = UT _ n m (LT (c == 108) g)
      rw [← lt_ut R hb hv hh, lt_lt, lt_ut R hb hv hh]
    · rw [if_neg q, if_neg q, tilt_V q]
      show UT (c == 117) n m _ = UT (c == 117) n m _
      exact ut_ut (lt_rect R)
end TM
end
section
set_option maxHeartbeats 4000000
set_option linter.all false
namespace TM
def occ (c : Nat) : Nat := if c = 46 then 46 else 97
theorem occ_sig : Sig occ := ⟨rfl, fun c h => by unfold occ; rw [if_neg h]; decide⟩
theorem occ_bin (g : Grid) : Bin (rel occ g) := by
  intro r hr c hc
  obtain ⟨l, _, rfl⟩ := List.mem_map.mp hr
  obtain ⟨x, _, rfl⟩ := List.mem_map.mp hc
  unfold occ
  split
  · exact .inl rfl
  · exact .inr rfl
theorem rel_rect {f : Nat → Nat} {n m : Nat} {g : Grid} (R : Rect n m g) : Rect n m (rel f g) := map_rect R fun l => List.length_map ..
theorem lastH_none {t : List Nat} (h : lastH t = none) : ∀ c ∈ t, isH c = false := fun c hc => by
  unfold lastH at h
  rw [Option.map_eq_none_iff, List.getLast?_eq_none_iff, List.filter_eq_nil_iff] at h
  have := h c hc
  simpa using this
theorem lastV_none {t : List Nat} (h : lastV t = none) : ∀ c ∈ t, isH c = true := fun c hc => by
  unfold lastV at h
  rw [Option.map_eq_none_iff, List.getLast?_eq_none_iff, List.filter_eq_nil_iff] at h
  have := h c hc
  simpa using this
theorem all_H {n m : Nat} (g : Grid) (t : List Nat) : (∀ c ∈ t, isH c = true) → tilts n m t g = match lastH t with
    | some b => LT b g
    | none => g := by
  refine snoc_ind (p := fun t => (∀ c ∈ t, isH c = true) → tilts n m t g = match lastH t with
    | some b => LT b g
    | none => g) (fun _ => rfl) (fun t c ih h => ?_) t
  have hc := h c (by simp)
  rw [tilts_snoc, ih fun d hd => h d (List.mem_append_left _ hd), lastH_snoc, if_pos hc, tilt_H hc]
  cases lastH t with
  | none => rfl
  | some b => exact lt_lt _ _ _
theorem all_V {n m : Nat} {g : Grid} (R : Rect n m g) (t : List Nat) : (∀ c ∈ t, isH c = false) → tilts n m t g = match lastV t with
    | some b => UT b n m g
    | none => g := by
  refine snoc_ind (p := fun t => (∀ c ∈ t, isH c = false) → tilts n m t g = match lastV t with
    | some b => UT b n m g
    | none => g) (fun _ => rfl) (fun t c ih h => ?_) t
  have hc : ¬ isH c = true := by rw [h c (by simp)]; exact Bool.false_ne_true
  rw [tilts_snoc, ih fun d hd => h d (List.mem_append_left _ hd), lastV_snoc, if_neg hc, tilt_V hc]
  cases lastV t with
  | none => rfl
  | some b => exact ut_ut R
/-- a second round leaves the shape -/
theorem twice_bin {n m : Nat} {g : Grid} (R : Rect n m g) (hb : Bin g) (t : List Nat) : tilts n m t (tilts n m t g) = tilts n m t g := by
  have S := still R t
  have R2 := tilts_rect t R
  cases eh : lastH t with
  | none =>
    have a := lastH_none eh
    rw [all_V R2 t a, all_V R t a]
    cases lastV t with
    | none => rfl
    | some b => exact ut_ut R
  | some h =>
    cases ev : lastV t with
    | none =>
      have a := lastV_none ev
      rw [all_H _ t a, all_H _ t a, eh]
      exact lt_lt _ _ _
    | some v =>
      have sh := S.1 h eh
      have sv := S.2 v ev
      rw [goes R2 (bin_tilts t R hb) sv sh t, eh, ev]
      show UT v n m (LT h _) = _
      rw [sh, sv]
theorem twice_occ {n m : Nat} {g : Grid} (R : Rect n m g) (t : List Nat) : rel occ (tilts n m t (tilts n m t g)) = rel occ (tilts n m t g) := by
  rw [← tilts_rel occ_sig, ← tilts_rel occ_sig]
  exact twice_bin (rel_rect R) (occ_bin g) t
/-- signs told by places -/
theorem find_sig : ∀ (a b : List Nat), a.map occ = b.map occ → (mb a).Nodup → ∃ f, Sig f ∧ b = a.map f
  | [], [], _, _ => ⟨id, ⟨rfl, fun _ h => h⟩, rfl⟩
  | [], _ :: _, h, _ => by cases h
  | _ :: _, [], h, _ => by cases h
  | x :: a, y :: b, h, nd => by
    rw [List.map_cons, List.map_cons] at h
    injection h with h1 h2
    by_cases hx : x = 46
    · subst hx
      have hy : y = 46 := by
        by_cases q : y = 46
        · exact q
        · unfold occ at h1
          rw [if_pos rfl, if_neg q] at h1
          cases h1
      have e : mb (46 :: a) = mb a := by simp [mb]
      rw [e] at nd
      obtain ⟨f, s, hf⟩ := find_sig a b h2 nd
      exact ⟨f, s, by rw [List.map_cons, s.z, ← hf, hy]⟩
    · have hy : y ≠ 46 := fun q => by
        unfold occ at h1
        rw [if_neg hx, if_pos q] at h1
        cases h1
      have e : mb (x :: a) = x :: mb a := by simp [mb, hx]
      rw [e] at nd
      have nd' := List.nodup_cons.mp nd
      obtain ⟨f, s, hf⟩ := find_sig a b h2 nd'.2
      refine ⟨fun c => if c = x then y else f c, ⟨?_, fun c hc => ?_⟩, ?_⟩
      · show (if 46 = x then y else f 46) = 46
        rw [if_neg (fun z => hx z.symm)]
        exact s.z
      · show (if c = x then y else f c) ≠ 46
        split
        · exact hy
        · exact s.nz c hc
      · rw [List.map_cons]
        show y :: b = (if x = x then y else f x) :: _
        rw [if_pos rfl, hf]
        congr 1
        refine List.map_congr_left fun c hc => ?_
        show f c = if c = x then y else f c
        rw [if_neg]
        intro z
        subst z
        exact nd'.1 (List.mem_filter.mpr ⟨hc, by simp [hx]⟩)
theorem rel_flat {f : Nat → Nat} : ∀ g : Grid, (rel f g).flatten = g.flatten.map f := fun g => (List.map_flatten ..).symm
theorem same_flat {n m : Nat} {a b : Grid} (ha : Rect n m a) (hb : Rect n m b) (e : a.flatten = b.flatten) : a = b := by
  refine List.eq_iff_flatten_eq.mpr ⟨e, ?_⟩
  have h1 : a.map List.length = List.replicate n m := by
    refine List.eq_replicate_iff.mpr ⟨by rw [List.length_map]; exact ha.1, fun x hx => ?_⟩
    obtain ⟨l, hl, rfl⟩ := List.mem_map.mp hx
    exact ha.2 l hl
  have h2 : b.map List.length = List.replicate n m := by
    refine List.eq_replicate_iff.mpr ⟨by rw [List.length_map]; exact hb.1, fun x hx => ?_⟩
    obtain ⟨l, hl, rfl⟩ := List.mem_map.mp hx
    exact hb.2 l hl
  rw [h1, h2]
/-- so many rounds -/
def rounds (n m : Nat) (t : List Nat) : Nat → Grid → Grid
  | 0, g => g
  | k + 1, g => tilts n m t (rounds n m t k g)
/-- the exchange of signs after the first round -/
theorem turn_sig {n m : Nat} {t : List Nat} {g : Grid} (R : Rect n m g) (nd : (mb (tilts n m t g).flatten).Nodup) : ∃ f, Sig f ∧ tilts n m t (tilts n m t g) = rel f (tilts n m t g) := by
  have R2 := tilts_rect t R
  have R3 := tilts_rect t R2
  have e : (tilts n m t g).flatten.map occ = (tilts n m t (tilts n m t g)).flatten.map occ := by
    rw [← rel_flat, ← rel_flat, twice_occ R t]
  obtain ⟨f, s, hf⟩ := find_sig _ _ e nd
  exact ⟨f, s, same_flat R3 (rel_rect R2) (by rw [rel_flat]; exact hf)⟩
theorem rounds_rel {n m : Nat} {t : List Nat} {f : Nat → Nat} {g : Grid} (s : Sig f) (h : tilts n m t (tilts n m t g) = rel f (tilts n m t g)) : ∀ k, rounds n m t (k + 2) g = rel f (rounds n m t (k + 1) g)
  | 0 => h
  | k + 1 => by
    have e := congrArg (tilts n m t) (rounds_rel s h k)
    rw [tilts_rel s] at e
    exact e
end TM
end
section
set_option maxHeartbeats 4000000
set_option linter.all false
namespace TM
/-- what follows c: the sign in B where A has c -/
def nxt (A B : List Nat) (c : Nat) : Nat := B.getD (A.idxOf c) 46
def pw (φ : Nat → Nat) : Nat → Nat → Nat
  | 0, s => s
  | n + 1, s => φ (pw φ n s)
theorem pw_add (φ : Nat → Nat) (m s : Nat) : ∀ n, pw φ (m + n) s = pw φ m (pw φ n s) := fun n => by
  induction m with
  | zero => rw [Nat.zero_add]; rfl
  | succ m ih =>
    rw [Nat.succ_add]
    show φ (pw φ (m + n) s) = φ (pw φ m (pw φ n s))
    rw [ih]
theorem pw_mem {φ : Nat → Nat} {M : List Nat} (h : ∀ c ∈ M, φ c ∈ M) {s : Nat} (hs : s ∈ M) : ∀ n, pw φ n s ∈ M
  | 0 => hs
  | n + 1 => h _ (pw_mem h hs n)
/-- maps M to M, no two to one -/
structure Onto (φ : Nat → Nat) (M : List Nat) : Prop where
  mem : ∀ c ∈ M, φ c ∈ M
  inj : ∀ c ∈ M, ∀ d ∈ M, φ c = φ d → c = d
theorem pw_inj {φ : Nat → Nat} {M : List Nat} (O : Onto φ M) : ∀ (n : Nat) {c d : Nat}, c ∈ M → d ∈ M → pw φ n c = pw φ n d → c = d
  | 0, _, _, _, _, e => e
  | n + 1, c, d, hc, hd, e => pw_inj O n hc hd (O.inj _ (pw_mem O.mem hc n) _ (pw_mem O.mem hd n) e)
theorem few : ∀ (n : Nat) (l : List Nat), l.Nodup → (∀ c ∈ l, 97 ≤ c ∧ c < 97 + n) → l.length ≤ n
  | 0, l, _, h => by
    cases l with
    | nil => exact Nat.le_refl _
    | cons c l =>
      have := h c List.mem_cons_self
      omega
  | n + 1, l, nd, h => by
    by_cases q : (97 + n) ∈ l
    · have e := List.length_erase_of_mem q
      have ih := few n (l.erase (97 + n)) (nd.erase _) fun c hc => by
        have h1 := (List.Nodup.mem_erase_iff nd).mp hc
        have h2 := h c h1.2
        have h3 := h1.1
        omega
      omega
    · have ih := few n l nd fun c hc => by
        have h2 := h c hc
        have : c ≠ 97 + n := fun z => q (by rw [← z]; exact hc)
        omega
      omega
theorem least {p : Nat → Prop} : ∀ n, (∃ k, k ≤ n ∧ p k) → ∃ k, k ≤ n ∧ p k ∧ ∀ j, j < k → ¬ p j
  | 0, ⟨k, hk, h⟩ => by
    obtain rfl : k = 0 := by omega
    exact ⟨0, Nat.le_refl _, h, fun j hj => absurd hj (Nat.not_lt_zero _)⟩
  | n + 1, ⟨k, hk, h⟩ => by
    by_cases q : ∃ k, k ≤ n ∧ p k
    · obtain ⟨k, h1, h2, h3⟩ := least n q
      exact ⟨k, by omega, h2, h3⟩
    · have : k = n + 1 := by
        by_cases z : k ≤ n
        · exact absurd ⟨k, z, h⟩ q
        · omega
      subst this
      exact ⟨n + 1, Nat.le_refl _, h, fun j hj hp => q ⟨j, by omega, hp⟩⟩
/-- a circle's length -/
structure Ring (φ : Nat → Nat) (s L : Nat) : Prop where
  one : 1 ≤ L
  back : pw φ L s = s
  no : ∀ i, 1 ≤ i → i < L → pw φ i s ≠ s
theorem ring_ex {φ : Nat → Nat} {M : List Nat} (O : Onto φ M) (hM : ∀ c ∈ M, 97 ≤ c ∧ c < 123) {s : Nat} (hs : s ∈ M) : ∃ L, L ≤ 26 ∧ Ring φ s L := by
  have two : ∃ i j, i < j ∧ j ≤ 26 ∧ pw φ i s = pw φ j s := by
    refine Classical.byContradiction fun hn => ?_
    have nd : ((List.range 27).map fun i => pw φ i s).Nodup := by
      refine List.pairwise_map.mpr ((List.pairwise_lt_range (n := 27)).imp_of_mem fun {a b} ha hb hab => ?_)
      intro e
      exact hn ⟨a, b, hab, by have := List.mem_range.mp hb; omega, e⟩
    have := few 26 _ nd fun c hc => by
      obtain ⟨i, _, rfl⟩ := List.mem_map.mp hc
      exact hM _ (pw_mem O.mem hs i)
    rw [List.length_map, List.length_range] at this
    omega
  obtain ⟨i, j, hij, hj, e⟩ := two
  have e2 : pw φ (j - i) s = s := by
    have : j = i + (j - i) := by omega
    rw [this, pw_add] at e
    exact (pw_inj O i hs (pw_mem O.mem hs _) e).symm
  obtain ⟨k, h1, ⟨h2, h3⟩, h4⟩ := least (p := fun k => 1 ≤ k ∧ pw φ k s = s) 26 ⟨j - i, by omega, by omega, e2⟩
  exact ⟨k, h1, h2, h3, fun i hi hk e => h4 i hk ⟨hi, e⟩⟩
theorem Ring.times {φ : Nat → Nat} {s L : Nat} (a : Ring φ s L) : ∀ k, pw φ (k * L) s = s
  | 0 => by rw [Nat.zero_mul]; rfl
  | k + 1 => by
    rw [Nat.succ_mul, Nat.add_comm, pw_add, a.times k]
    exact a.back
theorem Ring.mod {φ : Nat → Nat} {s L : Nat} (a : Ring φ s L) (n : Nat) : pw φ (n % L) s = pw φ n s := by
  have e : n = n % L + (n / L) * L := by
    have := Nat.mod_add_div n L
    rw [Nat.mul_comm] at this
    omega
  conv => rhs; rw [e, pw_add, a.times]
theorem getD_some {l : List Nat} {i : Nat} (h : i < l.length) : l[i]? = some (l.getD i 46) := by
  rw [List.getD_eq_getElem?_getD, List.getElem?_eq_getElem h]
  rfl
structure Two (f : Nat → Nat) (A B : List Nat) : Prop where
  s : Sig f
  e : B = A.map f
  nd : (mb A).Nodup
  pm : (mb B).Perm (mb A)
theorem mem_mb {l : List Nat} {c : Nat} : c ∈ mb l ↔ c ∈ l ∧ c ≠ 46 := by
  unfold mb
  rw [List.mem_filter]
  simp
theorem one_place : ∀ {l : List Nat} {c i j : Nat}, (mb l).Nodup → c ≠ 46 → l[i]? = some c → l[j]? = some c → i = j
  | [], _, _, _, _, _, h, _ => by simp at h
  | x :: l, c, i, j, nd, hc, hi, hj => by
    have nd' : (mb l).Nodup := by
      by_cases q : x = 46
      · subst q
        exact nd
      · have e : mb (x :: l) = x :: mb l := by simp [mb, q]
        rw [e] at nd
        exact (List.nodup_cons.mp nd).2
    have no : x = c → c ∉ l := fun q hm => by
      subst q
      have e : mb (x :: l) = x :: mb l := by simp [mb, hc]
      rw [e] at nd
      exact (List.nodup_cons.mp nd).1 (mem_mb.mpr ⟨hm, hc⟩)
    match i, j with
    | 0, 0 => rfl
    | 0, j + 1 =>
      have h1 : x = c := by simpa using hi
      have h2 : l[j]? = some c := by simpa using hj
      exact (no h1 (List.mem_of_getElem? h2)).elim
    | i + 1, 0 =>
      have h1 : x = c := by simpa using hj
      have h2 : l[i]? = some c := by simpa using hi
      exact (no h1 (List.mem_of_getElem? h2)).elim
    | i + 1, j + 1 => rw [one_place (i := i) (j := j) nd' hc (by simpa using hi) (by simpa using hj)]
theorem idx_at {l : List Nat} {c : Nat} (h : c ∈ l) : l.idxOf c < l.length ∧ l[l.idxOf c]? = some c := by
  have h1 := List.idxOf_lt_length_of_mem h
  exact ⟨h1, by rw [List.getElem?_eq_getElem h1, List.getElem_idxOf]⟩
theorem idx_uniq {l : List Nat} {c i : Nat} (nd : (mb l).Nodup) (hc : c ≠ 46) (h : l[i]? = some c) : l.idxOf c = i :=
  one_place nd hc (idx_at (List.mem_of_getElem? h)).2 h
section
variable {f : Nat → Nat} {A B : List Nat}
theorem Two.len (T : Two f A B) : B.length = A.length := by rw [T.e, List.length_map]
theorem Two.ndB (T : Two f A B) : (mb B).Nodup := T.pm.nodup_iff.mpr T.nd
theorem Two.mbB (T : Two f A B) : mb B = (mb A).map f := by rw [T.e, mb_map T.s]
theorem Two.onto (T : Two f A B) : Onto f (mb A) := by
  have h := T.mbB
  refine ⟨fun c hc => T.pm.mem_iff.mp (by rw [h]; exact List.mem_map_of_mem hc), fun c hc d hd e => ?_⟩
  obtain ⟨i, hi⟩ := List.mem_iff_getElem?.mp hc
  obtain ⟨j, hj⟩ := List.mem_iff_getElem?.mp hd
  have nd := T.ndB
  rw [h] at nd
  have e1 : ((mb A).map f)[i]? = some (f c) := by rw [List.getElem?_map, hi]; rfl
  have e2 : ((mb A).map f)[j]? = some (f c) := by rw [List.getElem?_map, hj, e]; rfl
  obtain ⟨l1, g1⟩ := List.getElem?_eq_some_iff.mp e1
  obtain ⟨l2, g2⟩ := List.getElem?_eq_some_iff.mp e2
  have pw_ := List.pairwise_iff_getElem.mp nd
  have ij : i = j := by
    rcases Nat.lt_trichotomy i j with q | q | q
    · exact absurd (g1.trans g2.symm) (pw_ i j l1 l2 q)
    · exact q
    · exact absurd (g2.trans g1.symm) (pw_ j i l2 l1 q)
  subst ij
  rw [hi] at hj
  exact Option.some.inj hj
/-- back: the sign in A where B has c -/
theorem Two.prv (T : Two f A B) {c : Nat} (hc : c ∈ mb A) : TM.nxt B A c ∈ mb A ∧ f (TM.nxt B A c) = c ∧ A[B.idxOf c]? = some (TM.nxt B A c) ∧ A.idxOf (TM.nxt B A c) = B.idxOf c := by
  have hB := T.pm.mem_iff.mpr hc
  obtain ⟨h1, h2⟩ := idx_at (mem_mb.mp hB).1
  have hl : B.idxOf c < A.length := by rw [← T.len]; exact h1
  have e := getD_some hl
  have e2 : A[B.idxOf c]? = some (TM.nxt B A c) := e
  have e3 : f (TM.nxt B A c) = c := by
    have : B[B.idxOf c]? = some (f (TM.nxt B A c)) := by
      conv => lhs; rw [T.e]
      rw [List.getElem?_map, ← T.e, e2]
      rfl
    rw [h2] at this
    exact (Option.some.inj this).symm
  have n46 : TM.nxt B A c ≠ 46 := fun z => by
    rw [z, T.s.z] at e3
    exact (mem_mb.mp hc).2 e3.symm
  exact ⟨mem_mb.mpr ⟨List.mem_of_getElem? e2, n46⟩, e3, e2, idx_uniq T.nd n46 e2⟩
theorem Two.ontoP (T : Two f A B) : Onto (TM.nxt B A) (mb A) :=
  ⟨fun c hc => (T.prv hc).1, fun c hc d hd e => by rw [← (T.prv hc).2.1, ← (T.prv hd).2.1, e]⟩
theorem Two.pw_back (T : Two f A B) {c : Nat} (hc : c ∈ mb A) : ∀ n, pw f n (pw (TM.nxt B A) n c) = c
  | 0 => rfl
  | n + 1 => by
    rw [show n + 1 = n + 1 from rfl, pw_add f n _ 1]
    show pw f n (f (TM.nxt B A (pw (TM.nxt B A) n c))) = c
    rw [(T.prv (pw_mem T.ontoP.mem hc n)).2.1]
    exact T.pw_back hc n
end
theorem rounds_pw {n m : Nat} {t : List Nat} {f : Nat → Nat} {g : Grid} (s : Sig f) (h : tilts n m t (tilts n m t g) = rel f (tilts n m t g)) : ∀ k, rounds n m t (k + 1) g = rel (pw f k) (rounds n m t 1 g)
  | 0 => by
    show _ = (rounds n m t 1 g).map (List.map fun c => c)
    simp
  | k + 1 => by
    rw [rounds_rel s h k, rounds_pw s h k]
    show ((rounds n m t 1 g).map (List.map (pw f k))).map (List.map f) = _
    rw [List.map_map]
    refine List.map_congr_left fun l _ => ?_
    show (l.map (pw f k)).map f = _
    rw [List.map_map]
    rfl
/-- the sign at a place of the flat list -/
theorem flat_at {w j : Nat} : ∀ {g : Grid} {h i : Nat}, Rect h w g → i < h → j < w → g.flatten[i * w + j]? = some (cell g i j)
  | [], h, i, R, hi, _ => by
    have := R.1
    simp at this
    omega
  | r :: g, h, i, R, hi, hj => by
    have hr : r.length = w := R.2 r List.mem_cons_self
    have R' : Rect (h - 1) w g := ⟨by have := R.1; simp at this; omega, fun x hx => R.2 x (List.mem_cons_of_mem _ hx)⟩
    rw [List.flatten_cons]
    match i with
    | 0 =>
      rw [Nat.zero_mul, Nat.zero_add, List.getElem?_append_left (by omega)]
      show _ = some (r.getD j 0)
      rw [List.getD_eq_getElem?_getD, List.getElem?_eq_getElem (by omega)]
      rfl
    | i + 1 =>
      rw [List.getElem?_append_right (by rw [hr, Nat.succ_mul]; omega)]
      have : (i + 1) * w + j - r.length = i * w + j := by rw [hr, Nat.succ_mul]; omega
      rw [this, flat_at (i := i) R' (by omega) hj]
      rfl
end TM
end
namespace TB
end TB
namespace TA
end TA
namespace TA
end TA
namespace TA
end TA
namespace TA
end TA
namespace TB
end TB
section
set_option Elab.async false
set_option maxRecDepth 100000
set_option linter.all false
namespace TU
open PySem L2 TM TK TB
open PySem.Spec PyProof.Rows TH
/-- the cells at D, its rows at ds -/
def CellsAt (H : Hp) (D : Addr) (ds : List Addr) (G : Grid) : Prop := H D = some (.lst (ds.map V.ref)) ∧ ds.length = G.length ∧ ∀ i a, ds[i]? = some a → H a = some (.lst ((G.getD i []).map sg))
theorem CellsAt.row {H : Hp} {D a : Addr} {ds : List Addr} {G : Grid} {i : Nat} (h : CellsAt H D ds G) (e : ds[i]? = some a) : H a = some (.lst ((G.getD i []).map sg)) := h.2.2 i a e
theorem CellsAt.same {H H' : Hp} {D : Addr} {ds : List Addr} {G : Grid} (h : CellsAt H D ds G) (s : Same H H') : CellsAt H' D ds G := ⟨s _ _ h.1, h.2.1, fun i a e => s _ _ (h.2.2 i a e)⟩
theorem CellsAt.put {H : Hp} {D a : Addr} {ds : List Addr} {G : Grid} {i j v : Nat} (h : CellsAt H D ds G) (nd : ds.Nodup) (hD : D ∉ ds) (e : ds[i]? = some a) : CellsAt (upd H a (.lst (((G.getD i []).set j v).map sg))) D ds (putc G i j v) := by
  have ha : a ∈ ds := List.mem_of_getElem? e
  have hi : i < G.length := by rw [← h.2.1]; exact (List.getElem?_eq_some_iff.mp e).1
  refine ⟨by rw [upd_ne (fun z => hD (by rw [z]; exact ha))]; exact h.1, by unfold putc; rw [List.length_set]; exact h.2.1, fun k b hb => ?_⟩
  unfold putc
  by_cases q : k = i
  · subst q
    rw [e] at hb
    cases hb
    rw [upd_same, getD_set_same hi]
  · have hab : b ≠ a := fun z => by
      subst z
      have h1 := (List.getElem?_eq_some_iff.mp e)
      have h2 := (List.getElem?_eq_some_iff.mp hb)
      obtain ⟨l1, e1⟩ := h1
      obtain ⟨l2, e2⟩ := h2
      have pw := List.pairwise_iff_getElem.mp nd
      rcases Nat.lt_or_gt_of_ne q with q | q
      · exact pw k i l2 l1 q (e2.trans e1.symm)
      · exact pw i k l1 l2 q (e1.trans e2.symm)
    rw [upd_ne hab, h.2.2 k b hb, List.getD_eq_getElem?_getD (l := G.set i _), List.getElem?_set_ne (fun z => q z.symm), ← List.getD_eq_getElem?_getD]
section
variable {P : Program} {w : World} {K : PySem.W.Frag} {mg : Str → Option Value} {base : Heap}
end
end TU
end
section
set_option Elab.async false
set_option maxRecDepth 100000
set_option linter.all false
namespace TU
open PySem L2 TM TK TB
open PySem.Spec PyProof.Rows TH
section
variable {X : Cx} {n : Nat}
theorem pen_callB {id : String} {r : List V → Hp → VK → Prop} {x : Str} {e : Expr} {es : List Expr} {t : TA} {p pos : Pos} (hc : CallR X (.builtin id) r) (hg : Gl X x) (hm : X.mg x = none) (hv : bootBuiltins x = some (.builtin id)) (ha : PAn n X (e :: es) t) (hne : x ≠ "__name__" := by decide) (hdb : (x == ("__debug__" : Str)) = false := by decide)
    (he : starEach (e :: es) X.env = (false, eval e X.env) :: starEach es X.env := by rfl) (hpl : (backTo pos (starEach es X.env)).any (·.1) = false := by rfl) : PEn n X (.Call (.Name x p) (e :: es) [] pos) (tCB r t) := by
  intro pins s σ H Q hn I h
  refine wpAny_Call_Name_kw (ld_blt I hg hm hv ?_ hne hdb)
  exact PyProof.Rows.callWith_builtin1 (thn (ha pos pins s σ H _ hn I h) fun us s1 ⟨vs, H1, I1, r1, q1⟩ => hc pins s1 σ H1 vs us Q I1 r1 q1) he hpl
end
section
variable {P : Program} {w : World} {K : PySem.W.Frag} {mg : Str → Option Value} {base : Heap} {fT : Addr} {fdT : FuncData}
end
end TU
end
section
set_option Elab.async false
set_option maxRecDepth 100000
set_option linter.all false
namespace TW
open PySem L2 TM TK TB TU
open PySem.Spec PyProof.Rows TH
section
variable {X : Cx} {n : Nat}
end
theorem eqv_rows : ∀ g g' : Grid, PyData.eqvAll (rowD g) (rowD g') = decide (g = g')
  | [], [] => rfl
  | [], _ :: _ => by simp [PyData.eqvAll]
  | _ :: _, [] => by simp [PyData.eqvAll]
  | x :: g, y :: g' => by
    have e : PyData.eqv (.str (S x)) (.str (S y)) = decide (x = y) := by
      show (S x == S y) = _
      rw [Bool.eq_iff_iff]
      simp [beq_iff_eq]
    show PyData.eqvAll (PyData.str (S x) :: rowD g) (PyData.str (S y) :: rowD g') = _
    rw [PyData.eqvAll, e, eqv_rows g g']
    rw [Bool.eq_iff_iff]
    simp
theorem eqv_tup (g g' : Grid) : PyData.eqv (.tuple (rowD g)) (.tuple (rowD g')) = decide (g = g') := eqv_rows g g'
section
variable {P : Program} {w : World} {K : PySem.W.Frag} {mg : Str → Option Value} {base : Heap} {C D : Addr}
theorem scTe : FnScope ["self", "other"] ["self", "other"] (defScope sTrayEq) := ⟨rfl, rfl, rfl, by decide +kernel, rfl, by decide +kernel, by decide +kernel⟩
def spTe (K : PySem.W.Frag) (D : Addr) : Sp := fun vs H Q _ => ∃ (p q : Addr) (h w h' w' : Nat) (g g' : Grid), vs = [.ref p, .ref q] ∧ TrayAt K D H p g ∧ TrayAt K D H q g' ∧ VG h w g ∧ VG h' w' g' ∧ Q (.bl (decide (g = g'))) H
theorem ok_te {f : Addr} {fd : FuncData} (F : Fun K "__eq__" "Tray.__eq__" sTrayEq f fd) (T : TxtW K mg) (CT : ClsT K mg D) (IC : C8.InsC K D) : FnOk P w K mg base CX0 1 f fd ["self", "other"] (spTe K D) := by
  refine F.ok scTe (fun vs H Q E h => ?_) (fun cdv A outer s H vs Q E hr h => ?_)
  · obtain ⟨p, q, h, w, h', w', g, g', rfl, _⟩ := h
    rfl
  · obtain ⟨p, q, h, w, h', w', g, g', rfl, ⟨dp, ap, hp, hSp⟩, ⟨dq, aq, hq, hSq⟩, V1, V2, k⟩ := h
    refine ⟨_, pss_one (ps_ret (pe_and (pe_callB (C8.call_isC IC) (by rfl) T.isi (by decide +kernel) (pa_cons (pv 1) (pa_cons (pe_glob (v := .ref D) rfl CT.mgC rfl) pa_nil)))
      (pe_one (pe_cmpR (op_eqD hr.units) (pe_fld (pv 0) rfl) (pe_fld (pv 1) rfl) (nomark _))))), ?_⟩
    refine ⟨_, rfl, q, dq, _, rfl, hq, true, rfl, iteT ?_⟩
    refine ⟨_, rfl, p, D, dp, _, _, rfl, hp, CT.cl, CT.nR, rfl, ?_⟩
    refine ⟨_, rfl, q, D, dq, _, _, rfl, hq, CT.cl, CT.nR, rfl, ?_⟩
    refine ⟨_, _, .tup hSp (row_all _), .tup hSq (row_all _), row_shaped V1, row_shaped V2, ?_⟩
    rw [eqv_tup]
    exact k
end
end TW
end
namespace TW
end TW
section
set_option Elab.async false
set_option maxRecDepth 100000
set_option linter.all false
namespace TR
open PySem PySem.Spec PyProof.Rows L2 TM TK TB TP TH
theorem pssn_cut {X : Cx} {n : Nat} {st : Stmt} {rest : List Stmt} {t u : TS} (h1 : PSn n X st t) (h2 : PSsn n X rest u) : PSsn n X (st :: rest) (C8.tCut t u) := by
  intro pins s σ H D hn I h
  obtain ⟨Mid, hm, hu⟩ := h
  refine wpAny_execs_cons (thnN hn (h1 pins s σ H { D with nx := Mid } hn I hm) fun f s1 hn1 q => ?_)
  cases f with
  | next =>
    obtain ⟨σ', H', I', q⟩ := q
    exact h2 pins s1 σ' H' D hn1 I' (hu σ' H' q)
  | ret v => exact q
  | brk => exact q
  | cont => exact q
def tCallO (C : Addr) (sp : Sp) (E : XK) (tf : TE) (t : TA) : TE := fun σ H Q => tf σ H fun y H1 => ∃ a, y = V.ref a ∧ t σ H1 fun vs H2 => (∃ dx fs, H2 a = some (HO.ins C dx fs)) ∧ sp (V.ref a :: vs) H2 Q E
/-- f(e, ..), f an instance with its own __call__ -/
theorem pe_callO {X : Cx} {CX : CXT} {k : Nat} {C : Addr} {sp : Sp} {E : XK} {e fe : Expr} {es : List Expr} {tf : TE} {t : TA} {pos : Pos} {g : Addr} (hf : PE X fe tf) (c : StX.CallO X.K C g) (F : FnR X.prog X.w X.K X.mg X.base CX k g sp) (hr : Room k X.A) (hx : Passes CX X E) (ha : PA X (e :: es) t)
    (ht : eval (.Call fe (e :: es) [] pos) X.env = (do callWith pos (← eval fe X.env) [] (backTo pos (starEach (e :: es) X.env)) (backToKw pos (keywordEach [] X.env))) := by rfl)
    (he : starEach (e :: es) X.env = (false, eval e X.env) :: starEach es X.env := by rfl) (hpl : (backTo pos (starEach es X.env)).any (·.1) = false := by rfl) : PE X (.Call fe (e :: es) [] pos) (tCallO C sp E tf t) := by
  refine ⟨fun pins s σ H Q I h => ?_⟩
  refine Call_ (thn (hf.run pins s σ H _ I h) fun u s1 ⟨y, H1, I1, ry, a, ey, q⟩ => ?_) ht
  subst ey
  obtain rfl : u = Value.ref a := ry
  refine StX.callO_with (thn (ha.run pos pins s1 σ H1 _ I1 q) fun us s2 ⟨vs, H2, I2, r, hi, q2⟩ => ?_) he hpl
  obtain ⟨ox, od, J, hd⟩ := StX.insC_at I2 (.inr hi)
  exact ⟨⟨C, ox, od, J, hd⟩, StX.run_callO c F hr hx I2 (.inr hi) r q2⟩
def plV (w k : Nat) : List V := [.int ((k : Int) / w), .int ((k : Int) % w)]
def plK (w k : Nat) : List Key := [Sum.inl ((k : Int) / w), Sum.inl ((k : Int) % w)]
theorem plKV (w k : Nat) : (plK w k).map kV = plV w k := rfl
theorem plK_inj {w a b : Nat} (e : plK w a = plK w b) : a = b := by
  have h1 : (a : Int) / w = (b : Int) / w := by
    injection e with e1 e2
    exact Sum.inl.inj e1
  have h2 : (a : Int) % w = (b : Int) % w := by
    injection e with e1 e2
    injection e2 with e3 e4
    exact Sum.inl.inj e3
  have ha := Int.mul_ediv_add_emod (a : Int) w
  have hb := Int.mul_ediv_add_emod (b : Int) w
  rw [h1, h2] at ha
  have : (a : Int) = b := ha.symm.trans hb
  omega
theorem valV_no {κ : Type} [DecidableEq κ] {S : List Nat} {f : Nat → κ} {v : Nat → V} {k : κ} (h : ∀ m ∈ S, f m ≠ k) : valV (S.map fun m => (f m, v m)) k = none := by
  unfold valV
  rw [Option.map_eq_none_iff, List.find?_eq_none]
  intro x hx
  obtain ⟨m, hm, rfl⟩ := List.mem_map.mp hx
  simpa using h m hm
theorem valV_at {κ : Type} [DecidableEq κ] {f : Nat → κ} {v : Nat → V} : ∀ {S : List Nat} {m : Nat}, m ∈ S → (∀ a ∈ S, f a = f m → a = m) → valV (S.map fun m => (f m, v m)) (f m) = some (v m)
  | [], _, h, _ => by cases h
  | a :: S, m, h, hi => by
    unfold valV
    rw [List.map_cons, List.find?_cons]
    by_cases q : f a = f m
    · have e := hi a List.mem_cons_self q
      subst e
      simp
    · have : decide (f a = f m) = false := decide_eq_false q
      rw [this]
      have hm : m ∈ S := by
        rcases List.mem_cons.mp h with z | z
        · subst z
          exact absurd rfl q
        · exact z
      exact valV_at hm fun b hb => hi b (List.mem_cons_of_mem _ hb)
/-- from places to places: A ahead, B behind -/
def ExAt (H : Hp) (d : Addr) (w : Nat) (A B : List Nat) (S : List Nat) (qa : Nat → Addr) : Prop := H d = some (.dT (S.map fun m => (plK w (A.idxOf m), V.ref (qa m)))) ∧ ∀ m ∈ S, H (qa m) = some (.tup (plV w (B.idxOf m)))
theorem ExAt.same {H H' : Hp} {d w : Nat} {A B S : List Nat} {qa : Nat → Addr} (h : ExAt H d w A B S qa) (s : Same H H') : ExAt H' d w A B S qa := ⟨s _ _ h.1, fun m hm => s _ _ (h.2 m hm)⟩
theorem like_tilts {n m : Nat} : ∀ (t : List Nat) {g : Grid}, Rect n m g → Like g (tilts n m t g)
  | [], _, _ => ⟨List.Perm.refl _, fun h => h⟩
  | c :: t, _, R => (like_tilt (c := c) R).trans (like_tilts t (tilt_rect R))
theorem mem_srt {l : List Nat} {c : Nat} : c ∈ srt l ↔ c ∈ l := (srt_perm l).mem_iff
section
variable {P : Program} {w_ : World} {K : PySem.W.Frag} {mg : Str → Option Value} {base : Heap} {C D CU fRs fCl pM gM : Addr} {n : Nat} {fdM : FuncData}
abbrev NEx : List Str := ["tray", "word", "first", "second", "marble"]
theorem scEx : FnScope NEx ["tray", "word"] (defScope sExchange) := ⟨rfl, rfl, rfl, by decide +kernel, rfl, by decide +kernel, by decide +kernel⟩
def spEx (K : PySem.W.Frag) (C D : Addr) : Sp := fun vs H Q _ => ∃ (p q : Addr) (h w : Nat) (g : Grid) (t : List Nat), vs = [.ref p, .ref q] ∧ TrayAt K D H p g ∧ VG h w g ∧ WordAt C H q t ∧
  ∀ H' d qa, Same H H' → H d = none → ExAt H' d w (tilts h w t g).flatten (tilts h w t (tilts h w t g)).flatten (srt (mb (tilts h w t g).flatten)) qa → Q (.ref d) H'
theorem ok_ex {f : Addr} {fd : FuncData} (F : Fun K "exchange" "exchange" sExchange f fd) (b : Binds K fd ["tray", "word"] []) (hDC : D ≠ C) (CT : ClsT K mg D)
    (sf : PySem.W.selfFirst K D = true) (NO : NoOp K C Operator.RShift.info.2) (hs : PySem.W.findIn K (.ref D) (PySem.dunder Operator.RShift.info.2) = some (some (.ref fRs))) (hf : PySem.W.isFn K (.ref fRs) = true) (GRs : FnRn n P w_ K mg base CX0 5 fRs (spRs K C D))
    (PM : PropOf K D "marbles" pM gM) (GM : FnOk P w_ K mg base CX0 1 gM fdM ["self"] (spMb K D)) (bM : Binds K fdM ["self"] [])
    (CO : StX.CallO K D fCl) (GC : FnR P w_ K mg base (L2.CX P w_) 4 fCl (spCl K D CU)) :
    FnRn n P w_ K mg base CX0 6 f (spEx K C D) := by
  refine fn_n F b scEx (fun vs H Q E h => ?_) fun cdv A outer s H vs Q E hr h => ?_
  · obtain ⟨p, q, h, w, g, t, rfl, _⟩ := h
    rfl
  · obtain ⟨p, q, h, w, g, t, rfl, T0, hV, W0, k⟩ := h
    have nd := scEx.nd
    refine ⟨_, pssn_cons (psn_set (i := 2) nd rfl (.inr rfl) (pen_op (op_twoN hDC sf NO hs hf GRs hr pass0) (PE.up (pv 0)) (PE.up (pv 1))))
      (pssn_cons (psn_set (i := 3) nd rfl (.inr rfl) (pen_op (op_twoN hDC sf NO hs hf GRs hr pass0) (PE.up (pv 2)) (PE.up (pv 1))))
      (pssn_one (PS.up (ps_ret (pe_dcT (own := [("marble", 4)]) (g := gName 4) (hu_of hr) rfl nd (pi_str (pe_prop (pv 2) CT.cl PM GM (hr.mono (by decide)) bM .nil pass0 rfl)) (blkOk_by (N := NEx) (sc := defScope sExchange) (by decide +kernel)) (fun _ _ _ _ _ => pg_name (i := 4) nd rfl (.inl rfl))
        (fun _ _ _ _ _ => pe_callO (pv 2) CO GC (hr.mono (by decide)) passL (pa_cons (pv 4) pa_nil)) (fun _ _ _ _ _ => pe_callO (pv 3) CO GC (hr.mono (by decide)) passL (pa_cons (pv 4) pa_nil))))))), ?_⟩
    obtain ⟨dp, ap, hp, hSp⟩ := id T0
    obtain ⟨dq, hq⟩ := id W0
    have V1 := VG.tilts t hV
    have V2 := VG.tilts t V1
    refine ⟨_, rfl, _, rfl, p, dp, _, q, dq, _, rfl, rfl, hp, hq, p, q, h, w, g, t, rfl, T0, hV, W0, fun H1 p1 sm1 ht1 => ?_⟩
    obtain ⟨d1, a1, hp1, hS1⟩ := id ht1
    refine ⟨_, rfl, _, rfl, p1, d1, _, q, dq, _, rfl, rfl, hp1, sm1 _ _ hq, p1, q, h, w, _, t, rfl, ht1, V1, W0.same sm1, fun H2 p2 sm2 ht2 => ?_⟩
    have ht1' := ht1.same sm2
    obtain ⟨d1', a1', hp1', hS1'⟩ := id ht1'
    obtain ⟨d2, a2, hp2, hS2⟩ := id ht2
    have sm02 := sm1.trans sm2
    generalize hA : (tilts h w t g).flatten = A at k
    generalize hB : (tilts h w t (tilts h w t g)).flatten = B at k
    have ndA : (mb A).Nodup := by rw [← hA]; exact V1.nd
    have pmB : (mb B).Perm (mb A) := by
      rw [← hA, ← hB]
      exact (like_tilts t V1.rc).pm
    have ndB : (mb B).Nodup := pmB.nodup_iff.mpr ndA
    refine ⟨_, rfl, p1, d1', _, rfl, hp1', p1, h, w, _, rfl, ht1', V1, fun H3 sm3 => ⟨_, rfl, fun D_ hD => ?_⟩⟩
    rw [hA]
    have h26 : (srt (mb A)).length ≤ 26 := by
      rw [(srt_perm _).length_eq, ← hA]
      exact mb_26 V1
    have ndS : (srt (mb A)).Nodup := (srt_perm _).nodup_iff.mpr ndA
    have inA : ∀ m ∈ srt (mb A), A[A.idxOf m]? = some m ∧ m ≠ 46 := fun m hm => by
      have := mem_mb.mp (mem_srt.mp hm)
      exact ⟨(idx_at this.1).2, this.2⟩
    refine dcT_it (walk_str (z := S (srt (mb A)))) (fun i H4 => ∃ qa, Same H3 H4 ∧ ExAt H4 D_ w A B ((srt (mb A)).take i) qa)
      ⟨fun _ => 0, same_new hD, upd_same, fun m hm => by simp at hm⟩ (fun _ _ _ _ => True.intro) ?_ ?_
    · rintro i x H4 H5 hi ⟨qa, sm4, hEx⟩ ⟨rfl, c, hc, rfl⟩
      rw [S_at] at hc
      have hcS := List.mem_of_getElem? hc
      obtain ⟨hcA, c46⟩ := inA c hcS
      have hcB : B[B.idxOf c]? = some c := (idx_at (mem_mb.mp (pmB.mem_iff.mpr (mem_srt.mp hcS))).1).2
      have s23 := sm3.trans sm4
      have T1 := ht1'.same s23
      have T2 := ht2.same s23
      obtain ⟨e1, b1, g1, _⟩ := id T1
      obtain ⟨e2, b2, g2, _⟩ := id T2
      refine ⟨rfl, _, rfl, p1, rfl, _, rfl, ⟨e1, _, g1⟩, p1, _, h, w, _, rfl, T1, V1, .inl ⟨c, A.idxOf c, rfl, c46, by rw [hA]; exact hcA, fun H6 q1 sm6 hq1 hq1' => ?_⟩⟩
      have T2' := T2.same sm6
      refine ⟨_, rfl, p2, rfl, _, rfl, ⟨e2, _, sm6 _ _ g2⟩, p2, _, h, w, _, rfl, T2', V2, .inl ⟨c, B.idxOf c, rfl, c46, by rw [hB]; exact hcB, fun H7 q2 sm7 hq2 hq2' => ?_⟩⟩
      have hEx7 := (hEx.same sm6).same sm7
      have take1 : (srt (mb A)).take (i + 1) = (srt (mb A)).take i ++ [c] := by rw [List.take_add_one, hc]; rfl
      have cnew : c ∉ (srt (mb A)).take i := fun hm => by
        obtain ⟨j, hj⟩ := List.mem_iff_getElem?.mp hm
        rw [List.getElem?_take] at hj
        split at hj
        · rename_i hji
          have nd := List.pairwise_iff_getElem.mp ndS
          obtain ⟨l1, z1⟩ := List.getElem?_eq_some_iff.mp hj
          obtain ⟨l2, z2⟩ := List.getElem?_eq_some_iff.mp hc
          exact nd j i l1 l2 hji (z1.trans z2.symm)
        · cases hj
      have inj : ∀ m ∈ (srt (mb A)).take i, plK w (A.idxOf m) ≠ plK w (A.idxOf c) := fun m hm e => by
        have e2 := plK_inj e
        have := (inA m (List.mem_of_mem_take hm)).1
        rw [e2, hcA] at this
        have : c = m := Option.some.inj this
        exact cnew (by rw [this]; exact hm)
      obtain ⟨qn, hqn1, hqn2⟩ : ∃ qn : Nat → Addr, qn c = q2 ∧ ∀ m, m ≠ c → qn m = qa m := ⟨fun m => if m = c then q2 else qa m, if_pos rfl, fun m hm => if_neg hm⟩
      refine ⟨_, plK w (A.idxOf c), q1, rfl, by rw [plKV]; exact sm7 _ _ hq1', hEx7.1, ?_, qn, ?_, ?_⟩
      · rw [List.length_map, List.length_take]
        show _ < 16777216
        omega
      · exact same_put ((sm4.trans sm6).trans sm7) hD
      have hqD : ∀ {b : Addr} {xs : List V}, H7 b = some (.tup xs) → b ≠ D_ := fun e z => by
        rw [z, hEx7.1] at e
        cases e
      refine ⟨?_, fun m hm => ?_⟩
      · rw [upd_same, putK_new _ (valV_no inj), take1, List.map_append]
        congr 3
        · refine List.map_congr_left fun m hm => ?_
          rw [hqn2 m (fun z => cnew (by rw [← z]; exact hm))]
        · simp [hqn1]
      · rw [take1] at hm
        rcases List.mem_append.mp hm with hm | hm
        · rw [hqn2 m (fun z => cnew (by rw [← z]; exact hm))]
          have := hEx7.2 m hm
          rw [upd_ne (hqD this)]
          exact this
        · rw [List.mem_singleton.mp hm, hqn1, upd_ne (hqD hq2')]
          exact hq2'
    · rintro H4 ⟨qa, sm4, hEx⟩
      rw [S_size, List.take_length] at hEx
      exact k _ D_ qa ((sm02.trans sm3).trans sm4) ((sm02.trans sm3).free hD) hEx
end
end TR
end
section
set_option Elab.async false
set_option maxRecDepth 100000
set_option linter.all false
namespace TR
open PySem PySem.Spec PyProof.Rows L2 TM TK TB TP TH
theorem dget_same {H H' : Hp} {d : Addr} {y : V} {r : Option V} (h : DGet H d y r) (s : Same H H') : DGet H' d y r := by
  have rd : ∀ {u : HO}, Rd H d u → Rd H' d u := fun z => by
    rcases z with z | ⟨o, z⟩
    · exact .inl (s _ _ z)
    · exact .inr ⟨o, s _ _ z⟩
  rcases h with ⟨kvs, k, z, e, l⟩ | ⟨kvs, k, b, z, e, eb, l⟩
  · exact .inl ⟨kvs, k, rd z, e, l⟩
  · exact .inr ⟨kvs, k, b, rd z, e, s _ _ eb, l⟩
section
variable {P : Program} {w_ : World} {K : PySem.W.Frag} {mg : Str → Option Value} {base : Heap}
abbrev NCf : List Str := ["start", "followers", "circle", "following"]
theorem scCf : FnScope NCf ["start", "followers"] (defScope sCircleFrom) := ⟨rfl, rfl, rfl, by decide +kernel, rfl, by decide +kernel, by decide +kernel⟩
/-- from x0 on: val i is what follows after i steps, back at x0 after L -/
def spCf (K : PySem.W.Frag) : Sp := fun vs H Q _ => ∃ (x0 : V) (d : Addr) (val : Nat → V) (pd : Nat → PyData) (L : Nat), vs = [x0, .ref d] ∧ val 0 = x0 ∧ 1 ≤ L ∧ L ≤ 64 ∧ (∀ i, i < L → DGet H d (val i) (some (val (i + 1)))) ∧
  (∀ i, i ≤ L → (∀ H', Same H H' → Dp K H' (val i) (pd i)) ∧ SeqAt.shaped (pd i) = true) ∧ (∀ i, 1 ≤ i → i ≤ L → PyData.eqv (pd i) (pd 0) = decide (i = L)) ∧
  ∀ H' l, Same H H' → H l = none → H' l = some (.lst ((List.range L).map val)) → Q (.ref l) H'
theorem ok_cf {f : Addr} {fd : FuncData} (F : Fun K "_circle_from" "_circle_from" sCircleFrom f fd) : FnOk P w_ K mg base CX0 1 f fd ["start", "followers"] (spCf K) := by
  refine F.ok scCf (fun vs H Q E h => ?_) (fun cdv A outer s H vs Q E hr h => ?_)
  · obtain ⟨x0, d, val, pd, L, rfl, _⟩ := h
    rfl
  · obtain ⟨x0, d, val, pd, L, rfl, rfl, L1, L64, hG, hD, hE, k⟩ := h
    have nd := scCf.nd
    refine ⟨_, pss_cons (ps_set (i := 2) nd rfl (.inl rfl) (pe_lst (pa_cons (pv 0) pa_nil)))
      (pss_cons (ps_set (i := 3) nd rfl (.inl rfl) (pe_dget (hu_of hr) (pv 1) (pv 0) (fun _ _ => rfl)))
      (pss_cons (ps_while PassesOwn.never (pt_cmpR (op_neD hr.units) (pv 3) (pv 0) (nomark _))
        (pss_cons (ps_expr (pe_bm PySem.F.plainAttrs_list PySem.F.slot_list_append PySem.F.type_list_append mt_append (pv 2) (pa_cons (pv 3) pa_nil)))
        (pss_one (ps_set (i := 3) nd rfl (.inl rfl) (pe_dget (hu_of hr) (pv 1) (pv 3) (fun _ _ => rfl))))))
      (pss_one (ps_ret (pv 2))))), ?_⟩
    refine ⟨_, rfl, by show 1 ≤ sizeLine; decide, fun l hl => ?_⟩
    have s1 : Same H (upd H l (.lst [val 0])) := same_new hl
    refine ⟨_, rfl, _, rfl, d, _, rfl, dget_same (hG 0 (by omega)) s1, ?_⟩
    refine while_by (fun σ H1 => ∃ i, 1 ≤ i ∧ i ≤ L ∧ σ = [some (val 0), some (.ref d), some (.ref l), some (val i)] ∧ Same H H1 ∧ H1 l = some (.lst ((List.range i).map val)))
      (fun σ H1 => match H1 l with | some (.lst xs) => L - xs.length | _ => 0) ⟨1, by omega, L1, rfl, s1, by rw [upd_same]; rfl⟩ ?_ ?_
    · rintro σ H1 ⟨i, i1, iL, rfl, sm, hl1⟩
      refine ⟨_, rfl, _, rfl, pd i, pd 0, (hD i iL).1 _ sm, (hD 0 (by omega)).1 _ sm, (hD i iL).2, (hD 0 (by omega)).2, _, rfl, ?_⟩
      rw [hE i i1 iL]
      by_cases q : i = L
      · rw [decide_eq_true q]
        subst q
        exact ⟨_, rfl, k H1 l sm hl hl1⟩
      · rw [decide_eq_false q]
        have hlen : ((List.range i).map val).length = i := by rw [List.length_map, List.length_range]
        refine ⟨_, rfl, .inl ⟨rfl, _, SqL.of hl1⟩, _, rfl, l, _, _, rfl, rfl, hl1, ?_, ?_⟩
        · rw [hlen]
          show i < 16777216
          omega
        have s2 : Same H (upd H1 l (.lst ((List.range i).map val ++ [val i]))) := same_put sm hl
        refine ⟨_, rfl, _, rfl, d, _, rfl, dget_same (hG i (by omega)) s2, ?_, ?_⟩
        · refine ⟨i + 1, by omega, by omega, rfl, s2, ?_⟩
          rw [upd_same, List.range_succ, List.map_append]
          rfl
        · rw [upd_same, hl1]
          show L - ((List.range i).map val ++ [val i]).length < L - ((List.range i).map val).length
          rw [List.length_append, hlen]
          show L - (i + 1) < L - i
          omega
    · rintro σ H1 Q1 Q2 hq ⟨x, e1, y, e2, d1, d2, h1, h2, h3, h4, c, e3, q⟩
      exact ⟨x, e1, y, e2, d1, d2, h1, h2, h3, h4, c, e3, hq _ _ q⟩
end
end TR
end
section
set_option maxHeartbeats 4000000
set_option linter.all false
namespace TM
theorem flatten_len {h w : Nat} {g : Grid} (R : Rect h w g) : g.flatten.length = h * w := by
  rw [List.length_flatten]
  have : g.map List.length = List.replicate h w := List.eq_replicate_iff.mpr ⟨by rw [List.length_map]; exact R.1, fun x hx => by
    obtain ⟨l, hl, rfl⟩ := List.mem_map.mp hx
    exact R.2 l hl⟩
  rw [this]
  simp
/-- a place of the flat list is a row and a column -/
theorem at_flat {h w k : Nat} {g : Grid} (R : Rect h w g) (hk : k < g.flatten.length) : k / w < h ∧ k % w < w ∧ g.flatten[k]? = some (cell g (k / w) (k % w)) := by
  rw [flatten_len R] at hk
  have w0 : 0 < w := by
    rcases Nat.eq_zero_or_pos w with z | z
    · rw [z, Nat.mul_zero] at hk
      omega
    · exact z
  have h1 : k / w < h := Nat.div_lt_of_lt_mul (by rw [Nat.mul_comm]; exact hk)
  have h2 := Nat.mod_lt k w0
  refine ⟨h1, h2, ?_⟩
  have e := flat_at R h1 h2
  have : k / w * w + k % w = k := by rw [Nat.mul_comm]; exact Nat.div_add_mod k w
  rw [this] at e
  exact e
theorem same_cell {h w r c r' c' : Nat} {g : Grid} (R : Rect h w g) (nd : (mb g.flatten).Nodup) (hr : r < h) (hc : c < w) (hr' : r' < h) (hc' : c' < w) (e : cell g r c = cell g r' c') (n : cell g r c ≠ 46) : r = r' ∧ c = c' := by
  have e1 := flat_at R hr hc
  have e2 := flat_at R hr' hc'
  rw [← e] at e2
  have k := one_place nd n e1 e2
  have w0 : 0 < w := by omega
  have d1 : (r * w + c) / w = r := by rw [Nat.mul_comm, Nat.mul_add_div w0, Nat.div_eq_of_lt hc, Nat.add_zero]
  have d2 : (r' * w + c') / w = r' := by rw [Nat.mul_comm, Nat.mul_add_div w0, Nat.div_eq_of_lt hc', Nat.add_zero]
  have er : r = r' := by rw [← d1, ← d2, k]
  subst er
  exact ⟨rfl, by omega⟩
theorem cell_rel {f : Nat → Nat} {h w r c : Nat} {g : Grid} (R : Rect h w g) (hr : r < h) (hc : c < w) : cell (rel f g) r c = f (cell g r c) := by
  have hg : r < g.length := by rw [R.1]; exact hr
  have e := getD_at hg
  have hl := R.2 _ (List.mem_of_getElem? e)
  unfold cell
  have e2 : (rel f g).getD r [] = (g.getD r []).map f := by
    show (g.map (List.map f)).getD r [] = _
    rw [List.getD_eq_getElem?_getD, List.getElem?_map, e]
    rfl
  rw [e2]
  generalize g.getD r [] = l at hl
  rw [List.getD_eq_getElem?_getD, List.getElem?_map, List.getD_eq_getElem?_getD, List.getElem?_eq_getElem (show c < l.length by omega)]
  rfl
structure Fill (φ : Nat → Nat) (G1 : Grid) (h w : Nat) (seen : List Nat) (G : Grid) : Prop where
  rc : Rect h w G
  at_ : ∀ r c, r < h → c < w → cell G r c = if cell G1 r c ≠ 46 ∧ φ (cell G1 r c) ∈ seen then φ (cell G1 r c) else 46
theorem fill_start (φ : Nat → Nat) (G1 : Grid) (h w : Nat) : Fill φ G1 h w [] (List.replicate h (List.replicate w 46)) := by
  refine ⟨⟨List.length_replicate, fun r hr => by rw [(List.mem_replicate.mp hr).2, List.length_replicate]⟩, fun r c hr hc => ?_⟩
  rw [if_neg (fun z => by cases z.2)]
  unfold cell
  have e1 : (List.replicate h (List.replicate w 46)).getD r [] = List.replicate w 46 := by
    rw [List.getD_eq_getElem?_getD, List.getElem?_replicate, if_pos hr]
    rfl
  rw [e1, List.getD_eq_getElem?_getD, List.getElem?_replicate, if_pos hc]
  rfl
theorem Fill.put {φ : Nat → Nat} {G1 G : Grid} {h w r0 c0 m : Nat} {seen : List Nat} (F : Fill φ G1 h w seen G) (hr : r0 < h) (hc : c0 < w) (n : cell G1 r0 c0 ≠ 46) (e : φ (cell G1 r0 c0) = m)
    (u : ∀ r c, r < h → c < w → cell G1 r c ≠ 46 → φ (cell G1 r c) = m → r = r0 ∧ c = c0) : Fill φ G1 h w (seen ++ [m]) (putc G r0 c0 m) := by
  refine ⟨put_rect F.rc, fun r c hr' hc' => ?_⟩
  rw [put_cell F.rc hr hc hr' hc']
  by_cases q : r = r0 ∧ c = c0
  · obtain ⟨rfl, rfl⟩ := q
    rw [if_pos ⟨rfl, rfl⟩, if_pos ⟨n, by rw [e]; simp⟩, e]
  · rw [if_neg q, F.at_ r c hr' hc']
    by_cases q2 : cell G1 r c ≠ 46 ∧ φ (cell G1 r c) ∈ seen
    · rw [if_pos q2, if_pos ⟨q2.1, List.mem_append_left _ q2.2⟩]
    · rw [if_neg q2, if_neg]
      intro z
      rcases List.mem_append.mp z.2 with y | y
      · exact q2 ⟨z.1, y⟩
      · exact q (u r c hr' hc' z.1 (List.mem_singleton.mp y))
theorem Fill.all {φ : Nat → Nat} {G1 G : Grid} {h w : Nat} {S : List Nat} (F : Fill φ G1 h w S G) (R : Rect h w G1) (z : φ 46 = 46) (a : ∀ r c, r < h → c < w → cell G1 r c ≠ 46 → φ (cell G1 r c) ∈ S) : G = rel φ G1 := by
  refine cell_ext F.rc (map_rect R fun l => List.length_map ..) fun r c hr hc => ?_
  rw [F.at_ r c hr hc, cell_rel R hr hc]
  by_cases q : cell G1 r c = 46
  · rw [if_neg (fun y => y.1 q), q, z]
  · rw [if_pos ⟨q, a r c hr hc q⟩]
theorem pw_46 {f : Nat → Nat} (h : f 46 = 46) : ∀ n, pw f n 46 = 46
  | 0 => rfl
  | n + 1 => by
    show f (pw f n 46) = 46
    rw [pw_46 h n, h]
end TM
end
section
set_option Elab.async false
set_option maxRecDepth 100000
set_option linter.all false
namespace TR
open PySem PySem.Spec PyProof.Rows L2 TM TK TB TP TH TU
section
variable {P : Program} {w_ : World} {K : PySem.W.Frag} {mg : Str → Option Value} {base : Heap} {C D CU fRs fCl fI fEx fCf fCn fN pM gM pH gH pW gW : Addr} {n : Nat} {fdM fdH fdW fdCf fdCn fdN : FuncData}
theorem scCn : FnScope ["value", "limit"] ["value", "limit"] (defScope sCheckNumber) := ⟨rfl, rfl, rfl, by decide +kernel, rfl, by decide +kernel, by decide +kernel⟩
def spCn : Sp := fun vs H Q _ => ∃ (k l : Nat), vs = [.int k, .int l] ∧ k ≤ l ∧ Q .non H
theorem isN_ok {k l : Nat} (h : k ≤ l) : TA.isN (.int k) (l : Int) = true := by
  show (decide ((0 : Int) ≤ k) && decide ((k : Int) ≤ l)) = true
  rw [decide_eq_true (by omega), decide_eq_true (by omega)]
  rfl
theorem ok_cn {f : Addr} {fd : FuncData} (F : Fun K "check_number" "check_number" sCheckNumber f fd) (GN : FnOk P w_ K mg base CX0 1 fN fdN ["value", "limit"] (TA.spNum K)) (kN : PySem.W.keepIn K (.ref fN) = true) (bN : Binds K fdN ["value", "limit"] []) (mN : mg "is_number" = some (.ref fN)) :
    FnOk P w_ K mg base CX0 2 f fd ["value", "limit"] spCn := by
  refine F.ok scCn (fun vs H Q E h => ?_) (fun cdv A outer s H vs Q E hr h => ?_)
  · obtain ⟨k, l, rfl, _⟩ := h
    rfl
  · obtain ⟨k, l, rfl, hk, q⟩ := h
    refine ⟨_, pss_one (ps_if (pt_not (pt_val (pe_call GN hr rfl mN kN bN .nil pass0 (pa_cons (pv 0) (pa_cons (pv 1) pa_nil))))) pss_never pss_nil), ?_⟩
    refine ⟨_, rfl, _, rfl, _, _, _, _, _, rfl, TA.kn_int _, ?_⟩
    rw [isN_ok hk]
    exact ⟨true, rfl, iteF q⟩
abbrev NAr : List Str := ["tray", "word", "times", "first", "moves", "cells", "_", "marble", "circle", "row", "column", "rows", "line"]
theorem scAr : FnScope NAr ["tray", "word", "times"] (defScope sAfterRounds) := ⟨rfl, rfl, rfl, by decide +kernel, rfl, by decide +kernel, by decide +kernel⟩
def spAr (K : PySem.W.Frag) (C D : Addr) : Sp := fun vs H Q _ => ∃ (p q : Addr) (h w k : Nat) (g : Grid) (t : List Nat), vs = [.ref p, .ref q, .int k] ∧ TrayAt K D H p g ∧ VG h w g ∧ WordAt C H q t ∧ k ≤ 10 ^ 18 ∧
  ∀ H' r, Same H H' → TrayAt K D H' r (rounds h w t k g) → Q (.ref r) H'
structure TxtR (K : PySem.W.Frag) (mg : Str → Option Value) : Prop where
  em : ∃ u, mg "EMPTY" = some u ∧ RelV (.str (S [46])) u
  mr : ∃ u, mg "MAX_ROUNDS" = some u ∧ RelV (.int ((10 ^ 18 : Nat) : Int)) u
  range : mg "range" = none
  int : mg "int" = none
  len : mg "len" = none
theorem mb_let {h w : Nat} {g : Grid} (V : VG h w g) : ∀ c ∈ mb g.flatten, 97 ≤ c ∧ c < 123 := fun c hc => by
  have h1 := mem_mb.mp hc
  obtain ⟨r, hr, hcr⟩ := List.mem_flatten.mp h1.1
  rcases V.ok r hr c hcr with h2 | h2
  · exact absurd h2 h1.2
  · exact ⟨by omega, by omega⟩
theorem VG.rounds {h w : Nat} {t : List Nat} {g : Grid} : ∀ k, VG h w g → VG h w (TM.rounds h w t k g)
  | 0, V => V
  | k + 1, V => VG.tilts t (VG.rounds k V)
def plD (w k : Nat) : PyData := .tuple [.int ((k : Int) / w), .int ((k : Int) % w)]
theorem pl_dp {H : Hp} {a : Addr} {w k : Nat} (h : H a = some (.tup (plV w k))) : Dp K H (.ref a) (plD w k) := .tup (SqT.of h) (.cons (.int _) (.cons (.int _) .nil))
theorem pl_shaped (w k : Nat) : SeqAt.shaped (plD w k) = true := rfl
theorem pl_eqv (w a b : Nat) : PyData.eqv (plD w a) (plD w b) = decide (a = b) := by
  have h1 : PyData.eqv (plD w a) (plD w b) = (decide ((a : Int) / w = (b : Int) / w) && (decide ((a : Int) % w = (b : Int) % w) && true)) := by
    unfold plD
    simp [PyData.eqv, PyData.eqvAll]
    rfl
  rw [h1]
  by_cases q : a = b
  · subst q
    simp
  · rw [decide_eq_false q]
    have : ¬ ((a : Int) / w = (b : Int) / w ∧ (a : Int) % w = (b : Int) % w) := fun z => q (plK_inj (w := w) (by unfold plK; rw [z.1, z.2]))
    by_cases q1 : (a : Int) / w = (b : Int) / w
    · rw [decide_eq_true q1, decide_eq_false (fun z => this ⟨q1, z⟩)]
      rfl
    · rw [decide_eq_false q1]
      rfl
theorem ok_ar {f : Addr} {fd : FuncData} (F : Fun K "after_rounds" "after_rounds" sAfterRounds f fd) (b : Binds K fd ["tray", "word", "times"] []) (T : TxtR K mg) (hDC : D ≠ C) (CT : ClsT K mg D)
    (sf : PySem.W.selfFirst K D = true) (NO : NoOp K C Operator.RShift.info.2) (hs : PySem.W.findIn K (.ref D) (PySem.dunder Operator.RShift.info.2) = some (some (.ref fRs))) (hf : PySem.W.isFn K (.ref fRs) = true) (GRs : FnRn n P w_ K mg base CX0 5 fRs (spRs K C D))
    (PM : PropOf K D "marbles" pM gM) (GM : FnOk P w_ K mg base CX0 1 gM fdM ["self"] (spMb K D)) (bM : Binds K fdM ["self"] [])
    (PH : PropOf K D "height" pH gH) (GH : FnOk P w_ K mg base CX0 1 gH fdH ["self"] (spHt K D)) (bH : Binds K fdH ["self"] [])
    (PW_ : PropOf K D "width" pW gW) (GW : FnOk P w_ K mg base CX0 1 gW fdW ["self"] (spWd K D)) (bW : Binds K fdW ["self"] [])
    (CO : StX.CallO K D fCl) (GC : FnR P w_ K mg base (L2.CX P w_) 4 fCl (spCl K D CU))
    (GE : FnRn n P w_ K mg base CX0 6 fEx (spEx K C D)) (kE : PySem.W.keepIn K (.ref fEx) = true) (mE : mg "exchange" = some (.ref fEx))
    (GF : FnOk P w_ K mg base CX0 1 fCf fdCf ["start", "followers"] (spCf K)) (kF : PySem.W.keepIn K (.ref fCf) = true) (bF : Binds K fdCf ["start", "followers"] []) (mF : mg "_circle_from" = some (.ref fCf))
    (GN : FnOk P w_ K mg base CX0 2 fCn fdCn ["value", "limit"] spCn) (kN : PySem.W.keepIn K (.ref fCn) = true) (bN : Binds K fdCn ["value", "limit"] []) (mN : mg "check_number" = some (.ref fCn))
    (M : Mk K D fI) (GI : FnR P w_ K mg base CX0 3 fI (fun vs H Q E => ∃ ws rest, vs = ws ++ rest ∧ ws.length = 1 ∧ rest.length ≤ sizeLine ∧ ∀ p, H p = Option.none → spTi K D (ws ++ [V.ref p]) (upd H p (.tup rest)) Q E)) :
    FnRn n P w_ K mg base CX0 7 f (spAr K C D) := by
  refine fn_n F b scAr (fun vs H Q E h => ?_) fun cdv A outer s H vs Q E hr h => ?_
  · obtain ⟨p, q, h, w, k, g, t, rfl, _⟩ := h
    rfl
  · obtain ⟨p, q, h, w, k, g, t, rfl, T0, hV, W0, hk, kk⟩ := h
    have nd := scAr.nd
    refine ⟨_, pssn_cons (PS.up (ps_expr (pe_call GN (hr.mono (by decide)) rfl mN kN bN .nil pass0 (pa_cons (pv 2) (pa_cons (C8.pe_gc rfl T.mr) pa_nil)))))
      (pssn_cons (PS.up (ps_if (pt_cmpR op_eq (pv 2) pe_int (nomark _)) (pss_one (ps_ret (pv 0))) pss_nil))
      (pssn_cons (psn_set (i := 3) nd rfl (.inl rfl) (pen_op (op_twoN hDC sf NO hs hf GRs (hr.mono (by decide)) pass0) (PE.up (pv 0)) (PE.up (pv 1))))
      (pssn_cons (psn_set (i := 4) nd rfl (.inl rfl) (pen_call GE hr rfl mE kE pass0 (pan_cons (PE.up (pv 0)) (pan_cons (PE.up (pv 1)) pan_nil))))
      (pssn_cut (PS.up (ps_setLc (i := 5) (own := [("_", 6)]) (g := gName 6) (tt := tYes) rfl nd rfl rfl (sw_true rfl rfl rfl (by decide +kernel)) (pi_range1 (by rfl) T.range (pa_cons (pe_prop (pv 0) CT.cl PH GH (hr.mono (by decide)) bH .nil pass0 rfl) pa_nil)) (blkOk_by (N := NAr) (sc := defScope sAfterRounds) (by decide +kernel)) (fun _ _ _ _ _ => pg_name (i := 6) nd rfl (.inl rfl)) (fun _ _ _ _ _ => pts_nil)
          (fun _ _ _ _ _ => pe_op op_rep (pe_lst (pa_cons (C8.pe_gc rfl T.em) pa_nil)) (pe_prop (pv 0) CT.cl PW_ GW (hr.mono (by decide)) bW .nil pass0 rfl))))
      (pssn_cut (PS.up (ps_for PassesOwn.never rfl (pi_str (pe_prop (pv 3) CT.cl PM GM (hr.mono (by decide)) bM .nil pass0 rfl)) (pg_name (i := 7) nd rfl (.inl rfl))
          (pss_cons (ps_set (i := 8) nd rfl (.inl rfl) (pe_call GF (hr.mono (by decide)) rfl mF kF bF .nil pass0 (pa_cons (pe_callO (pv 3) CO GC (hr.mono (by decide)) passL (pa_cons (pv 7) pa_nil)) (pa_cons (pv 4) pa_nil))))
          (pss_cons (ps_asg (pe_ix ix_list (pv 8) (pe_op op_modN (pe_callTy call_int1 (by rfl) T.int (by decide +kernel) (pa_cons (pe_op op_sub (pv 2) pe_int) pa_nil)) (pe_callB call_len_seq (by rfl) T.len PySem.boot_len (pa_cons (pv 8) pa_nil))) (fun _ _ => rfl)) (pg_tup (by rfl) (pgs_cons (pg_name (i := 9) nd rfl (.inl rfl)) (pgs_cons (pg_name (i := 10) nd rfl (.inl rfl)) pgs_nil))))
          (pss_one (ps_asg (pv 7) (pg_sub (pe_ix ix_list (pv 5) (pv 9) (fun _ _ => rfl)) (pv 10) set_list)))))))
      (pssn_cons (PS.up (ps_setLc (i := 11) (own := [("line", 12)]) (g := gName 12) (tt := tYes) rfl nd rfl rfl (sw_true rfl rfl rfl (by decide +kernel)) (pi_list (pv 5)) (blkOk_by (N := NAr) (sc := defScope sAfterRounds) (by decide +kernel)) (fun _ _ _ _ _ => pg_name (i := 12) nd rfl (.inl rfl)) (fun _ _ _ _ _ => pts_nil)
          (fun _ _ _ _ _ => pe_joinK (K := K) rfl pe_str (pv 12))))
      (pssn_one (PS.up (ps_ret (pe_makeS M GI (hr.mono (by decide)) rfl CT.mgC pass0 (pv 11))))))))))), ?_⟩
    obtain ⟨dp, ap, hp, hSp⟩ := id T0
    obtain ⟨dq, hq⟩ := id W0
    have V1 := VG.tilts t hV
    have V2 := VG.tilts t V1
    refine ⟨_, rfl, k, 10 ^ 18, rfl, hk, ?_⟩
    refine ⟨_, rfl, rfl, _, rfl, ?_⟩
    by_cases k0 : k = 0
    · subst k0
      exact iteT ⟨_, rfl, kk H p (Same.refl H) T0⟩
    rw [show decide (V.int (k : Nat) = V.int 0) = false from decide_eq_false (fun z => k0 (by injection z with z; omega))]
    refine iteF ?_
    refine ⟨_, rfl, _, rfl, p, dp, _, q, dq, _, rfl, rfl, hp, hq, p, q, h, w, g, t, rfl, T0, hV, W0, fun H1 p1 sm1 ht1 => ?_⟩
    refine ⟨_, rfl, _, rfl, p, q, h, w, g, t, rfl, T0.same sm1, hV, W0.same sm1, fun H2 d qa sm2 hd0 hEx => ?_⟩
    have sm02 := sm1.trans sm2
    have Tt2 := T0.same sm02
    obtain ⟨dp2, ap2, hp2, _⟩ := id Tt2
    have h1 := hV.n1
    have h8 := hV.n8
    have w1 := hV.m1
    have w8 := hV.m8
    refine ⟨fun σ H3 => ∃ D0 ds v6, σ = [some (.ref p), some (.ref q), some (.int (k : Nat)), some (.ref p1), some (.ref d), some (.ref D0), v6, none, none, none, none, none, none] ∧ CellsAt H3 D0 ds (List.replicate h (List.replicate w 46)) ∧ ds.Nodup ∧ D0 ∉ ds ∧ H2 D0 = none ∧ (∀ b ∈ ds, H2 b = none) ∧ Same H2 H3, ?_, ?_⟩
    · refine ⟨_, rfl, p, dp2, _, rfl, hp2, p, h, w, g, rfl, Tt2, hV, (h : Int), rfl, by omega, by omega, fun D hD => lc_range (lo := 0) (n := ((h : Nat) : Int).toNat) (fun i H3 => ∃ ds, H3 D = some (.lst (ds.map V.ref)) ∧ ds.length = i ∧ (∀ b ∈ ds, H3 b = some (.lst ((List.replicate w 46).map sg))) ∧ ds.Nodup ∧ D ∉ ds ∧ (∀ b ∈ ds, H2 b = none) ∧ Same H2 H3)
        ⟨[], upd_same, rfl, fun b hb => (by cases hb), List.nodup_nil, by simp, fun b hb => (by cases hb), same_new hD⟩ ?_ ?_⟩
      · rintro i H3 hi ⟨ds, hL, hl, hrow, ndp, hDn, fr, sm⟩
        rw [Int.toNat_natCast] at hi
        refine ⟨rfl, by show 1 ≤ sizeLine; decide, fun e he => ?_⟩
        have se : Same H3 (upd H3 e (.lst [V.str (S [46])])) := same_new he
        have he' : upd H3 e (.lst [V.str (S [46])]) e = some (.lst [V.str (S [46])]) := upd_same
        generalize upd H3 e (.lst [V.str (S [46])]) = H4 at se he'
        have sm4 := sm.trans se
        refine ⟨_, rfl, p, dp2, _, rfl, sm4 _ _ hp2, p, h, w, g, rfl, Tt2.same sm4, hV, e, (w : Int), _, rfl, rfl, he', by omega, by omega, ?_, fun r hr => ?_⟩
        · show 1 * ((w : Nat) : Int).toNat ≤ 16777216
          rw [Int.toNat_natCast]
          omega
        rw [Int.toNat_natCast]
        have hL4 := se _ _ hL
        have nD : D ≠ r := ne_of_none hL4 hr
        have nl : ∀ b ∈ ds, b ≠ r := fun b hb => ne_of_none (se _ _ (hrow b hb)) hr
        refine ⟨_, by rw [upd_ne nD]; exact hL4, ?_, ds ++ [r], ?_, by simp [hl], fun b hb => ?_, ?_, ?_, ?_, same_put (sm4.trans (same_new hr)) hD⟩
        · rw [List.length_map]
          show _ < 16777216
          omega
        · rw [upd_same, List.map_append]
          rfl
        · rcases List.mem_append.mp hb with hb | hb
          · rw [upd_ne (fun z => hDn (by rw [← z]; exact hb)), upd_ne (nl b hb)]
            exact se _ _ (hrow b hb)
          · rw [List.mem_singleton.mp hb, upd_ne nD.symm, upd_same]
            exact congrArg (fun z => some (HO.lst z)) (rep_dots w)
        · rw [List.nodup_append]
          exact ⟨ndp, by simp, fun x hx y hy => by rw [List.mem_singleton.mp hy]; exact nl x hx⟩
        · intro z
          rcases List.mem_append.mp z with z | z
          · exact hDn z
          · exact nD (List.mem_singleton.mp z)
        · intro b hb
          rcases List.mem_append.mp hb with hb | hb
          · exact fr b hb
          · rw [List.mem_singleton.mp hb]
            exact sm4.free hr
      · rintro H3 ⟨ds, hL, hl, hrow, ndp, hDn, fr, sm⟩
        rw [Int.toNat_natCast] at hl
        refine ⟨D, ds, _, rfl, ⟨hL, by rw [hl, List.length_replicate], fun i a e => ?_⟩, ndp, hDn, hD, fr, sm⟩
        rw [hrow a (List.mem_of_getElem? e), List.getD_eq_getElem?_getD, List.getElem?_replicate, if_pos (by rw [← hl]; exact (List.getElem?_eq_some_iff.mp e).1)]
        rfl
    rintro σ H3 ⟨D0, ds, v6, rfl, C0, ndp, hDn, hD0, fr, sm3⟩
    obtain ⟨f0, sg0, hf0⟩ := turn_sig hV.rc V1.nd
    have hT : Two f0 (tilts h w t g).flatten (tilts h w t (tilts h w t g)).flatten := ⟨sg0, by rw [hf0, rel_flat], V1.nd, (like_tilts t V1.rc).pm⟩
    have hM := mb_let V1
    have hround : rounds h w t k g = rel (pw f0 (k - 1)) (tilts h w t g) := by
      have := rounds_pw sg0 hf0 (k - 1)
      rw [show k - 1 + 1 = k by omega] at this
      exact this
    have R1 := V1.rc
    generalize hB : (tilts h w t (tilts h w t g)).flatten = B at hT hEx
    have hA : (tilts h w t g).flatten = (tilts h w t g).flatten := rfl
    generalize hG1 : tilts h w t g = G1 at *
    have hcS : ∀ {c i : Nat}, (srt (mb G1.flatten))[i]? = some c → c ∈ mb G1.flatten := fun e => mem_srt.mp (List.mem_of_getElem? e)
    have ndS : (srt (mb G1.flatten)).Nodup := (srt_perm _).nodup_iff.mpr V1.nd
    have sS : (S (srt (mb G1.flatten))).cps.size = (srt (mb G1.flatten)).length := S_size _
    refine ⟨fun σ H4 => ∃ v7 v8 v9 v10 G, σ = [some (.ref p), some (.ref q), some (.int (k : Nat)), some (.ref p1), some (.ref d), some (.ref D0), v6, v7, v8, v9, v10, none, none] ∧ CellsAt H4 D0 ds G ∧ Fill (pw f0 (k - 1)) G1 h w (srt (mb G1.flatten)) G ∧ Same H2 H4, ?_, ?_⟩
    · have ht2 := (ht1.same sm2).same sm3
      obtain ⟨d1, a1, hp1, hS1⟩ := id ht2
      refine ⟨_, rfl, p1, d1, _, rfl, hp1, p1, h, w, _, rfl, ht2, V1, fun H4 sm4 => ⟨_, rfl, ?_⟩⟩
      refine for_it (walk_str (z := S (srt (mb G1.flatten)))) (fun i σ H5 => ∃ v7 v8 v9 v10 G, σ = [some (.ref p), some (.ref q), some (.int (k : Nat)), some (.ref p1), some (.ref d), some (.ref D0), v6, v7, v8, v9, v10, none, none] ∧ CellsAt H5 D0 ds G ∧ Fill (pw f0 (k - 1)) G1 h w ((srt (mb G1.flatten)).take i) G ∧ Same H2 H5)
        ⟨none, none, none, none, _, rfl, C0.same sm4, fill_start _ _ h w, sm3.trans sm4⟩ (fun _ _ _ _ _ => True.intro) ?_ ?_
      · rintro i x σ H5 H6 hi ⟨v7, v8, v9, v10, G, rfl, C5, F5, sm5⟩ ⟨rfl, c, hc, rfl⟩
        rw [S_at] at hc
        have hcM := hcS hc
        have c46 : c ≠ 46 := (mem_mb.mp hcM).2
        have hcA := (idx_at (mem_mb.mp hcM).1).2
        have T1 := (ht1.same sm2).same sm5
        obtain ⟨e1, b1, g1, _⟩ := id T1
        obtain ⟨L, L26, hL⟩ := ring_ex hT.ontoP hM hcM
        refine ⟨_, rfl, p1, rfl, _, rfl, ⟨e1, _, g1⟩, p1, _, h, w, _, rfl, T1, V1, .inl ⟨c, G1.flatten.idxOf c, rfl, c46, hcA, fun H7 q1 sm7 hq1 hq1' => ?_⟩⟩
        have hEx7 := (hEx.same sm5).same sm7
        obtain ⟨va, va0, va1⟩ : ∃ va : Nat → Addr, va 0 = q1 ∧ ∀ j, va (j + 1) = qa (pw (nxt B G1.flatten) j c) := ⟨fun j => match j with | 0 => q1 | j + 1 => qa (pw (nxt B G1.flatten) j c), rfl, fun _ => rfl⟩
        have inM : ∀ j, pw (nxt B G1.flatten) j c ∈ mb G1.flatten := pw_mem hT.ontoP.mem hcM
        have cont : ∀ j, H7 (va j) = some (.tup (plV w (G1.flatten.idxOf (pw (nxt B G1.flatten) j c)))) := fun j => by
          match j with
          | 0 => rw [va0]; exact hq1'
          | j + 1 =>
            rw [va1, hEx7.2 _ (mem_srt.mpr (inM j)), ← (hT.prv (inM j)).2.2.2]
            rfl
        have idx_inj : ∀ {a b : Nat}, a ∈ mb G1.flatten → b ∈ mb G1.flatten → G1.flatten.idxOf a = G1.flatten.idxOf b → a = b := fun ha hb e => by
          have e1 := (idx_at (mem_mb.mp ha).1).2
          have e2 := (idx_at (mem_mb.mp hb).1).2
          rw [e, e2] at e1
          exact (Option.some.inj e1).symm
        refine ⟨_, rfl, .ref q1, d, fun j => .ref (va j), fun j => plD w (G1.flatten.idxOf (pw (nxt B G1.flatten) j c)), L, rfl, congrArg V.ref va0, hL.one, by omega, fun j hj => ?_, fun j hj => ⟨fun H' s' => pl_dp (s' _ _ (cont j)), pl_shaped _ _⟩, fun j j1 jL => ?_, fun H8 l sm8 hl hl' => ?_⟩
        · have e := DGet.t (k := plK w (G1.flatten.idxOf (pw (nxt B G1.flatten) j c))) hEx7.1 (b := va j) (by rw [plKV]; exact cont j)
          rw [valV_at (f := fun m => plK w (G1.flatten.idxOf m)) (v := fun m => V.ref (qa m)) (mem_srt.mpr (inM j)) (fun a ha z => idx_inj (mem_srt.mp ha) (inM j) (plK_inj z)), ← va1] at e
          exact e
        · rw [pl_eqv]
          refine decide_eq_decide.mpr ⟨fun z => ?_, fun z => by subst z; rw [hL.back]; rfl⟩
          have e := idx_inj (inM j) (inM 0) z
          exact Classical.byContradiction fun n => hL.no j j1 (by omega) e
        have hjL : (k - 1) % L < L := Nat.mod_lt _ hL.one
        have emod : ((k : Int) - 1).fmod ((L : Nat) : Int) = (((k - 1) % L : Nat) : Int) := by
          rw [show (k : Int) - 1 = ((k - 1 : Nat) : Int) by omega, Int.fmod_eq_emod_of_nonneg _ (by omega)]
          rfl
        have pj := hL.mod (k - 1)
        have cj := cont ((k - 1) % L)
        rw [pj] at cj
        have bM := inM (k - 1)
        have fb := hT.pw_back hcM (k - 1)
        generalize pw (nxt B G1.flatten) (k - 1) c = bb at cj bM fb
        have b46 : bb ≠ 46 := (mem_mb.mp bM).2
        have hbA := idx_at (mem_mb.mp bM).1
        obtain ⟨r1, c1, ecell⟩ := at_flat R1 hbA.1
        rw [hbA.2] at ecell
        have ecell := (Option.some.inj ecell).symm
        generalize hrr : G1.flatten.idxOf bb / w = rr at r1 ecell
        generalize hcc : G1.flatten.idxOf bb % w = cc at c1 ecell
        have ep : plV w (G1.flatten.idxOf bb) = [V.int (rr : Nat), V.int (cc : Nat)] := by rw [← hrr, ← hcc]; rfl
        rw [ep] at cj
        refine ⟨_, rfl, _, rfl, _, _, rfl, rfl, .inl ⟨_, rfl, _, rfl, l, _, rfl, .inl (SqL.of hl'), _, _, rfl, rfl, ?_, l, _, _, .ref (va ((k - 1) % L)), rfl, rfl, SqL.of hl', ?_, ?_⟩⟩
        · rw [List.length_map, List.length_range]
          have := hL.one
          omega
        · rw [List.length_map, List.length_range, emod]
          exact atI_nat (by rw [List.getElem?_map, List.getElem?_range hjL]; rfl)
        refine ⟨_, _, rfl, SqT.of (sm8 _ _ cj), rfl, _, _, rfl, _, _, rfl, rfl, ?_⟩
        have C8 := (C5.same sm7).same sm8
        have hlen : rr < ds.length := by rw [C8.2.1, F5.rc.1]; exact r1
        have er := List.getElem?_eq_getElem hlen
        have hbr := C8.row er
        have hw8 : (G.getD rr []).length = w := getD_len F5.rc r1
        refine ⟨_, rfl, _, rfl, _, rfl, D0, _, _, _, rfl, rfl, SqL.of C8.1, atI_nat (by rw [List.getElem?_map, er]; all_goals rfl), _, rfl, ds[rr], _, _, cc, rfl, rfl, hbr, ?_, ?_⟩
        · rw [List.length_map, hw8]
          unfold ixN
          rw [if_pos (by omega), if_pos (by omega), Int.toNat_natCast]
        rw [← List.map_set]
        have take1 : (srt (mb G1.flatten)).take (i + 1) = (srt (mb G1.flatten)).take i ++ [c] := by rw [List.take_add_one, hc]; rfl
        refine ⟨_, _, _, _, putc G rr cc c, rfl, C8.put ndp hDn er, ?_, same_put ((sm5.trans sm7).trans sm8) (fr _ (List.getElem_mem hlen))⟩
        rw [take1]
        refine F5.put r1 c1 (by rw [ecell]; exact b46) (by rw [ecell]; exact fb) fun r2 c2 hr2 hc2 n2 e2 => ?_
        have aM : cell G1 r2 c2 ∈ mb G1.flatten := mem_mb.mpr ⟨List.mem_of_getElem? (flat_at R1 hr2 hc2), n2⟩
        have e3 : cell G1 r2 c2 = cell G1 rr cc := by
          rw [ecell]
          exact pw_inj hT.onto (k - 1) aM bM (e2.trans fb.symm)
        exact same_cell R1 V1.nd hr2 hc2 r1 c1 e3 n2
      · rintro σ H5 ⟨v7, v8, v9, v10, G, rfl, C5, F5, sm5⟩
        rw [S_size, List.take_length] at F5
        exact ⟨v7, v8, v9, v10, G, rfl, C5, F5, sm5⟩
    rintro σ H4 ⟨v7, v8, v9, v10, G, rfl, C4, F4, sm4⟩
    have eG : G = rounds h w t k g := by
      rw [hround]
      refine F4.all R1 (pw_46 sg0.z _) fun r c hr hc n => mem_srt.mpr (pw_mem hT.onto.mem (mem_mb.mpr ⟨List.mem_of_getElem? (flat_at R1 hr hc), n⟩) _)
    have VG_ : VG h w G := by
      rw [eG]
      exact VG.rounds k hV
    have RG := F4.rc
    have hlg := VG_.len
    refine ⟨_, rfl, D0, rfl, ⟨_, SqL.of C4.1⟩, fun E2 hE2 => lc_list (K := K) (a := D0) (xs := ds.map V.ref) (fun i H5 => Same H4 H5 ∧ H5 E2 = some (.lst ((G.take i).map fun r => V.str (S r))))
      ⟨same_new hE2, upd_same⟩ (fun i H5 _ ⟨sm, _⟩ => SqL.of (sm _ _ C4.1)) ?_ ?_⟩
    · rintro i x H5 hi ⟨sm, hL⟩
      obtain ⟨b, hb, rfl⟩ := at_map hi
      have hi' : i < G.length := by rw [← C4.2.1]; exact (List.getElem?_eq_some_iff.mp hb).1
      have hrow := getD_at hi'
      have hlr : (G.getD i []).length = w := getD_len RG (by rw [← RG.1]; exact hi')
      have hbr := sm _ _ (C4.row hb)
      generalize G.getD i [] = r at hrow hlr hbr
      refine ⟨rfl, ⟨_, rfl⟩, _, rfl, _, b, r.map fun c => S [c], rfl, rfl, .inl ?_, ?_, _, hL, ?_, ?_⟩
      · rw [List.map_map]
        exact SqL.of hbr
      · rw [sum_ones, List.length_map]
        show _ + _ * 0 ≤ 16777216
        omega
      · rw [List.length_map, List.length_take]
        show _ < 16777216
        omega
      · refine ⟨same_put sm hE2, ?_⟩
        rw [upd_same, take_map_snoc hrow, join_signs]
    · rintro H5 ⟨sm, hL⟩
      rw [List.length_map, C4.2.1, List.take_length] at hL
      refine ⟨_, rfl, E2, rowV G, rfl, .inr (SqL.of hL), fun x dx nx ndx nex => ?_⟩
      refine ⟨[.ref x], rowV G, rfl, rfl, ?_, fun pt hpt => ?_⟩
      · rw [List.length_map]
        show _ ≤ 16777216
        omega
      have hpx : x ≠ pt := fun z => by rw [← z, upd_same] at hpt; cases hpt
      refine ⟨x, dx, pt, h, w, G, rfl, by rw [upd_ne hpx, upd_same], SqT.of upd_same, VG_, fun H' ht kp => ⟨rfl, ?_⟩⟩
      rw [eG] at ht
      refine kk _ _ (((sm02.trans sm4).trans sm).trans fun b o e => ?_) ht
      have hbx : b ≠ x := ne_of_none e nx
      have hbd : b ≠ dx := ne_of_none e ndx
      have e2 : (upd (upd H5 dx (.own x)) x (.ins D dx [])) b = some o := by rw [upd_ne hbx, upd_ne hbd]; exact e
      exact kp b o (by rw [upd_ne (ne_of_none e2 hpt)]; exact e2) hbx
end
end TR
end
namespace TM
end TM
namespace TR
end TR
section
set_option Elab.async false
set_option maxRecDepth 100000
set_option linter.all false
namespace TM
end TM
namespace TR
open PySem PySem.Spec PyProof.Rows L2 TM TK TB TP TH TU
section
variable {X : Cx} {n : Nat}
/-- a walk whose source wants n tokens out -/
def PIn (n : Nat) (X : Cx) (tg iter : Expr) (wi : TI) : Prop := ∀ (pins : List (Addr × Obj)) (s : Shared) (σ : L2.St) (H : Hp) (R : It → Hp → Prop), n ≤ s.toks → Inv X pins σ H s → wi σ H R →
  wpAny (model X.prog X.w) X.A (eval iter X.env) (fun v s1 => wpAny (model X.prog X.w) X.A (pyIter v) (PIE X pins σ tg R) X.xe s1) X.xe s
end
section
variable {X : Cx}
end
section
variable {P : Program} {w_ : World} {K : PySem.W.Frag} {mg : Str → Option Value} {base : Heap} {C D fCi : Addr} {n : Nat}
end
end TR
end
section
set_option Elab.async false
set_option maxRecDepth 100000
set_option linter.all false
namespace TH
open PySem PySem.Spec PyProof.Rows L2 TR
section
variable {X : Cx} {n : Nat} {pins : List (Addr × Obj)} {σ : L2.St}
def PTsn (n : Nat) (X : Cx) (ifs : List Expr) (t : TT) : Prop := ∀ (pins : List (Addr × Obj)) (s : Shared) (σ : L2.St) (H : Hp) (Q : Bool → Hp → Prop), n ≤ s.toks → Inv X pins σ H s → t σ H Q →
  wpAny (model X.prog X.w) X.A (forIn ifs true fun c r => if r = true then do let ok ← isTrue c X.env (eval c X.env); pure (ForInStep.yield ok) else pure (ForInStep.yield r)) (TP X pins σ Q) X.xe s
theorem ptsn_nil : PTsn n X [] tYes := fun _ _ _ H _ _ I h => wpAny_tests_nil ⟨H, I, h⟩
theorem ptsn_one {c : Expr} {t : TT} (h : PTn n X c t) : PTsn n X [c] t := fun pins s σ H Q hn I hw => wpAny_tests_one (h pins s σ H Q hn I hw)
theorem _root_.L2.PTs.up {ifs : List Expr} {t : TT} (h : PTs X ifs t) : PTsn n X ifs t := fun pins s σ H Q _ I q => h.run pins s σ H Q I q
theorem _root_.L2.PI.up {tg iter : Expr} {wi : TI} (h : PI X tg iter wi) : PIn n X tg iter wi := fun pins s σ H R _ I q => h.run pins s σ H R I q
/-- what a comprehension reads of its loop -/
abbrev LcF (g : TG) (tt : TT) (te : TE) (vs : List Nat) (σ : L2.St) (J : It) (D : Addr) (W : Nat → Nat → Hp → Prop) (Qd : Hp → Prop) : Prop := ∀ i m H, W i m H →
  (J.stop i H ∧ Qd H) ∨ (J.go i H ∧ ∃ Nx : Hp → Prop, (∀ H', Nx H' → ∃ m', m' < m ∧ W (i + 1) m' H') ∧ ∀ x H', J.yld i H x H' → g x (wipe σ vs) H' fun σ2 H2 => wipe σ2 vs = wipe σ vs ∧ tt σ2 H2 fun b H3 =>
    if b = true then te σ2 H3 fun y H4 => ∃ acc, H4 D = some (.lst acc) ∧ acc.length < sizeLine ∧ Nx (upd H4 D (.lst (acc ++ [y]))) else Nx H3)
theorem lcf_loop {B : Cx} {elt tg iter : Expr} {ifs : List Expr} {scope : Scope} {pos : Pos} {g : TG} {tt : TT} {te : TE} {vs : List Nat} {J : It} {fp : List Addr} {it D : Addr} {tn : Nat → Heap → Prop} {W : Nat → Nat → Hp → Prop} {Qd : Hp → Prop} {R : Result → Shared → Prop} {H : Hp} {s : Shared} {m0 : Nat}
    (hx : ∀ b ∈ fp, b ∈ B.ex) (hpn : B.pn = []) (hxe : B.xe = fun _ _ => False) (hc : B.calm = true) (T : Turn B.prog B.w B.K tg J fp it tn) (pg : PG B tg g) (pt : PTsn n B ifs tt) (pe : PEn n B elt te) (turn : LcF g tt te vs σ J D W Qd)
    (fin : ∀ H' s', Inv B [] (wipe σ vs) H' s' → Qd H' → R (.ok .next) s') (hn : n ≤ s.toks) (I : Inv B [] (wipe σ vs) H s) (st : tn 0 s.heap) (hf : ∀ b ∈ fp, H b = none) (w0 : W 0 m0 H) :
    codeAny (model B.prog B.w) B.A (.compLoop (.ListComp elt [⟨tg, iter, ifs, 0⟩] scope pos) 0 (.ref it) (.ref D) B.env) R s := by
  refine compLoop_any (fun m t => n ≤ t.toks ∧ ∃ i H', Inv B [] (wipe σ vs) H' t ∧ tn i t.heap ∧ (∀ b ∈ fp, H' b = none) ∧ W i m H') ?_ m0 ⟨hn, 0, H, I, st, hf, w0⟩
  rintro m t ⟨hm, i, H1, I1, st1, f1, w1⟩
  rcases turn i m H1 w1 with ⟨stop, qd⟩ | ⟨go, Nx, hNx, step⟩
  · refine thnFN hm (T.done B rfl rfl rfl hc i [] t _ H1 (fun _ _ => False) I1 (blk_fp hx hpn I1 f1) st1 stop) fun r t2 _ ⟨e, I2⟩ => ?_
    rw [e]
    exact fin H1 t2 I2 qd
  · refine thnFN hm (T.item B rfl rfl rfl hc i [] t _ H1 (fun _ _ => False) I1 (blk_fp hx hpn I1 f1) st1 go) fun r t2 hm2 ⟨u, e, more⟩ => ?_
    rw [e]
    refine thnFN hm2 more fun _ t3 hm3 ⟨x, H3, I3, rx, y3, st3, f3⟩ => ?_
    have pinned := I3.pinned (blk_fp hx hpn I3 f3) (T.obj _ _ st3)
    have h4 := pg.run _ t3 _ H3 x u _ pinned rx (step x H3 y3)
    rw [hxe] at h4
    refine thnFN hm3 h4 fun _ t4 hm4 ⟨σ4, H4, I4, w4, q4⟩ => ?_
    have again : ∀ {t6 : Shared} {H6 : Hp}, n ≤ t6.toks → Inv B ([] ++ pinsAt fp t3.heap) σ4 H6 t6 → Nx H6 → ∃ m', m' < m ∧ (n ≤ t6.toks ∧ ∃ i H', Inv B [] (wipe σ vs) H' t6 ∧ tn i t6.heap ∧ (∀ b ∈ fp, H' b = none) ∧ W i m' H') := fun {t6 H6} hm6 I6 nx6 => by
      obtain ⟨m', lt, w6⟩ := hNx H6 nx6
      obtain ⟨k1, k2, k3⟩ := blk_turn T st3 w4 I6
      exact ⟨m', lt, hm6, i + 1, H6, k1, k2, k3, w6⟩
    have h5 := pt _ t4 σ4 H4 _ hm4 I4 q4
    rw [hxe] at h5
    refine thnFN hm4 h5 fun b t5 hm5 ⟨H5, I5, q5⟩ => ?_
    cases b with
    | false =>
      rw [if_neg Bool.false_ne_true] at q5 ⊢
      exact again hm5 I5 q5
    | true =>
      rw [if_pos rfl] at q5 ⊢
      have h6 := pe _ t5 σ4 H5 _ hm5 I5 q5
      rw [hxe] at h6
      refine thnFN hm5 h6 fun z t6 hm6 ⟨yv, H6, I6, r6, acc, hD, hz, nx⟩ => ?_
      exact thnFN hm6 (app_ok (X := B) (E := fun _ _ => False) (Q := fun _ t7 => ∃ H7, Inv B _ σ4 H7 t7 ∧ Nx H7) I6 hD hz r6 fun t7 I7 => ⟨_, I7, nx⟩) fun _ t7 hm7 ⟨H7, I7, nx7⟩ => again hm7 I7 nx7
theorem lcf_core {s : Shared} {H : Hp} {Q : VK} {elt tg iter : Expr} {ifs : List Expr} {scope : Scope} {own : List (Str × Nat)} {pos pos' : Pos} {wi : TI} {g : TG} {tt : TT} {te : TE} {use : Option (Value → Sem Unit)} {Qf : Value → Shared → Prop}
    (hc : X.calm = true) (hN : X.N.Nodup) (hn : n ≤ s.toks) (I : Inv X pins σ H s) (hi : PIn n X tg iter wi) (ok : BlkOk X.N X.env.scope scope own)
    (hg : ∀ (s : Shared) (H : Hp) (C : Addr) (cl : List (Str × Addr)) (fp : List Addr), PG (X.blk s H scope (compEnvC scope cl C X.env) fp) tg g)
    (ht : ∀ (s : Shared) (H : Hp) (C : Addr) (cl : List (Str × Addr)) (fp : List Addr), PTsn n (X.blk s H scope (compEnvC scope cl C X.env) fp) ifs tt)
    (he : ∀ (s : Shared) (H : Hp) (C : Addr) (cl : List (Str × Addr)) (fp : List Addr), PEn n (X.blk s H scope (compEnvC scope cl C X.env) fp) elt te) (hs : ∀ x, foldedSetIterable iter X.env x = pure x)
    (h : tLc wi g tt te (own.map (·.2)) σ H Q)
    (hRR : ∀ D C s' m H', Inv X pins σ H' s' → Q (.ref D) H' → s'.heap.Ns C m → FpOk X pins H' C → compPost (model X.prog X.w) X.A X.xe use Qf (.ref D) C (.ok .next) s') :
    wpAny (model X.prog X.w) X.A (comprehension (.ListComp elt [⟨tg, iter, ifs, 0⟩] scope pos) scope X.env pos' (newList []) false (eval iter X.env) use) Qf X.xe s := by
  have known : ∀ y ∈ scope.names, y.2 = .free → ∃ c, X.env.cells.lookup y.1 = some c := fun y hy e => (ok.free y hy e).elim (fun k => I.ok.has _ (.inl k)) fun k => I.ok.has _ (.inr k)
  refine wpAny_comprehension_free (use := use) rfl hs (closure_ok known) ok.kind (fun y hy e => by rw [ok.uniq y hy, e]) ?_
  refine thnN hn (hi pins s σ H _ hn I h) fun xv s1 hn1 hx => thnN hn1 hx fun itv s2 hn2 h2 => ?_
  obtain ⟨it, fp, tn, J, H2, rfl, I2, T, st2, f2, q⟩ := h2
  refine wpAny_newObj_type (newEnv_comp ?_) (by show 0 ≤ sizeLine; decide)
  have free2 : H2 s2.heap.objs.size = none := I2.hok.fresh (Nat.le_refl _)
  have below : ∀ b ∈ fp, b < s2.heap.objs.size := fun b hb => by
    obtain ⟨o, e, _⟩ := T.obj _ _ st2 b hb
    exact Heap.lt_size e
  have laid3 : Inv X pins σ (upd H2 s2.heap.objs.size (.lst [])) { s2 with heap := s2.heap.push { cls := .type "list", data := .seq ([] : List Value).toArray } } :=
    I2.laid (t' := s2.toks) (fun b o e => Heap.get?_push_of_some _ e) (Nat.le_refl _) ⟨Nat.zero_le _, [], 0, .nil, Heap.get?_push_size _ rfl⟩
  have st3 : tn 0 (s2.heap.push { cls := .type "list", data := .seq ([] : List Value).toArray }) := T.keep _ _ _ st2 fun b _ o e => Heap.get?_push_of_some _ e
  obtain ⟨W, ⟨m0, w0⟩, turn⟩ := q _ free2
  generalize hD : s2.heap.objs.size = D at free2 below laid3 turn w0 ⊢
  generalize hH3 : upd H2 D (.lst []) = H3 at laid3 w0
  have f3 : ∀ b ∈ fp, FpOk X pins H3 b ∧ b < ({ s2 with heap := s2.heap.push { cls := .type "list", data := .seq ([] : List Value).toArray } } : Shared).heap.objs.size := fun b hb => by
    have lt := below b hb
    refine ⟨⟨?_, (f2 b hb).2⟩, ?_⟩
    · rw [← hH3, upd_ne (Nat.ne_of_lt lt)]
      exact (f2 b hb).1
    · show b < (s2.heap.push _).objs.size
      rw [Heap.size_push, hD]
      exact Nat.lt_succ_of_lt lt
  generalize hs3 : ({ s2 with heap := s2.heap.push { cls := .type "list", data := .seq ([] : List Value).toArray } } : Shared) = s3 at laid3 f3
  have h3 : s2.heap.push { cls := .type "list", data := .seq ([] : List Value).toArray } = s3.heap := by rw [← hs3]
  have hn3 : n ≤ s3.toks := by rw [← hs3]; exact hn2
  rw [h3] at st3
  have I4 := block_start laid3 ok hN f3
  have st4 : tn 0 (pushCells (s3.heap.push { cls := .type "dict", data := .dict #[] }) scope.names) := T.keep _ _ _ st3 fun b _ o e => pushCells_keeps _ _ _ _ (Heap.get?_push_of_some _ e)
  show codeAny _ _ (.compStart (.ListComp elt [⟨tg, iter, ifs, 0⟩] scope pos) 0 (.ref it) (.ref D) (blkE X scope s3)) (compPost (model X.prog X.w) X.A X.xe use Qf (.ref D) s3.heap.objs.size) { s3 with heap := pushCells (s3.heap.push { cls := .type "dict", data := .dict #[] }) scope.names }
  have loop : codeAny (model X.prog X.w) X.A (.compLoop (.ListComp elt [⟨tg, iter, ifs, 0⟩] scope pos) 0 (.ref it) (.ref D) (blkE X scope s3)) (compPost (model X.prog X.w) X.A X.xe use Qf (.ref D) s3.heap.objs.size) { s3 with heap := pushCells (s3.heap.push { cls := .type "dict", data := .dict #[] }) scope.names } := by
    refine lcf_loop (B := X.blk s3 H3 scope (blkE X scope s3) fp) (n := n) (J := J) (Qd := Q (.ref D)) (W := W) (vs := own.map (·.2)) (σ := σ) (fun b hb => hb) rfl rfl hc T (hg _ _ _ _ _) (ht _ _ _ _ _) (he _ _ _ _ _) turn ?_ hn3 I4 st4 (fun b hb => (f3 b hb).1.1) w0
    intro H' s' J' qd
    have back : Inv X pins σ H' s' := laid3.call' (ch := fp) J'.os J'.base J'.hok J'.bare fun b hb => ⟨(f3 b hb).1.2.2.2.1, (f3 b hb).1.2.1, (f3 b hb).1.2.2.2.2.1, (f3 b hb).1.2.2.2.2.2⟩
    obtain ⟨m, hm, _⟩ := J'.loc
    exact hRR D s3.heap.objs.size s' m H' back qd hm (laid3.fpOk (Nat.le_refl _) J'.free)
  exact codeAny_compStart_list loop (T.self X.A 0 _ _ _ st4 loop)
/-- [e for x in xs if c], all where n tokens are out -/
theorem pen_lcF {elt tg iter : Expr} {ifs : List Expr} {scope : Scope} {own : List (Str × Nat)} {pos : Pos} {wi : TI} {g : TG} {tt : TT} {te : TE} (hc : X.calm = true) (hN : X.N.Nodup) (hi : PIn n X tg iter wi) (ok : BlkOk X.N X.env.scope scope own)
    (hg : ∀ (s : Shared) (H : Hp) (C : Addr) (cl : List (Str × Addr)) (fp : List Addr), PG (X.blk s H scope (compEnvC scope cl C X.env) fp) tg g)
    (ht : ∀ (s : Shared) (H : Hp) (C : Addr) (cl : List (Str × Addr)) (fp : List Addr), PTsn n (X.blk s H scope (compEnvC scope cl C X.env) fp) ifs tt)
    (he : ∀ (s : Shared) (H : Hp) (C : Addr) (cl : List (Str × Addr)) (fp : List Addr), PEn n (X.blk s H scope (compEnvC scope cl C X.env) fp) elt te) (hs : ∀ x, foldedSetIterable iter X.env x = pure x := by intro _; rfl) :
    PEn n X (.ListComp elt [⟨tg, iter, ifs, 0⟩] scope pos) (tLc wi g tt te (own.map (·.2))) := by
  intro pins s σ H Q hn I h
  rw [eval_ListComp]
  refine lcf_core hc hN hn I hi ok hg ht he hs h fun D C s' m H' I' q hns f => ⟨m, hns, fun h2 sb => ?_⟩
  obtain ⟨a0, a1, _, a3, a4, a5⟩ := f
  exact ⟨.ref D, H', I'.turned (t' := s'.toks) (fun b o hb e => (sb.2 b hb).trans e) a0 a1 a3 a4 a5, rfl, q⟩
end
end TH
end
section
set_option maxHeartbeats 4000000
set_option linter.all false
namespace TM
def fives : Nat → Nat
  | 0 => 0
  | k + 1 => 5 * fives k + 1
theorem fives_add (j : Nat) : ∀ d, fives (j + d) = fives d * (4 * fives j + 1) + fives j
  | 0 => by simp [fives]
  | d + 1 => by
    show 5 * fives (j + d) + 1 = _
    rw [fives_add j d]
    show _ = (5 * fives d + 1) * (4 * fives j + 1) + fives j
    rw [Nat.add_mul, Nat.mul_assoc 5]
    omega
theorem fives_two (d : Nat) : fives (2 * d) = 2 * (fives d * (2 * fives d + 1)) := by
  rw [show 2 * d = d + d by omega, fives_add]
  generalize fives d = x
  rw [Nat.mul_add, Nat.mul_add, show x * (4 * x) = 2 * (x * (2 * x)) by rw [Nat.mul_left_comm 2, show 4 * x = 2 * (2 * x) by omega]]
  omega
theorem fives_odd : ∀ d, fives (2 * d + 1) % 2 = 1 := fun d => by
  show (5 * fives (2 * d) + 1) % 2 = 1
  rw [fives_two]
  omega
theorem dvd_odd {x : Nat} : ∀ {n y : Nat}, y % 2 = 1 → 2 ^ n ∣ x * y → 2 ^ n ∣ x := fun {n y} hy h => by
  have hc : Nat.Coprime (2 ^ n) y := by
    refine Nat.Coprime.pow_left n ?_
    rw [Nat.coprime_iff_gcd_eq_one]
    have h1 : Nat.gcd 2 y ∣ 2 := Nat.gcd_dvd_left 2 y
    have h2 : Nat.gcd 2 y ∣ y := Nat.gcd_dvd_right 2 y
    have h3 : Nat.gcd 2 y ≤ 2 := Nat.le_of_dvd (by decide) h1
    have h0 : 0 < Nat.gcd 2 y := Nat.gcd_pos_of_pos_left _ (by decide)
    rcases (show Nat.gcd 2 y = 1 ∨ Nat.gcd 2 y = 2 by omega) with e | e
    · exact e
    · rw [e] at h2
      omega
  exact hc.dvd_of_dvd_mul_right h
theorem fives_dvd : ∀ (n d : Nat), 2 ^ n ∣ fives d → 2 ^ n ∣ d
  | 0, d, _ => by simp
  | n + 1, d, h => by
    have h2 : 2 ∣ fives d := Nat.dvd_trans (by rw [Nat.pow_succ]; exact Nat.dvd_mul_left 2 _) h
    have hd : d = 2 * (d / 2) := by
      rcases Nat.mod_two_eq_zero_or_one d with e | e
      · omega
      · have o := fives_odd (d / 2)
        rw [show 2 * (d / 2) + 1 = d by omega] at o
        omega
    rw [hd, fives_two, Nat.pow_succ, Nat.mul_comm _ 2] at h
    have h3 := Nat.dvd_of_mul_dvd_mul_left (by decide : 0 < 2) h
    have h4 := dvd_odd (by omega : (2 * fives (d / 2) + 1) % 2 = 1) h3
    have h5 := fives_dvd n (d / 2) h4
    rw [hd, Nat.pow_succ, Nat.mul_comm _ 2]
    exact Nat.mul_dvd_mul_left 2 h5
theorem fives_inj {n i j : Nat} (hi : i < 2 ^ n) (hj : j < 2 ^ n) (h : fives i % 2 ^ n = fives j % 2 ^ n) : i = j := by
  have key : ∀ {i j : Nat}, i ≤ j → j < 2 ^ n → fives i % 2 ^ n = fives j % 2 ^ n → i = j := fun {i j} hij hj h => by
    obtain ⟨d, rfl⟩ : ∃ d, j = i + d := ⟨j - i, by omega⟩
    rw [fives_add] at h
    have h1 : 2 ^ n ∣ fives d * (4 * fives i + 1) := by
      refine Nat.dvd_of_mod_eq_zero ?_
      have := Nat.sub_mod_eq_zero_of_mod_eq h.symm
      rwa [Nat.add_sub_cancel] at this
    have h2 := fives_dvd n d (dvd_odd (by omega) h1)
    rcases Nat.eq_zero_or_pos d with e | e
    · omega
    · have := Nat.le_of_dvd e h2
      omega
  rcases Nat.le_total i j with q | q
  · exact key q hj h
  · exact (key q hi h.symm).symm
theorem fives_pow : ∀ n, 2 ^ n ∣ fives (2 ^ n)
  | 0 => by simp
  | n + 1 => by
    rw [Nat.pow_succ, Nat.mul_comm _ 2, fives_two]
    exact Nat.mul_dvd_mul_left 2 (Nat.dvd_trans (fives_pow n) (Nat.dvd_mul_right _ _))
theorem lcgN_fives {m : Nat} (hm : 0 < m) : ∀ k, L2.lcgN m k = fives k % (m + 1)
  | 0 => by
    show 0 = 0 % (m + 1)
    simp
  | k + 1 => by
    show (L2.lcgN m k * 5 + 1) % (m + 1) = (5 * fives k + 1) % (m + 1)
    rw [lcgN_fives hm k, Nat.add_mod, Nat.mod_mul_mod, Nat.mul_comm, ← Nat.add_mod]
/-- a table of any size -/
def MaskN (m : Nat) : Prop := ∃ n, 1 ≤ n ∧ m + 1 = 2 ^ n
theorem MaskN.pos {m : Nat} (h : MaskN m) : 0 < m := by
  obtain ⟨n, h1, h2⟩ := h
  have : 2 ^ 1 ≤ 2 ^ n := Nat.pow_le_pow_right (by decide) h1
  omega
theorem lcg_allN {m : Nat} (hm : MaskN m) {j : Nat} (hj : j ≤ m) : ∃ b, b ≤ m ∧ L2.lcgN m b = j := by
  obtain ⟨n, h1, h2⟩ := id hm
  rcases Classical.em (∃ b, b ≤ m ∧ L2.lcgN m b = j) with c | c
  · exact c
  · exfalso
    have nd : ((List.range (m + 1)).map (L2.lcgN m)).Nodup := by
      refine List.pairwise_map.mpr (List.nodup_range.imp_of_mem fun {a b} ha hb hne e => hne ?_)
      have ha := List.mem_range.mp ha
      have hb := List.mem_range.mp hb
      rw [lcgN_fives hm.pos, lcgN_fives hm.pos, h2] at e
      rw [h2] at ha hb
      exact fives_inj ha hb e
    have le := L2.nat_nodup_len _ ((List.range (m + 1)).erase j) nd fun x hx => by
      obtain ⟨b, hb, rfl⟩ := List.mem_map.mp hx
      have hb := List.mem_range.mp hb
      have hlt : L2.lcgN m b < m + 1 := by
        rw [lcgN_fives hm.pos]
        exact Nat.mod_lt _ (by omega)
      exact (List.mem_erase_of_ne fun e => c ⟨b, by omega, e⟩).mpr (List.mem_range.mpr hlt)
    rw [List.length_map, List.length_erase_of_mem (List.mem_range.mpr (by omega)), List.length_range] at le
    omega
theorem lcgN_modN {m : Nat} (hm : MaskN m) (k : Nat) : L2.lcgN m (m + 1 + k) = L2.lcgN m k := by
  obtain ⟨n, h1, h2⟩ := id hm
  rw [lcgN_fives hm.pos, lcgN_fives hm.pos, h2, Nat.add_comm, fives_add]
  obtain ⟨c, e⟩ := fives_pow n
  rw [e, Nat.mul_assoc, Nat.mul_add_mod]
/-- from anywhere each slot is met within a round -/
theorem lcgI_allN {m : Nat} (hm : MaskN m) {i j : Nat} (hi : i ≤ m) (hj : j ≤ m) : ∃ k, k ≤ m ∧ L2.lcgI m i k = j := by
  obtain ⟨a, ha, rfl⟩ := lcg_allN hm hi
  obtain ⟨b, hb, rfl⟩ := lcg_allN hm hj
  by_cases q : a ≤ b
  · exact ⟨b - a, by omega, by rw [L2.lcgN_add, show a + (b - a) = b by omega]⟩
  · exact ⟨m + 1 + b - a, by omega, by rw [L2.lcgN_add, show a + (m + 1 + b - a) = m + 1 + b by omega, lcgN_modN hm]⟩
/-- each slot begins a run early enough -/
theorem run_meetsN {m : Nat} (hm : MaskN m) (h : Int) {j : Nat} (hj : j ≤ m) : ∃ n, n ≤ m + 12 ∧ L2.runI m (PySem.SetTable.bits h) n = j := by
  obtain ⟨k, hk, e⟩ := lcgI_allN hm (L2.runI_le m (PySem.SetTable.bits h) 12) hj
  exact ⟨12 + k, by omega, by rw [L2.runI_tail (L2.bits_lt h)]; exact e⟩
/-- each slot is met within the search's bound -/
theorem nth_meetsN {m : Nat} (hm : MaskN m) (h : Int) {j : Nat} (hj : j ≤ m) : ∃ k, k < 10 * PySem.SetTable.turns m ∧ (L2.nth m (L2.runAt m (PySem.SetTable.bits h % (m + 1)) (PySem.SetTable.bits h)) k).j = j := by
  obtain ⟨n, hn, e⟩ := run_meetsN hm h hj
  obtain ⟨k, hk, e2⟩ := L2.run_nth m (PySem.SetTable.bits h) n
  refine ⟨k, by unfold PySem.SetTable.turns; omega, ?_⟩
  rw [e2]
  exact e
end TM
end
section
set_option maxHeartbeats 4000000
set_option linter.all false
namespace TM
open PySem PySem.Spec PyProof.Rows L2
/-- the slots of a table: rising, within the mask, none given up, each found from its hash over full slots -/
structure Tab (t : SetTable) (hs : List Int) : Prop where
  up : Ris t.place.toList
  none_ : t.dummies = #[]
  cnt : t.place.toList.length = hs.length
  msk : MaskN t.mask
  le : ∀ x ∈ t.place.toList, x ≤ t.mask
  on : ∀ (i : Nat) (h : Int) (j : Nat), hs[i]? = some h → t.place.toList[i]? = some j → ∃ k, way t.mask h k = j ∧ ∀ k', k' < k → way t.mask h k' ∈ t.place.toList
theorem wayN_le {m : Nat} (h : Int) (k : Nat) : way m h k ≤ m := by
  have start : (runAt m (SetTable.bits h % (m + 1)) (SetTable.bits h)).j + (runAt m (SetTable.bits h % (m + 1)) (SetTable.bits h)).more ≤ m := by
    have h1 : SetTable.bits h % (m + 1) < m + 1 := Nat.mod_lt _ (Nat.succ_pos m)
    have h2 := runEnd_bd (m := m) (i := SetTable.bits h % (m + 1)) (by omega)
    show SetTable.bits h % (m + 1) + (SetTable.runEnd m (SetTable.bits h % (m + 1)) - SetTable.bits h % (m + 1)) ≤ m
    omega
  exact Nat.le_trans (Nat.le_add_right _ _) (nth_in k _ start)
/-- a table that is not full has an empty slot on each way, early enough -/
theorem Tab.hole {t : SetTable} {hs : List Int} (T : Tab t hs) (room : hs.length ≤ t.mask) (h : Int) : ∃ K, K < 10 * SetTable.turns t.mask ∧ way t.mask h K ∉ t.place.toList ∧ ∀ k, k < K → way t.mask h k ∈ t.place.toList := by
  obtain ⟨j, jl, jn⟩ := st_missing t.place.toList (t.mask + 1) (by rw [T.cnt]; omega)
  obtain ⟨k, kl, ke⟩ := nth_meetsN T.msk h (Nat.lt_succ_iff.mp jl)
  have ke : way t.mask h k = j := ke
  obtain ⟨K, Kl, Kn, Kf⟩ := st_least (p := fun k => way t.mask h k ∉ t.place.toList) k (by rw [ke]; exact jn)
  exact ⟨K, by omega, Kn, fun k' lt => Classical.byContradiction fun z => Kf k' lt z⟩
/-- a hash that is in stands before the first empty slot of its way -/
theorem Tab.met {t : SetTable} {hs : List Int} (T : Tab t hs) {h : Int} {K i j : Nat} (hK : way t.mask h K ∉ t.place.toList) (hi : hs[i]? = some h) (hj : t.place.toList[i]? = some j) : ∃ k, k < K ∧ way t.mask h k = j := by
  obtain ⟨k, e, full⟩ := T.on i h j hi hj
  have hjm := List.mem_of_getElem? hj
  refine ⟨k, Nat.lt_of_not_le fun le => ?_, e⟩
  rcases Nat.eq_or_lt_of_le le with q | q
  · rw [q, e] at hK
    exact hK hjm
  · exact hK (full K q)
/-- one more: at the first empty slot of its way -/
theorem Tab.more {t : SetTable} {hs : List Int} (T : Tab t hs) {h : Int} {K p : Nat} (hp : p = SetTable.below t.place (way t.mask h K)) (hK : way t.mask h K ∉ t.place.toList) (full : ∀ k, k < K → way t.mask h k ∈ t.place.toList) :
    p ≤ hs.length ∧ Tab (t.put (way t.mask h K)).1 (hs.take p ++ h :: hs.drop p) := by
  obtain ⟨pl, _, _⟩ := below_cut T.up (way t.mask h K)
  rw [← hp] at pl
  have pl' : p ≤ t.place.toList.length := pl
  have ph : p ≤ hs.length := by
    rw [← T.cnt]
    exact pl'
  have new := put_place t (way t.mask h K)
  rw [← hp] at new
  have old : ∀ x ∈ t.place.toList, x ∈ (t.put (way t.mask h K)).1.place.toList := fun x hx => by
    rw [new]
    exact mem_ins.mpr (.inr hx)
  have nat : t.place[SetTable.below t.place (way t.mask h K)]? ≠ some (way t.mask h K) := fun z => by
    rw [← Array.getElem?_toList] at z
    exact hK (List.mem_of_getElem? z)
  refine ⟨ph, ris_insert T.up nat, put_dm T.none_ _, ?_, T.msk, fun x hx => ?_, fun i g j gi ji => ?_⟩
  · rw [new, len_ins _ pl', len_ins _ ph, T.cnt]
  · rw [new] at hx
    exact (mem_ins.mp hx).elim (fun z => by rw [z]; exact wayN_le h K) (T.le x)
  · rw [tins_get hs ph] at gi
    rw [new, tins_get _ pl'] at ji
    have go : ∀ i', hs[i']? = some g → t.place.toList[i']? = some j → ∃ k, way t.mask g k = j ∧ ∀ k', k' < k → way t.mask g k' ∈ (t.put (way t.mask h K)).1.place.toList := fun i' a b => by
      obtain ⟨k, e, f⟩ := T.on i' g j a b
      exact ⟨k, e, fun k' l => old _ (f k' l)⟩
    rcases Nat.lt_trichotomy i p with c | c | c
    · rw [if_pos c] at gi ji
      exact go i gi ji
    · rw [if_neg (by omega), if_pos c] at gi ji
      cases gi
      cases ji
      exact ⟨K, rfl, fun k' l => old _ (full k' l)⟩
    · rw [if_neg (by omega), if_neg (by omega)] at gi ji
      exact go (i - 1) gi ji
end TM
end
section
set_option maxHeartbeats 4000000
set_option linter.all false
namespace TM
open PySem PySem.Spec PyProof.Rows L2
theorem freeN {m : Nat} (hm : MaskN m) (owner : Array (Option Nat)) (h : Int) {j : Nat} (hj : j ≤ m) (hf : oAt owner j = none) :
    ∃ K, SetTable.layClean.free m owner (SetTable.turns m) (SetTable.bits h % (m + 1)) (SetTable.bits h) = some (way m h K) ∧ oAt owner (way m h K) = none ∧ ∀ k, k < K → oAt owner (way m h k) ≠ none := by
  obtain ⟨n, nl, ne⟩ := run_meetsN hm h hj
  let o := off m (SetTable.bits h % (m + 1)) (SetTable.bits h) n
  have at_o : way m h o = j := by
    show (nth m (runAt m (SetTable.bits h % (m + 1)) (SetTable.bits h)) (off m (SetTable.bits h % (m + 1)) (SetTable.bits h) n)).j = j
    rw [nth_off, itL_run]
    exact ne
  obtain ⟨K, Ko, Kn, Kf⟩ := st_least (p := fun k => oAt owner (way m h k) = none) o (by rw [at_o]; exact hf)
  have isN : ∀ {x : Option Nat}, x ≠ none → x.isNone = false := fun {x} hx => by
    cases x with
    | none => exact absurd rfl hx
    | some _ => rfl
  exact ⟨K, free_spec m owner _ n _ _ K (by unfold SetTable.turns; omega) Ko (fun k hk => isN (Kf k hk)) (by
    show (oAt owner (way m h K)).isNone = true
    rw [Kn]
    rfl), Kn, Kf⟩
theorem ownN {m : Nat} (hm : MaskN m) {done : List Int} {owner : Array (Option Nat)} (W : Own m done owner) (room : done.length ≤ m) (h : Int) :
    ∃ j, SetTable.layClean.free m owner (SetTable.turns m) (SetTable.bits h % (m + 1)) (SetTable.bits h) = some j ∧ Own m (done ++ [h]) (owner.setIfInBounds j (some done.length)) := by
  obtain ⟨ps, pl, pin⟩ := W.ps
  obtain ⟨z, zl, zn⟩ := st_missing ps (m + 1) (by omega)
  obtain ⟨K, e1, e2, e3⟩ := freeN hm owner h (Nat.lt_succ_iff.mp zl) (Classical.byContradiction fun q => zn (pin z (Nat.lt_succ_iff.mp zl) q))
  have wl := wayN_le (m := m) h K
  have self := oAt_set_self (owner := owner) (some done.length) (by rw [W.sz]; omega : way m h K < owner.size)
  have other : ∀ {i : Nat}, i ≠ way m h K → oAt (owner.setIfInBounds (way m h K) (some done.length)) i = oAt owner i := fun q => oAt_set_ne _ q
  have stay : ∀ i, oAt owner i ≠ none → oAt (owner.setIfInBounds (way m h K) (some done.length)) i ≠ none := fun i hi => by
    rcases Classical.em (i = way m h K) with q | q
    · rw [q, self]
      simp
    · rw [other q]
      exact hi
  refine ⟨_, e1, ⟨by rw [Array.size_setIfInBounds, W.sz], fun j k hj hk => ?_, fun k hk => ?_, way m h K :: ps, by simp [pl], fun j hj hk => ?_⟩⟩
  · rcases Classical.em (j = way m h K) with q | q
    · rw [q, self] at hk
      cases hk
      exact ⟨h, K, by simp, q.symm, fun k' l => stay _ (e3 k' l)⟩
    · rw [other q] at hk
      obtain ⟨g, G, g1, g2, g3⟩ := W.at_ j k hj hk
      exact ⟨g, G, by rw [List.getElem?_append_left (List.getElem?_eq_some_iff.mp g1).1]; exact g1, g2, fun k' l => stay _ (g3 k' l)⟩
  · rcases Nat.lt_or_ge k done.length with q | q
    · obtain ⟨j, jl, je⟩ := W.all k q
      exact ⟨j, jl, by rw [other (fun z => by rw [z, e2] at je; cases je)]; exact je⟩
    · rw [List.length_append, List.length_singleton] at hk
      obtain rfl : k = done.length := by omega
      exact ⟨_, wl, self⟩
  · rcases Classical.em (j = way m h K) with q | q
    · rw [q]
      exact List.mem_cons_self
    · rw [other q] at hk
      exact List.mem_cons_of_mem _ (pin j hj hk)
theorem layN {m : Nat} (hm : MaskN m) : ∀ (todo done : List Int) (owner : Array (Option Nat)), Own m done owner → done.length + todo.length ≤ m →
    ∃ o', todo.foldl (stepF m) (some (owner, done.length)) = some (o', done.length + todo.length) ∧ Own m (done ++ todo) o'
  | [], done, owner, W, _ => ⟨owner, rfl, by rw [List.append_nil]; exact W⟩
  | h :: todo, done, owner, W, hl => by
    rw [List.length_cons] at hl ⊢
    obtain ⟨j, e, W1⟩ := ownN hm W (by omega) h
    obtain ⟨o', f, W2⟩ := layN hm todo (done ++ [h]) _ W1 (by simp; omega)
    rw [List.append_assoc] at W2
    refine ⟨o', ?_, W2⟩
    rw [List.foldl_cons, stepF_some e]
    have el : (done ++ [h]).length = done.length + 1 := by simp
    rw [el] at f
    rw [f]
    congr 2
    omega
theorem cleanN {m : Nat} (hm : MaskN m) {hs : Array Int} (hn : hs.size ≤ m) : ∃ owner, SetTable.layClean m hs = some owner ∧ Own m hs.toList owner := by
  obtain ⟨o, f, W⟩ := layN hm hs.toList [] _ (Own.init m) (by simp; exact hn)
  refine ⟨o, ?_, W⟩
  rw [layClean_eq]
  have f : hs.toList.foldl (stepF m) (some (Array.replicate (m + 1) none, 0)) = _ := f
  rw [f]
  rfl
/-- laid anew: all that was in is in, each found from its hash -/
theorem Tab.anew (t : SetTable) {hs : Array Int} {wanted M : Nat} (hw : SetTable.sizeAbove wanted - 1 = M) (hM : MaskN M) (hn : hs.size ≤ M) :
    ∃ t' order, t.relaid hs wanted = some (t', order) ∧ order.toList.Perm (List.range hs.size) ∧ Tab t' (order.toList.map fun i => hs.getD i 0) ∧ t'.mask = M ∧ t'.led = t.led ∧ t'.plain = t.plain := by
  obtain ⟨o, e, W⟩ := cleanN hM hn
  have live : ∀ {j k : Nat}, (j, k) ∈ liveOf M o ↔ j ≤ M ∧ oAt o j = some k := mem_live W.sz
  have rl := ris_live (fun j => o.getD j none) (List.range (M + 1)) (by
    unfold Ris
    first | exact List.pairwise_lt_range | exact List.pairwise_lt_range _)
  have up : Ris ((liveOf M o).map (·.1)) := rl.1
  have nd : ((liveOf M o).map (·.1)).Nodup := List.Pairwise.imp (fun h => Nat.ne_of_lt h) up
  have inM : ∀ x ∈ (liveOf M o).map (·.1), x ≤ M := fun x hx => Nat.lt_succ_iff.mp (List.mem_range.mp (rl.2 x hx))
  have each : ∀ k, k < hs.size → k ∈ (liveOf M o).map (·.2) := fun k hk => by
    obtain ⟨j, jl, je⟩ := W.all k (by rw [Array.length_toList]; exact hk)
    exact List.mem_map.mpr ⟨(j, k), live.mpr ⟨jl, je⟩, rfl⟩
  have cnt : (liveOf M o).length = hs.size := by
    obtain ⟨ps, pl, pin⟩ := W.ps
    have a := nat_nodup_len ((liveOf M o).map (·.1)) ps nd fun x hx => by
      obtain ⟨⟨y, k⟩, hq, rfl⟩ := List.mem_map.mp hx
      obtain ⟨b1, b2⟩ := live.mp hq
      exact pin y b1 (by rw [b2]; simp)
    have b := nat_nodup_len (List.range hs.size) ((liveOf M o).map (·.2)) List.nodup_range fun k hk => each k (List.mem_range.mp hk)
    rw [List.length_map, pl] at a
    rw [List.length_map, List.length_range] at b
    have c : hs.toList.length = hs.size := rfl
    omega
  refine ⟨tabOf t M o, ((liveOf M o).map (·.2)).toArray, by rw [relaid_eq, hw, e]; rfl, perm_range hs.size _ (by rw [List.toList_toArray, List.length_map, cnt]) (fun k hk => each k hk), ⟨up, rfl, ?_, hM, inM, fun i h j h1 h2 => ?_⟩, rfl, rfl, rfl⟩
  · show (((liveOf M o).map (·.1)).toArray.toList).length = (((liveOf M o).map (·.2)).toArray.toList.map fun i => hs.getD i 0).length
    simp
  · have h1 : (((liveOf M o).map (·.2)).map fun i => hs.getD i 0)[i]? = some h := h1
    have h2 : ((liveOf M o).map (·.1))[i]? = some j := h2
    rw [List.getElem?_map] at h2
    rw [List.map_map, List.getElem?_map] at h1
    obtain ⟨⟨y, k⟩, hq, rfl⟩ := Option.map_eq_some_iff.mp h2
    rw [hq] at h1
    have eh : hs.getD k 0 = h := Option.some.inj h1
    obtain ⟨b1, b2⟩ := live.mp (List.mem_of_getElem? hq)
    obtain ⟨g, K, a1, a2, a3⟩ := W.at_ y k b1 b2
    have eg : hs.getD k 0 = g := by
      rw [Array.getElem?_toList] at a1
      simp [Array.getD_eq_getD_getElem?, a1]
    obtain rfl : g = h := eg.symm.trans eh
    refine ⟨K, a2, fun k' l => ?_⟩
    show way M g k' ∈ (liveOf M o).map (·.1)
    cases z : oAt o (way M g k') with
    | none => exact absurd z (a3 k' l)
    | some q => exact List.mem_map.mpr ⟨(way M g k', q), live.mpr ⟨wayN_le g k', z⟩, rfl⟩
end TM
end
section
set_option maxHeartbeats 4000000
set_option maxRecDepth 100000
set_option linter.all false
namespace TM
open PySem PySem.Spec PyProof.Rows L2
/-- what a set's keys are here, and their hash -/
abbrev MK (P : Program) (w : World) : PySem.KeyKind P w Key := L2.mixKind P w
abbrev TupAt (P : Program) (w : World) (h : Heap) (k : List Key) (p : Addr) : Prop := IsTupleKey (MK P w) h k p
abbrev th (P : Program) (w : World) (k : List Key) : Int := tupleKeyHash (MK P w) k
section
variable {P : Program} {w : World} {A : Around} {E : Value → Shared → Prop} {s : Shared}
theorem each_key {k : List Key} {vs : List Value} (h : ItemsAre (MK P w) k vs) : ∀ v ∈ vs, ∃ c, keyIs c v = true := by
  induction h with
  | nil => exact fun v z => nomatch z
  | cons h1 _ ih =>
    intro v z
    rcases List.mem_cons.mp z with e | z
    · subst e
      exact ⟨_, h1⟩
    · exact ih v z
theorem own_key {c : Key} {v : Value} (n : Nat) (h : keyIs c v = true) : ofAClassStatement n v = pure false := by
  rcases keyIs_shape h with ⟨i, t, rfl, rfl⟩ | ⟨x, t, rfl, rfl⟩ <;> cases n <;> rfl
theorem hbv_key {c : Key} {v : Value} (n : Nat) (h : keyIs c v = true) : ∃ b, hashByValue n v = pure b := by
  rcases keyIs_shape h with ⟨i, t, rfl, rfl⟩ | ⟨x, t, rfl, rfl⟩
  · exact ⟨true, by cases n <;> rfl⟩
  · exact ⟨false, by cases n <;> rfl⟩
theorem own_tup {k : List Key} {p : Addr} {Q : Bool → Shared → Prop} (h : TupAt P w s.heap k p) (q : Q false s) : wpAny (model P w) A (ofAClassStatement 8 (.ref p)) Q E s := by
  have ty := h.typeIs
  obtain ⟨o, items, m, e1, _, e2, e3⟩ := h
  unfold ofAClassStatement
  refine wpAny_bind (wpAny_typeOf ty ?_)
  dsimp only
  simp only [show (("tuple" : String) == "tuple") = true by decide, if_true, Bool.not_true, Bool.false_eq_true, if_false]
  try refine wpAny_bind (wpAny_pure ?_)
  try simp only [Bool.not_true, Bool.false_eq_true, if_false]
  refine wpAny_bind (wpAny_seqItems e1 e2 ?_)
  dsimp only
  refine wpAny_bind ?_
  show wpAny _ _ (forIn items _ _) _ _ s
  rw [← Array.forIn_toList]
  refine wpAny_forIn_list _ (fun l r z => (r.1 = none ∧ z = s) ∧ ∀ v ∈ l, ∃ c, keyIs c v = true) _ ?_ ?_ _ _ ⟨⟨rfl, rfl⟩, each_key e3⟩
  · rintro v l r z ⟨⟨hr, rfl⟩, all⟩
    obtain ⟨c, hc⟩ := all v List.mem_cons_self
    rw [own_key _ hc]
    refine wpAny_bind (wpAny_pure ?_)
    simp only [Bool.false_eq_true, if_false]
    exact wpAny_pure ⟨⟨rfl, rfl⟩, fun u hu => all u (List.mem_cons_of_mem _ hu)⟩
  · rintro ⟨r1, r2⟩ z ⟨⟨hr, rfl⟩, _⟩
    dsimp only at hr
    subst hr
    exact wpAny_pure q
theorem hbv_tup {k : List Key} {p : Addr} {Q : Bool → Shared → Prop} (h : TupAt P w s.heap k p) (q : ∀ b, Q b s) : wpAny (model P w) A (hashByValue 8 (.ref p)) Q E s := by
  have ty := h.typeIs
  obtain ⟨o, items, m, e1, _, e2, e3⟩ := h
  unfold hashByValue
  refine wpAny_bind (wpAny_specialOf ty (PySem.F.slot_tuple_hash.lookup) ?_)
  show wpAny _ _ (seqItems? (Value.ref p) >>= _) Q E s
  refine wpAny_bind (wpAny_seqItems e1 e2 ?_)
  refine wpAny_bind ?_
  show wpAny _ _ (forIn items _ _) _ _ s
  rw [← Array.forIn_toList]
  refine wpAny_forIn_list _ (fun l r z => (r.1 = none ∧ z = s) ∧ ∀ v ∈ l, ∃ c, keyIs c v = true) _ ?_ ?_ _ _ ⟨⟨rfl, rfl⟩, each_key e3⟩
  · rintro v l r z ⟨⟨hr, rfl⟩, all⟩
    obtain ⟨c, hc⟩ := all v List.mem_cons_self
    obtain ⟨b, hb⟩ := hbv_key 7 hc
    rw [hb]
    refine wpAny_bind (wpAny_pure ?_)
    cases b
    · simp only [Bool.not_false, if_true]
      exact wpAny_pure (wpAny_pure (q false))
    · simp only [Bool.not_true, Bool.false_eq_true, if_false]
      exact wpAny_pure ⟨⟨rfl, rfl⟩, fun u hu => all u (List.mem_cons_of_mem _ hu)⟩
  · rintro ⟨r1, r2⟩ z ⟨⟨hr, rfl⟩, _⟩
    dsimp only at hr
    subst hr
    exact wpAny_pure (q true)
/-- a search among tuples of such keys shows nothing -/
theorem unseen_tup {k : List Key} {p : Addr} {Q : Bool → Shared → Prop} (h : TupAt P w s.heap k p) {ys : List Value} (hy : ∀ y ∈ ys, ∃ k' c, y = Value.ref c ∧ TupAt P w s.heap k' c) (q : Q false s) :
    wpAny (model P w) A (searchCouldBeSeen (.ref p) ys) Q E s := by
  unfold searchCouldBeSeen
  refine wpAny_bind ?_
  refine wpAny_forIn_list _ (fun l r z => (r.1 = none ∧ z = s) ∧ ∀ y ∈ l, ∃ k' c, y = Value.ref c ∧ TupAt P w s.heap k' c) _ ?_ ?_ _ _ ⟨⟨rfl, rfl⟩, hy⟩
  · rintro v l r z ⟨⟨hr, rfl⟩, all⟩
    obtain ⟨k', c, rfl, hc⟩ := all v List.mem_cons_self
    have more := fun u (hu : u ∈ l) => all u (List.mem_cons_of_mem _ hu)
    dsimp only
    by_cases g : (p == c || (carriedByValue (.ref p) && carriedByValue (.ref c))) = true
    · exact wp_if_pos g (wpAny_pure ⟨⟨rfl, rfl⟩, more⟩)
    · refine wp_if_neg g (wpAny_bind (wpAny_eqIsQuiet_tuple h ?_))
      simp only [Bool.not_true, Bool.false_eq_true, if_false]
      refine wpAny_bind (wpAny_eqIsQuiet_tuple hc ?_)
      simp only [Bool.not_true, Bool.false_eq_true, if_false]
      refine wpAny_bind (own_tup h ?_)
      simp only [Bool.false_eq_true, if_false]
      refine wpAny_bind (own_tup hc ?_)
      simp only [Bool.false_eq_true, if_false]
      exact wpAny_pure ⟨⟨rfl, rfl⟩, more⟩
  · rintro ⟨r1, r2⟩ z ⟨⟨hr, rfl⟩, _⟩
    dsimp only at hr
    subst hr
    exact wpAny_pure q
/-- the sizes that come while fewer than 4915 are in -/
def MaskQ (m : Nat) : Prop := m = 7 ∨ m = 31 ∨ m = 127 ∨ m = 511 ∨ m = 2047 ∨ m = 8191
theorem MaskQ.n {m : Nat} (h : MaskQ m) : MaskN m := by
  rcases h with h | h | h | h | h | h <;> subst h
  · exact ⟨3, by decide, rfl⟩
  · exact ⟨5, by decide, rfl⟩
  · exact ⟨7, by decide, rfl⟩
  · exact ⟨9, by decide, rfl⟩
  · exact ⟨11, by decide, rfl⟩
  · exact ⟨13, by decide, rfl⟩
theorem MaskQ.le {m : Nat} (h : MaskQ m) : m ≤ 8191 ∧ m % 2 = 1 := by
  rcases h with h | h | h | h | h | h <;> subst h <;> decide
/-- what stands in the set's rows -/
def ents (P : Program) (w : World) (L : List (Addr × List Key)) : List (Int × Value) := L.map fun p => (th P w p.2, Value.ref p.1)
structure SetQ (P : Program) (w : World) (h : Heap) (a : Addr) (L : List (Addr × List Key)) (es : Array (Int × Value)) (ep : Nat) (t : SetTable) : Prop where
  obj : ∃ o, h.get? a = some o ∧ o.ExactSet ∧ o.data = .set es ep t
  rows : es.toList = ents P w L
  tab : Tab t (L.map fun p => th P w p.2)
  mq : MaskQ t.mask
  nd : (L.map (·.2)).Nodup
  led : w.params.followText "set-order" = true ∨ t.led = true
  room : L.length * 5 < t.mask * 3
variable {a : Addr} {L : List (Addr × List Key)} {es : Array (Int × Value)} {ep : Nat} {t : SetTable}
theorem ents_len (L : List (Addr × List Key)) : (ents P w L).length = L.length := List.length_map ..
theorem SetQ.sz (R : SetQ P w s.heap a L es ep t) : es.size = L.length := by
  rw [← Array.length_toList, R.rows, ents_len]
theorem Tab.fill {hs : List Int} (T : Tab t hs) : t.fill = hs.length ∧ t.place.size = hs.length := by
  have e : t.place.size = hs.length := by
    rw [← Array.length_toList]
    exact T.cnt
  refine ⟨?_, e⟩
  unfold SetTable.fill
  rw [T.none_, e]
  rfl
theorem Tab.fit {hs : List Int} (T : Tab t hs) {n : Nat} (e : n = hs.length) (l : n ≤ t.mask) : t.fits n = true := by
  obtain ⟨f1, f2⟩ := T.fill
  unfold SetTable.fits
  rw [f1, f2, Bool.and_eq_true]
  exact ⟨beq_iff_eq.mpr e.symm, decide_eq_true (by omega)⟩
theorem SetQ.fit (R : SetQ P w s.heap a L es ep t) : t.fits es.size = true := by
  have r := R.room
  refine R.tab.fit (by rw [R.sz, List.length_map]) ?_
  rw [R.sz]
  omega
theorem SetQ.ent (R : SetQ P w s.heap a L es ep t) {i : Nat} {p : Addr × List Key} (e : L[i]? = some p) : es[i]? = some (th P w p.2, Value.ref p.1) := by
  rw [← Array.getElem?_toList, R.rows]
  show (L.map _)[i]? = _
  rw [List.getElem?_map, e]
  rfl
theorem SetQ.way (R : SetQ P w s.heap a L es ep t) : ¬ t.gaveWay = true := by
  unfold SetTable.gaveWay
  rw [R.mq.le.2]
  decide
theorem nth_dm {m : Nat} : ∀ (n : Nat) {p : SetTable.Probe}, p.dummy = none → (nth m p n).dummy = none
  | 0, _, h => h
  | n + 1, p, h => nth_dm n (p := adv m p) (by
    unfold adv
    split
    · exact h
    · exact h)
end
end TM
end
section
set_option maxHeartbeats 4000000
set_option maxRecDepth 100000
set_option linter.all false
namespace TM
open PySem PySem.Spec PyProof.Rows L2
section
variable {P : Program} {w : World} {A : Around} {E : Value → Shared → Prop} {s : Shared}
variable {a : Addr} {L : List (Addr × List Key)} {es : Array (Int × Value)} {ep : Nat} {t : SetTable}
/-- the c-th step of a hash's way -/
abbrev stp (m : Nat) (h : Int) (c : Nat) : SetTable.Probe := nth m (runAt m (SetTable.bits h % (m + 1)) (SetTable.bits h)) c
theorem stp_add (m : Nat) (h : Int) (c q : Nat) : nth m (stp m h c) q = stp m h (c + q) := (nth_add m c _ q).symm
theorem tab_inj (T : Tab t (L.map fun p => th P w p.2)) {i j x : Nat} (hi : t.place.toList[i]? = some x) (hj : t.place.toList[j]? = some x) : i = j := by
  have e := slot_live T.up hi
  rw [slot_live T.up hj] at e
  injection e with e
  exact e.symm
theorem tab_row (T : Tab t (L.map fun p => th P w p.2)) {i x : Nat} (hi : t.place.toList[i]? = some x) : ∃ p, L[i]? = some p := by
  have l1 := (List.getElem?_eq_some_iff.mp hi).1
  have l2 := T.cnt
  rw [List.length_map] at l2
  exact ⟨_, List.getElem?_eq_getElem (by omega)⟩
theorem seek (R : SetQ P w s.heap a L es ep t) (hT : ∀ p ∈ L, TupAt P w s.heap p.2 p.1) {x : Addr} {k : List Key} (hx : TupAt P w s.heap k x) (hu : A.units < cLine) (ad : Bool) {K : Nat} (K1 : K < 10 * SetTable.turns t.mask)
    (K2 : way t.mask (th P w k) K ∉ t.place.toList) (K3 : ∀ c, c < K → way t.mask (th P w k) c ∈ t.place.toList) {Q : SetFound → Shared → Prop}
    (yes : k ∈ L.map (·.2) → ∀ r : Option Nat, r.isSome = !ad → Q (.there r) s) (no : k ∉ L.map (·.2) → Q (.free (way t.mask (th P w k) K) false) s) :
    ∀ (f c : Nat) (st : Option SetTable.Probe), st.getD (t.probeStart (th P w k)) = stp t.mask (th P w k) c → c ≤ K → K < c + f →
      (∀ (i : Nat) p, L[i]? = some p → p.2 = k → ∃ c', c ≤ c' ∧ c' < K ∧ t.place.toList[i]? = some (way t.mask (th P w k) c')) → wpAny (model P w) A (setSearchFrom a (.ref x) (th P w k) ad f st) Q E s
  | 0, c, _, _, l, l2, _ => by omega
  | f + 1, c, st, hst, l, l2, ahead => by
    obtain ⟨o, e1, e2, e3⟩ := R.obj
    have hashes : ∀ (i : Nat) p, L[i]? = some p → (es[i]?.map (·.1)).getD 0 = th P w p.2 := fun i p hp => by
      rw [R.ent hp]
      rfl
    rw [setSearchFrom_succ]
    refine wpAny_bind (wpAny_setState_of e1 e3 R.fit (wp_if_neg R.way ?_))
    try refine wpAny_bind (wpAny_pure ?_)
    have at_ : ∀ q, (nth t.mask (stp t.mask (th P w k) c) q).j = way t.mask (th P w k) (c + q) := fun q => by
      rw [stp_add]
    have seen := go_spec t R.tab.up R.tab.none_ (fun i => (es[i]?.map (·.1)).getD 0) (th P w k) (10 * SetTable.turns t.mask) (K - c) (stp t.mask (th P w k) c) (nth_dm c rfl) (by omega)
      (fun q hq => by rw [at_]; exact K3 _ (by omega)) (by rw [at_, show c + (K - c) = K by omega]; exact K2)
    rcases seen with ⟨q, i, lq, hi, _, first, e⟩ | ⟨nothing, e⟩
    · rw [show t.probe (fun i => (es[i]?.map (·.1)).getD 0) (th P w k) (st.getD (t.probeStart (th P w k))) = some (.candidate (way t.mask (th P w k) (c + q)) i (stp t.mask (th P w k) (c + (q + 1)))) by
        rw [hst, ← at_, ← stp_add]
        exact e]
      dsimp only
      rw [at_] at hi
      obtain ⟨p, hp⟩ := tab_row R.tab hi
      have hpL := List.mem_of_getElem? hp
      have live := slot_live R.tab.up hi
      -- behind the candidate
      have rest : wpAny (model P w) A (searchRest a (.ref x) (th P w k) ad f es t (way t.mask (th P w k) (c + q)) i (stp t.mask (th P w k) (c + (q + 1)))) Q E s := by
        have on : p.2 ≠ k → wpAny (model P w) A (setSearchFrom a (.ref x) (th P w k) ad f (some (stp t.mask (th P w k) (c + (q + 1))))) Q E s := fun ne =>
          seek R hT hx hu ad K1 K2 K3 yes no f (c + (q + 1)) _ rfl (by omega) (by omega) fun i' p' h1 h2 => by
            obtain ⟨c', l1, l2, h3⟩ := ahead i' p' h1 h2
            refine ⟨c', Nat.lt_of_not_le fun le => ?_, l2, h3⟩
            rcases Nat.lt_or_ge c' (c + q) with z | z
            · refine first (c' - c) i' (by omega) (by rw [at_, show c + (c' - c) = c' by omega]; exact h3) ?_
              try dsimp only
              rw [hashes i' p' h1, h2]
            · obtain rfl : c' = c + q := Nat.le_antisymm le z
              obtain rfl := tab_inj R.tab hi h3
              rw [hp] at h1
              cases h1
              exact ne h2
        have inn : p.2 = k → k ∈ L.map (·.2) := fun z => List.mem_map.mpr ⟨p, hpL, z⟩
        unfold searchRest
        rw [R.ent hp]
        dsimp only
        refine wpAny_bind (wpAny_holding (wpAny_eqBool_tuple hu (hT p hpL) hx ?_))
        refine wpAny_bind (wpAny_setState_of e1 e3 R.fit ?_)
        dsimp only
        have moved : wpAny (model P w) A (do
            let some same := t.sameMemory t.moves t.mask | unsupported "set.changed-during-lookup:is-the-new-block-at-the-old-address"
            let still ← match (if same then t.slot (way t.mask (th P w k) (c + q)) else .empty) with
              | .live i' => match es[i']? with
                | some (_, y') => do pure (if ← isSame y' (.ref p.1) then some i' else none)
                | none => pure none
              | _ => pure none
            match still with
            | none => rule "set.search.anew"; setSearchFrom a (.ref x) (th P w k) ad f none
            | some i' => if decide (p.2 = k) = true then return SetFound.there (some i') else setSearchFrom a (.ref x) (th P w k) ad f (some (stp t.mask (th P w k) (c + (q + 1))))) Q E s ∨ (ad = true ∧ p.2 = k) := by
          by_cases both : ad = true ∧ p.2 = k
          · exact .inr both
          · refine .inl ?_
            rw [sameMem]
            dsimp only
            simp only [if_true, live, R.ent hp]
            refine wpAny_bind (wpAny_isSame_ref_self (wpAny_bind (wpAny_pure ?_)))
            simp only [if_true]
            by_cases z : p.2 = k
            · refine wp_if_pos (decide_eq_true z) (wpAny_pure (yes (inn z) _ ?_))
              cases ad
              · rfl
              · exact absurd ⟨rfl, z⟩ both
            · exact wp_if_neg (by rw [decide_eq_false z]; decide) (on z)
        rcases moved with m | ⟨z1, z2⟩
        · by_cases z : ad = true ∧ p.2 = k
          · exact wp_if_pos (by rw [z.1, decide_eq_true z.2]; rfl) (wpAny_pure (yes (inn z.2) none (by rw [z.1]; rfl)))
          · refine wp_if_neg (by rw [Bool.and_eq_true, decide_eq_true_eq]; exact z) ?_
            try refine wpAny_bind (wpAny_pure ?_)
            exact m
        · exact wp_if_pos (by rw [z1, decide_eq_true z2]; rfl) (wpAny_pure (yes (inn z2) none (by rw [z1]; rfl)))
      by_cases led : t.led = true
      · refine wp_if_neg (by rw [led]; decide) ?_
        try refine wpAny_bind (wpAny_pure ?_)
        exact rest
      · refine wp_if_pos (by rw [Bool.eq_false_iff.mpr led]; rfl) (wpAny_bind (unseen_tup hx (fun y hy => ?_) (wp_if_neg (by decide) ?_)))
        · obtain ⟨e', h1, rfl⟩ := List.mem_map.mp hy
          have h2 : e' ∈ es := (show e' ∈ es ∧ e'.1 = th P w k by simpa using h1).1
          have h3 : e' ∈ ents P w L := by
            rw [← R.rows]
            simpa using h2
          obtain ⟨p', h4, rfl⟩ := List.mem_map.mp h3
          exact ⟨_, _, rfl, hT p' h4⟩
        · try refine wpAny_bind (wpAny_pure ?_)
          exact rest
    · rw [show t.probe (fun i => (es[i]?.map (·.1)).getD 0) (th P w k) (st.getD (t.probeStart (th P w k))) = some (.empty (way t.mask (th P w k) K) none) by
        rw [hst, show way t.mask (th P w k) K = (nth t.mask (stp t.mask (th P w k) c) (K - c)).j by rw [at_, show c + (K - c) = K by omega]]
        exact e]
      dsimp only
      refine wpAny_pure (no fun m => ?_)
      obtain ⟨p', h1, h2⟩ := List.mem_map.mp m
      obtain ⟨i', h3⟩ := List.getElem?_of_mem h1
      obtain ⟨c', l1, l3, h4⟩ := ahead i' p' h3 h2
      refine nothing (c' - c) i' (by omega) (by rw [at_, show c + (c' - c) = c' by omega]; exact h4) ?_
      try dsimp only
      rw [hashes i' p' h3, h2]
/-- the search, from the beginning -/
theorem found (R : SetQ P w s.heap a L es ep t) (hT : ∀ p ∈ L, TupAt P w s.heap p.2 p.1) {x : Addr} {k : List Key} (hx : TupAt P w s.heap k x) (hu : A.units < cLine) (ad : Bool) {Q : SetFound → Shared → Prop}
    (yes : k ∈ L.map (·.2) → ∀ r : Option Nat, r.isSome = !ad → Q (.there r) s)
    (no : ∀ K, k ∉ L.map (·.2) → way t.mask (th P w k) K ∉ t.place.toList → (∀ c, c < K → way t.mask (th P w k) c ∈ t.place.toList) → Q (.free (way t.mask (th P w k) K) false) s) : wpAny (model P w) A (setSearch a (.ref x) (th P w k) ad) Q E s := by
  have r := R.room
  obtain ⟨K, K1, K2, K3⟩ := R.tab.hole (by rw [List.length_map]; omega) (th P w k)
  have big : K < 0 + 100000 := by
    have := R.mq.le.1
    unfold SetTable.turns at K1
    omega
  refine seek R hT hx hu ad K1 K2 K3 yes (fun z => no K z K2 K3) 100000 0 none rfl (Nat.zero_le _) big fun i p h1 h2 => ?_
  have l1 := (List.getElem?_eq_some_iff.mp h1).1
  have l2 := R.tab.cnt
  rw [List.length_map] at l2
  have h3 := List.getElem?_eq_getElem (show i < t.place.toList.length by omega)
  obtain ⟨c, lc, e⟩ := R.tab.met K2 (show (L.map fun p => th P w p.2)[i]? = some (th P w k) by rw [List.getElem?_map, h1, ← h2]; rfl) h3
  exact ⟨c, Nat.zero_le _, lc, by rw [h3, e]⟩
end
end TM
end
section
set_option maxHeartbeats 4000000
set_option maxRecDepth 100000
set_option linter.all false
namespace TM
open PySem PySem.Spec PyProof.Rows L2
theorem range_get {α : Type} : ∀ L : List α, (List.range L.length).filterMap (fun i => L[i]?) = L
  | [] => rfl
  | x :: L => by
    rw [List.length_cons, List.range_succ_eq_map, List.filterMap_cons_some (show (fun i => (x :: L)[i]?) 0 = some x from rfl), List.filterMap_map]
    exact congrArg (x :: ·) (range_get L)
theorem order_ents {α : Type} {f : α → Int × Value} {L : List α} {es : Array (Int × Value)} (h : es.toList = L.map f) {ord : Array Nat} (hp : ord.toList.Perm (List.range L.length)) :
    ∃ L2 : List α, L2.Perm L ∧ (ord.filterMap (es[·]?)).toList = L2.map f ∧ (ord.toList.map fun i => (es.map (·.1)).getD i 0) = L2.map fun x => (f x).1 := by
  have get : ∀ i, es[i]? = (L[i]?).map f := fun i => by rw [← Array.getElem?_toList, h, List.getElem?_map]
  refine ⟨ord.toList.filterMap fun i => L[i]?, ?_, ?_, ?_⟩
  · have p := hp.filterMap fun i => L[i]?
    rwa [range_get] at p
  · rw [List.map_filterMap]
    have e : (ord.filterMap (es[·]?)).toList = ord.toList.filterMap fun i => es[i]? := by simp
    rw [e]
    exact congrArg (fun g => ord.toList.filterMap g) (funext get)
  · have all : ∀ i ∈ ord.toList, i < L.length := fun i z => List.mem_range.mp (hp.mem_iff.mp z)
    generalize ord.toList = l at all
    induction l with
    | nil => rfl
    | cons i l ih =>
      have li := all i List.mem_cons_self
      have e := List.getElem?_eq_getElem li
      rw [List.filterMap_cons_some e, List.map_cons, List.map_cons, ih fun j z => all j (List.mem_cons_of_mem _ z)]
      congr 1
      have e2 : (es.map (·.1))[i]? = some (f L[i]).1 := by
        rw [Array.getElem?_map, get, e]
        rfl
      simp only [Array.getD_eq_getD_getElem?, e2]
      rfl
section
variable {P : Program} {w : World} {A : Around} {E : Value → Shared → Prop} {s : Shared}
variable {a : Addr} {L : List (Addr × List Key)} {es : Array (Int × Value)} {ep : Nat} {t : SetTable}
theorem relaid {o : Obj} (e1 : s.heap.get? a = some o) (e2 : o.ExactSet) (e3 : o.data = .set es ep t) (rows : es.toList = ents P w L) (T : Tab t (L.map fun p => th P w p.2)) (lm : L.length ≤ t.mask) (nd : (L.map (·.2)).Nodup)
    (led : w.params.followText "set-order" = true ∨ t.led = true) {wanted M : Nat} (hw : SetTable.sizeAbove wanted - 1 = M) (hM : MaskQ M) (hn : L.length * 5 < M * 3) {Q : Unit → Shared → Prop}
    (h : ∀ h' L' es' ep' t', Heap.SameBut a s.heap h' → SetQ P w h' a L' es' ep' t' → L'.Perm L → Q () { s with heap := h' }) : wpAny (model P w) A (setRelay a wanted) Q E s := by
  have sz : es.size = L.length := by rw [← Array.length_toList, rows, ents_len]
  have hf : t.fits es.size = true := T.fit (by rw [sz, List.length_map]) (by omega)
  have ml := hM.le.1
  obtain ⟨t', ord, r1, r2, T2, r3, r4, _⟩ := Tab.anew t (hs := es.map (·.1)) hw hM.n (by rw [Array.size_map, sz]; omega)
  rw [Array.size_map, sz] at r2
  obtain ⟨L2, p2, q1, q2⟩ := order_ents (f := fun p : Addr × List Key => (th P w p.2, Value.ref p.1)) rows r2
  rw [q2] at T2
  have sz2 : (ord.filterMap (es[·]?)).size = es.size := by
    rw [← Array.length_toList, q1, List.length_map, p2.length_eq, sz]
  rw [setRelay_eq]
  refine wpAny_bind (wpAny_setState_of e1 e3 hf ?_)
  dsimp only
  refine wp_if_neg (by rw [sizeLine_eq]; omega) ?_
  try refine wpAny_bind (wpAny_pure ?_)
  rw [r1]
  dsimp only
  refine wpAny_bind (wp_if_neg (by rw [sz2]; simp) ?_)
  try refine wpAny_bind (wpAny_pure ?_)
  refine wpAny_pure ?_
  dsimp only
  refine wpAny_storeSet_of e1 e3 ?_ (by rw [sz2, sz, sizeLine_eq]; omega)
  refine h _ L2 _ (ep + 1) t' (Heap.SameBut.update ..) ⟨⟨_, store_at e1 e3, ⟨e2.1, e2.2.1, e2.2.2⟩, rfl⟩, q1, T2, by rw [r3]; exact hM, ?_, by rw [r4]; exact led, by rw [p2.length_eq, r3]; exact hn⟩ p2
  exact (p2.map (·.2)).nodup_iff.mpr nd
theorem size5 : SetTable.sizeAbove (SetTable.grown 5) = 31 + 1 := by decide +kernel
theorem size19 : SetTable.sizeAbove (SetTable.grown 19) = 127 + 1 := by decide +kernel
theorem size77 : SetTable.sizeAbove (SetTable.grown 77) = 511 + 1 := by decide +kernel
theorem size307 : SetTable.sizeAbove (SetTable.grown 307) = 2047 + 1 := by decide +kernel
theorem size1229 : SetTable.sizeAbove (SetTable.grown 1229) = 8191 + 1 := by decide +kernel
/-- a full table's next size -/
theorem next_size {m n : Nat} (hm : MaskQ m) (l : n * 5 < m * 3) (g : m * 3 ≤ (n + 1) * 5) (few : n + 1 ≤ 4914) : ∃ M, SetTable.sizeAbove (SetTable.grown (n + 1)) - 1 = M ∧ MaskQ M ∧ (n + 1) * 5 < M * 3 ∧ n + 1 ≤ m := by
  rcases hm with h | h | h | h | h | h <;> subst h
  · obtain rfl : n = 4 := by omega
    exact ⟨31, by rw [size5], .inr (.inl rfl), by decide, by decide⟩
  · obtain rfl : n = 18 := by omega
    exact ⟨127, by rw [size19], .inr (.inr (.inl rfl)), by decide, by decide⟩
  · obtain rfl : n = 76 := by omega
    exact ⟨511, by rw [size77], .inr (.inr (.inr (.inl rfl))), by decide, by decide⟩
  · obtain rfl : n = 306 := by omega
    exact ⟨2047, by rw [size307], .inr (.inr (.inr (.inr (.inl rfl)))), by decide, by decide⟩
  · obtain rfl : n = 1228 := by omega
    exact ⟨8191, by rw [size1229], .inr (.inr (.inr (.inr (.inr rfl)))), by decide, by decide⟩
  · omega
theorem put_mask (t : SetTable) (j : Nat) : (t.put j).1.mask = t.mask ∧ (t.put j).1.led = t.led ∧ (t.put j).2 = SetTable.below t.place j := ⟨rfl, rfl, rfl⟩
theorem added (R : SetQ P w s.heap a L es ep t) (hT : ∀ p ∈ L, TupAt P w s.heap p.2 p.1) {x : Addr} {k : List Key} (hx : TupAt P w s.heap k x) (hu : A.units < cLine) (few : L.length + 1 ≤ 4914) {Q : Bool → Shared → Prop}
    (h : ∀ b h' L' es' ep' t', Heap.SameBut a s.heap h' → SetQ P w h' a L' es' ep' t' → (k ∈ L.map (·.2) → L' = L) → (k ∉ L.map (·.2) → L'.Perm ((x, k) :: L)) → Q b { s with heap := h' }) :
    wpAny (model P w) A (setAddHashed a (.ref x) (th P w k)) Q E s := by
  obtain ⟨o, e1, e2, e3⟩ := R.obj
  have sz := R.sz
  have room := R.room
  unfold setAddHashed
  refine wpAny_holding ?_
  rw [show (100000 : Nat) = 99999 + 1 from rfl, setAddHashedIn_succ]
  refine wpAny_bind (wpAny_setState_of e1 e3 R.fit ?_)
  dsimp only
  refine wp_if_neg (by simp [byScan, Value.scannable]) ?_
  try refine wpAny_bind (wpAny_pure ?_)
  refine wpAny_bind (found R hT hx hu true (fun m r _ => ?_) fun K m g1 g2 => ?_)
  · exact wpAny_pure (h false s.heap L es ep t (Heap.SameBut.refl a s.heap) R (fun _ => rfl) fun z => absurd m z)
  · dsimp only
    refine wpAny_bind (wpAny_setState_of e1 e3 R.fit ?_)
    dsimp only
    obtain ⟨pl, T1⟩ := R.tab.more rfl g1 g2
    obtain ⟨m1, m2, m3⟩ := put_mask t (way t.mask (th P w k) K)
    generalize t.put (way t.mask (th P w k) K) = pt at T1 m1 m2 m3 ⊢
    obtain ⟨t1, p⟩ := pt
    dsimp only at T1 m1 m2 m3 ⊢
    rw [← m3] at pl T1
    rw [List.length_map] at pl
    -- what stands in it then
    have rows1 : (SetTable.insertAt es p (th P w k, Value.ref x)).toList = ents P w (L.take p ++ (x, k) :: L.drop p) := by
      rw [SetTable.toList_insertAt, R.rows]
      unfold ents
      rw [List.map_append, List.map_cons, List.map_take, List.map_drop]
    have tab1 : ∀ t2 : SetTable, t2.place = t1.place → t2.dummies = t1.dummies → t2.mask = t1.mask → Tab t2 ((L.take p ++ (x, k) :: L.drop p).map fun q => th P w q.2) := fun t2 z1 z2 z3 => by
      rw [List.map_append, List.map_cons, List.map_take, List.map_drop]
      exact ⟨by rw [z1]; exact T1.up, by rw [z2]; exact T1.none_, by rw [z1]; exact T1.cnt, by rw [z3]; exact T1.msk, by rw [z1, z3]; exact T1.le, by rw [z1, z3]; exact T1.on⟩
    have pm := put_perm L p (x, k)
    generalize L.take p ++ (x, k) :: L.drop p = L1 at rows1 tab1 pm
    have len1 : L1.length = L.length + 1 := pm.length_eq
    have sz1 : (SetTable.insertAt es p (th P w k, Value.ref x)).size = L.length + 1 := by
      rw [← Array.length_toList, rows1, ents_len, len1]
    generalize SetTable.insertAt es p (th P w k, Value.ref x) = es1 at rows1 sz1
    have nd1 : (L1.map (·.2)).Nodup := (pm.map (·.2)).nodup_iff.mpr (List.nodup_cons.mpr ⟨m, R.nd⟩)
    have go : ∀ t2 : SetTable, t2.place = t1.place → t2.dummies = t1.dummies → t2.mask = t1.mask → t2.led = t1.led → wpAny (model P w) A (do
        storeSet a es1 t2
        if (!false && t2.tooFull) = true then setRelay a (SetTable.grown (es.size + 1))
        return true) Q E s := fun t2 z1 z2 z3 z4 => by
      have T2 := tab1 t2 z1 z2 z3
      refine wpAny_bind (wpAny_storeSet_of e1 e3 ?_ (by rw [sz1, sizeLine_eq]; omega))
      have sb : Heap.SameBut a s.heap (s.heap.update a (Obj.putSet es1 t2)) := Heap.SameBut.update ..
      have at1 := store_at (es' := es1) (t' := t2) e1 e3
      generalize s.heap.update a (Obj.putSet es1 t2) = h1 at sb at1 ⊢
      have led2 : w.params.followText "set-order" = true ∨ t2.led = true := by
        rw [z4, m2]
        exact R.led
      have full : t2.tooFull = decide ((L.length + 1) * 5 ≥ t.mask * 3) := by
        unfold SetTable.tooFull
        rw [T2.fill.1, List.length_map, len1, z3, m1]
      rw [full, sz]
      by_cases c : (L.length + 1) * 5 ≥ t.mask * 3
      · obtain ⟨M, q1, q2, q3, q4⟩ := next_size R.mq room c few
        rw [decide_eq_true c]
        have last : wpAny (model P w) A (setRelay a (SetTable.grown (L.length + 1))) (fun _ s' => wpAny (model P w) A (pure true) Q E s') E { s with heap := h1 } :=
          relaid (s := { s with heap := h1 }) (L := L1) at1 ⟨e2.1, e2.2.1, e2.2.2⟩ rfl rows1 T2 (by rw [len1, z3, m1]; exact q4) nd1 led2 q1 q2 (by rw [len1]; exact q3) fun h2 L3 es3 ep3 t3 sb3 R3 p3 =>
            wpAny_pure (h true h2 L3 es3 ep3 t3 (sb.trans sb3) R3 (fun z => absurd z m) fun _ => p3.trans pm)
        first
          | exact wpAny_bind (wp_if_pos rfl last)
          | exact wp_if_pos rfl (wpAny_bind last)
      · rw [decide_eq_false c]
        have last : Q true { s with heap := h1 } := by
          refine h true h1 L1 es1 (ep + 1) t2 sb ⟨⟨_, at1, ⟨e2.1, e2.2.1, e2.2.2⟩, rfl⟩, rows1, T2, by rw [z3, m1]; exact R.mq, nd1, led2, ?_⟩ (fun z => absurd z m) fun _ => pm
          rw [len1, z3, m1]
          omega
        first
          | exact wp_if_neg (by decide) (wpAny_pure last)
          | exact wpAny_bind (wp_if_neg (by decide) (wpAny_pure (wpAny_pure last)))
    by_cases pl1 : t1.plain = true
    · first
        | (refine wpAny_bind (wp_if_pos pl1 (hbv_tup hx fun b => ?_)))
        | (refine wp_if_pos pl1 (wpAny_bind (hbv_tup hx fun b => ?_)))
      cases b
      · exact go { t1 with plain := false } rfl rfl rfl rfl
      · exact go t1 rfl rfl rfl rfl
    · first
        | (refine wpAny_bind (wp_if_neg pl1 (wpAny_pure ?_)))
        | (refine wp_if_neg pl1 (wpAny_bind (wpAny_pure ?_)))
      exact go t1 rfl rfl rfl rfl
/-- a new set -/
theorem setQ_new {h : Heap} (e : h.get? a = some { cls := .type "set", dict := none, data := .set #[] 0 (.fresh 0 0 (!w.params.followText "set-order")) }) : SetQ P w h a [] #[] 0 (.fresh 0 0 (!w.params.followText "set-order")) where
  obj := ⟨_, e, ⟨rfl, rfl, rfl⟩, rfl⟩
  rows := rfl
  tab := ⟨List.Pairwise.nil, rfl, rfl, ⟨3, by decide, rfl⟩, fun _ z => (by cases z), fun i h j hi => (by simp at hi)⟩
  mq := .inl rfl
  nd := List.nodup_nil
  led := by
    show _ ∨ (!w.params.followText "set-order") = true
    cases w.params.followText "set-order"
    · exact .inr rfl
    · exact .inl rfl
  room := by
    show 0 * 5 < 7 * 3
    decide
end
end TM
end
section
set_option maxHeartbeats 4000000
set_option maxRecDepth 100000
set_option linter.all false
namespace TM
open PySem PySem.Spec PyProof.Rows L2
/-- the set of tuples at a: which, and where they stand -/
def SetO (P : Program) (w : World) (a : Addr) (L : List (Addr × List Key)) : HO := .ext fun h => ∃ es ep t, SetQ P w h a L es ep t
theorem setO_ok {P : Program} {w : World} {H : Hp} {h : Heap} {a : Addr} {L : List (Addr × List Key)} {es ep t} (R : SetQ P w h a L es ep t) : ObjOk P w H h a (SetO P w a L) := by
  obtain ⟨o, e1, e2⟩ := id R.obj
  refine ⟨⟨es, ep, t, R⟩, ⟨o, e1⟩, fun h1 h2 p k => ?_⟩
  obtain ⟨es', ep', t', R'⟩ := p
  obtain ⟨o', g1, g2⟩ := id R'.obj
  exact ⟨es', ep', t', ⟨o', k o' g1, g2⟩, R'.rows, R'.tab, R'.mq, R'.nd, R'.led, R'.room⟩
theorem key_items {P : Program} {w : World} : ∀ {k : List Key} {us : List Value}, Vals (k.map kV) us → ItemsAre (MK P w) k us
  | [], _, .nil => .nil
  | _ :: _, _, .cons r rs => .cons (kV_is r) (key_items rs)
/-- where the keys stand -/
def KeysAt (K : PySem.W.Frag) (H : Hp) (L : List (Addr × List Key)) : Prop := ∀ p ∈ L, SqT K H p.1 (p.2.map kV)
section
variable {X : Cx}
theorem tup_at {pins : List (Addr × Obj)} {σ : L2.St} {H : Hp} {s : Shared} (I : Inv X pins σ H s) {b : Addr} {k : List Key} (h : SqT X.K H b (k.map kV)) : TupAt X.prog X.w s.heap k b := by
  obtain ⟨its, r, ⟨o, e1, e2, m, e3⟩, _⟩ := I.tuple h
  exact ⟨o, its.toArray, m, e1, e2, e3, by simpa using key_items r⟩
/-- seen.add(k) -/
def rAddQ (K : PySem.W.Frag) (P : Program) (w : World) : V → List V → Hp → VK → Prop := fun x xs H Q => ∃ (a b : Addr) (k : List Key) (L : List (Addr × List Key)), x = V.ref a ∧ xs = [.ref b] ∧ H a = some (SetO P w a L) ∧ KeysAt K H L ∧ SqT K H b (k.map kV) ∧ L.length + 1 ≤ 4914 ∧
  ∀ L', (k ∈ L.map (·.2) → L' = L) → (k ∉ L.map (·.2) → L'.Perm ((b, k) :: L)) → Q .non (upd H a (SetO P w a L'))
theorem mt_addQ (hu : X.A.units + 64 < cLine) : MtR X "set.add" (rAddQ X.K X.prog X.w) := by
  intro pins s σ H x xs v us Q I rx rxs h
  obtain ⟨a, b, k, L, rfl, rfl, ha, hL, hb, few, q⟩ := h
  cases rx
  rw [Vals.ref1 rxs]
  obtain ⟨es, ep, t, R⟩ := (I.hok a _ ha).1
  obtain ⟨o, e1, e2, e3⟩ := id R.obj
  have isS : s.TypeIs (.ref a) "set" := ⟨o, e1, e2.1⟩
  refine wpAny_call_entry PySem.F.slot_set_add isS PySem.F.entry_set_add ?_ (PySem.F.args_set_add_2 _ _)
  unfold Builtin.«set.add» Builtin.Frozenset.oneOther
  simp only [List.isEmpty_nil, bind_assoc]
  unfold Builtin.Frozenset.addrOf setAdd
  refine wpAny_bind (wpAny_pure ?_)
  try dsimp only
  refine wpAny_bind (wpAny_pure ?_)
  try dsimp only
  refine wpAny_bind (wpAny_holding (wpAny_bind (wpAny_pyHash_tuple (by show _ < cLine; simp; omega) (tup_at I hb) ?_)))
  refine added (s := { s with toks := s.toks + (k.length + 1) }) R (fun p hp => tup_at I (hL p hp)) (tup_at I hb) (by show _ < cLine; simp; omega) few fun r h' L' es' ep' t' sb R' c1 c2 => ?_
  have he : ∃ u, h'.get? a = some u := by
    obtain ⟨o', g, _⟩ := R'.obj
    exact ⟨o', g⟩
  show wpAny _ _ (ret Value.none) _ _ _
  exact wpAny_pure ⟨_, rfl, .non, upd H a (SetO X.prog X.w a L'), I.write (e := a) (t' := s.toks + (k.length + 1)) (by rw [ha]; trivial) (.inl rfl) (fun b u hb hu => (sb.2 b hb).trans hu) he (setO_ok R'), rfl, q L' c1 c2⟩
variable {o e : Expr} {es : List Expr} {to : TE} {t : TA} {apos cpos : Pos}
end
end TM
end
namespace TU
end TU
namespace TR
end TR
namespace TR
end TR
section
set_option Elab.async false
set_option maxRecDepth 100000
set_option linter.all false
namespace TR
open PySem PySem.Spec PyProof.Rows L2 TM TK TB TP TH TU
section
variable {P : Program} {w_ : World} {K : PySem.W.Frag} {mg : Str → Option Value} {base : Heap} {C D fT pO gO : Addr} {mc : Value} {fdT : FuncData} {a : Addr} {ns : List Int}
theorem scGr : FnScope ["_law_row", "_law_many"] ["_law_row", "_law_many"] (defScope sLawGreat) := ⟨rfl, rfl, rfl, by decide +kernel, rfl, by decide +kernel, by decide +kernel⟩
def spGr (K : PySem.W.Frag) (a : Addr) (ns : List Int) : Sp := fun vs H Q _ => ∃ (r : Addr) (m : Int), vs = [.ref r, .int m] ∧ RowAt K a ns H r ∧ 1 ≤ m ∧ ∀ H' (k : Nat), (k : Int) < m → RowAt K a ns H' r → But r H H' → Q (.int k) H'
theorem ok_gr {f : Addr} {fd : FuncData} (F : Fun K "_law_great" "_law_great" sLawGreat f fd) (L : TxtL K mg) (GT : FnOk P w_ K mg base CX0 1 fT fdT ["_law_row", "_law_many"] (spTk K a ns)) (kT : PySem.W.keepIn K (.ref fT) = true) (bT : Binds K fdT ["_law_row", "_law_many"] []) (mT : mg "_law_taken" = some (.ref fT)) :
    FnOk P w_ K mg base CX0 2 f fd ["_law_row", "_law_many"] (spGr K a ns) := by
  refine F.ok scGr (fun vs H Q E h => ?_) (fun cdv A outer s H vs Q E hr h => ?_)
  · obtain ⟨r, m, rfl, _⟩ := h
    rfl
  · obtain ⟨r, m, rfl, hR, m1, k⟩ := h
    refine ⟨_, pss_one (ps_ret (pe_op op_modN (pe_callTy call_int1 (by rfl) L.int (by decide +kernel) (pa_cons (pe_op op_add (pe_op op_mul (pe_call GT hr rfl mT kT bT .nil pass0 (pa_cons (pv 0) (pa_cons (pe_op op_pow pe_int pe_int) pa_nil))) (pe_op op_pow pe_int pe_int))
        (pe_call GT hr rfl mT kT bT .nil pass0 (pa_cons (pv 0) (pa_cons (pe_op op_pow pe_int pe_int) pa_nil)))) pa_nil)) (pv 1))), ?_⟩
    refine ⟨_, rfl, _, _, rfl, rfl, ⟨by decide, by decide, by decide⟩, r, _, rfl, hR, by decide, by decide, fun H1 i hi R1 b1 => ?_⟩
    refine ⟨_, _, rfl, rfl, ⟨by decide, by decide, by decide⟩, _, _, rfl, rfl, .inr (by decide), ?_⟩
    refine ⟨_, rfl, _, _, rfl, rfl, ⟨by decide, by decide, by decide⟩, r, _, rfl, R1, by decide, by decide, fun H2 j hj R2 b2 => ?_⟩
    refine ⟨_, _, rfl, rfl, .inl ⟨_, rfl, _, rfl, _, _, rfl, rfl, by omega, ?_⟩⟩
    have hk := fmod_in (k := (i : Int) * 10 ^ (9 : Int).toNat + (j : Int)) m1
    have := k H2 (((i : Int) * 10 ^ (9 : Int).toNat + (j : Int)).fmod m).toNat (by omega) R2 (b1.trans b2)
    rw [Int.toNat_of_nonneg hk.1] at this
    exact this
theorem scTry : FnScope ["_law_rows_here"] ["_law_rows_here"] (defScope sLawTray) := ⟨rfl, rfl, rfl, by decide +kernel, rfl, by decide +kernel, by decide +kernel⟩
def spTry (K : PySem.W.Frag) (D : Addr) : Sp := fun vs H Q _ => ∃ (l : Addr) (h w : Nat) (g : Grid), vs = [.ref l] ∧ VG h w g ∧ H l = some (.lst (rowV g)) ∧ ∀ H' p, Same H H' → TrayAt K D H' p g → Q (.ref p) H'
theorem ok_try {f : Addr} {fd : FuncData} (F : Fun K "_law_tray" "_law_tray" sLawTray f fd) (CT : ClsT K mg D) (CR_ : ClX.CRead K D mc) (CM : ClX.CMet K D mc "of_text" pO gO) (GO : FnR P w_ K mg base CX0 5 gO (spOt K D)) :
    FnOk P w_ K mg base CX0 6 f fd ["_law_rows_here"] (spTry K D) := by
  refine F.ok scTry (fun vs H Q E h => ?_) (fun cdv A outer s H vs Q E hr h => ?_)
  · obtain ⟨l, h, w, g, rfl, _⟩ := h
    rfl
  · obtain ⟨l, h, w, g, rfl, hV, hl, k⟩ := h
    refine ⟨_, pss_one (ps_ret (ClX.pe_cmeth (pe_glob (v := .ref D) rfl CT.mgC rfl) CR_ CM GO hr pass0 (pa_cons (pe_join pe_str (pv 0)) pa_nil))), ?_⟩
    have h1 := row_sum 8 g fun r hr => hV.row hr
    have h2 := hV.len
    refine ⟨rfl, ⟨_, rfl⟩, _, rfl, _, l, g.map S, rfl, rfl, .inl ?_, ?_, h, w, g, ?_, hV, fun H' p sm ht => k H' p sm ht⟩
    · rw [List.map_map]
      exact SqL.of hl
    · rw [List.length_map]
      show _ + _ * 1 ≤ 16777216
      omega
    · show [V.ref D, V.str (Txt.join (S [10]) (g.map S))] = _
      rw [join_S]
end
end TR
end
section
set_option Elab.async false
set_option maxRecDepth 100000
set_option linter.all false
namespace TR
open PySem PySem.Spec PyProof.Rows L2 TM TK TB TP TH TU
section
variable {X : Cx}
def dWell (d : PyData) : Prop := PySem.W.alike d d = true ∧ d.depth ≤ 60 ∧ PyData.eqv d d = true
theorem hits_data {pins : List (Addr × Obj)} {σ : L2.St} {H : Hp} {s : Shared} (I : Inv X pins σ H s) {A : Around} (hu : A.units + 60 < cLine) {ls : List (Key × V)} {vb : List (Key × Value)} (rb : KV ls vb) {ks : List (Key × V)} {va : List (Key × Value)} (ra : KV ks va) :
    (∀ p ∈ ks, ∃ z d, valV ls p.1 = some z ∧ Dp X.K H p.2 d ∧ Dp X.K H z d ∧ dWell d) → PySem.W.KeqHits A s vb va true := by
  unfold KV at ra
  induction ra with
  | nil => intro _; exact .nil
  | @cons p q ps qs h t ih =>
    intro hp
    obtain ⟨h1, h2⟩ := h
    obtain ⟨z, d, e, d1, d2, w1, w2, w3⟩ := hp p List.mem_cons_self
    have rr : RelO (some z) (valueAt vb p.1) := by rw [← e]; exact rb.val p.1
    obtain ⟨y, hy, ry⟩ := rr.some_of
    obtain ⟨k, v⟩ := q
    have h1' : p.1 = k := h1
    rw [h1'] at hy
    obtain ⟨as, r1⟩ := Dp.reads I d _ _ d1 h2
    obtain ⟨bs, r2⟩ := Dp.reads I d _ _ d2 ry
    have E := PySem.W.eqAt_alike d d A s _ _ _ _ r1 r2 w1 (by rw [Nat.min_self]; omega)
    rw [w3] at E
    show PySem.W.KeqHits A s vb ((k, v) :: qs) (true && true)
    exact .hit hy E (ih fun p' hm => hp p' (List.mem_cons_of_mem _ hm))
open SrtO in
end
end TR
end
section
set_option Elab.async false
set_option maxRecDepth 100000
set_option linter.all false
namespace TR
open PySem PySem.Spec PyProof.Rows L2 TM TK TB TP TH TU
section
variable {X : Cx}
/-- d.values() as a value -/
def valuesO (p d : Addr) : HO := .ext fun h => h.IsValuesView p d
theorem valuesO_ok {P : Program} {w : World} {H : Hp} {h : Heap} {p d : Addr} (e : h.get? p = some { cls := .type "dict_values", data := .fields #[.ref d] }) : ObjOk P w H h p (valuesO p d) :=
  ⟨⟨_, e, rfl, rfl⟩, ⟨_, e⟩, fun h1 h2 x k => let ⟨o, ho, r⟩ := x; ⟨o, k o ho, r⟩⟩
end
end TR
end
namespace TR
end TR
section
set_option Elab.async false
set_option maxRecDepth 100000
set_option linter.all false
namespace TR
open PySem PySem.Spec PyProof.Rows L2 TM TK TB TP TH TU TW
section
variable {X : Cx} {n : Nat}
end
section
variable {P : Program} {w_ : World} {K : PySem.W.Frag} {mg : Str → Option Value} {base : Heap} {C D CU fCl fTc fCm fAr fBk fTe : Addr} {n : Nat} {fdCm : FuncData}
theorem scCm : FnScope ["tray", "marble"] ["tray", "marble"] (defScope sCheckMarble) := ⟨rfl, rfl, rfl, by decide +kernel, rfl, by decide +kernel, by decide +kernel⟩
def spCm (K : PySem.W.Frag) (D : Addr) : Sp := fun vs H Q _ => ∃ (p : Addr) (c h w : Nat) (g : Grid), vs = [.ref p, sg c] ∧ TrayAt K D H p g ∧ VG h w g ∧ c ∈ mb g.flatten ∧ ∀ H', Same H H' → Q .non H'
theorem ok_cm {f : Addr} {fd : FuncData} (F : Fun K "check_marble" "check_marble" sCheckMarble f fd) (hs : PySem.W.findIn K (.ref D) "__contains__" = some (some (.ref fTc))) (hf : PySem.W.isFn K (.ref fTc) = true) (FC : FnR P w_ K mg base CX0 3 fTc (spTc K D)) :
    FnOk P w_ K mg base CX0 4 f fd ["tray", "marble"] (spCm K D) := by
  refine F.ok scCm (fun vs H Q E h => ?_) (fun cdv A outer s H vs Q E hr h => ?_)
  · obtain ⟨p, c, h, w, g, rfl, _⟩ := h
    rfl
  · obtain ⟨p, c, h, w, g, rfl, T0, hV, hm, k⟩ := h
    obtain ⟨dx, a, hp, hS⟩ := id T0
    refine ⟨_, pss_one (ps_if (pt_cmpR (op_notOwn hs hf FC (hr.mono (by decide)) pass0) (pv 1) (pv 0) (by rfl)) pss_never pss_nil), ?_⟩
    have hh : has g [c] = true := by
      show (true && decide (c ∈ mb g.flatten)) = true
      rw [decide_eq_true hm]
      rfl
    refine ⟨_, rfl, _, rfl, p, dx, _, rfl, hp, p, _, h, w, g, rfl, T0, hV, .inl ⟨[c], rfl, by show 1 ≤ 1000; decide, fun H1 sm => ?_⟩⟩
    rw [hh]
    exact ⟨true, rfl, _, rfl, iteF (k _ sm)⟩
/-- where a marble stands, as a place's tuple -/
def PlcAt (H : Hp) (q : Addr) (w : Nat) (g : Grid) (c : Nat) : Prop := H q = some (.tup (plV w (g.flatten.idxOf c)))
theorem call_ok {H : Hp} {p : Addr} {c h w : Nat} {g : Grid} {Q : VK} {E : XK} (T0 : TrayAt K D H p g) (hV : VG h w g) (hm : c ∈ mb g.flatten) (k : ∀ H' q, Same H H' → H q = none → PlcAt H' q w g c → Q (.ref q) H') : spCl K D CU [.ref p, sg c] H Q E := by
  have hc := mem_mb.mp hm
  exact ⟨p, _, h, w, g, rfl, T0, hV, .inl ⟨c, g.flatten.idxOf c, rfl, hc.2, (idx_at hc.1).2, fun H' q s hq e => k H' q s hq e⟩⟩
abbrev NMa : List Str := ["tray", "marble", "word", "times", "after"]
theorem scMa : FnScope NMa ["tray", "marble", "word", "times"] (defScope sMarbleAfter) := ⟨rfl, rfl, rfl, by decide +kernel, rfl, by decide +kernel, by decide +kernel⟩
def spMa (K : PySem.W.Frag) (C D : Addr) : Sp := fun vs H Q _ => ∃ (p q : Addr) (c h w k : Nat) (g : Grid) (t : List Nat), vs = [.ref p, sg c, .ref q, .int k] ∧ TrayAt K D H p g ∧ VG h w g ∧ WordAt C H q t ∧ c ∈ mb g.flatten ∧ k ≤ 10 ^ 18 ∧
  ∀ H' r, Same H H' → H r = none → PlcAt H' r w (rounds h w t k g) c → Q (.ref r) H'
theorem mb_rounds {h w : Nat} {t : List Nat} {g : Grid} (hV : VG h w g) : ∀ k, (mb (rounds h w t k g).flatten).Perm (mb g.flatten)
  | 0 => List.Perm.refl _
  | k + 1 => by
    have V := VG.rounds (t := t) k hV
    exact ((like_tilts t V.rc).pm).trans (mb_rounds hV k)
theorem ok_ma {f : Addr} {fd : FuncData} (F : Fun K "marble_after" "marble_after" sMarbleAfter f fd) (b : Binds K fd ["tray", "marble", "word", "times"] [])
    (GM : FnOk P w_ K mg base CX0 4 fCm fdCm ["tray", "marble"] (spCm K D)) (kM : PySem.W.keepIn K (.ref fCm) = true) (bM : Binds K fdCm ["tray", "marble"] []) (mM : mg "check_marble" = some (.ref fCm))
    (GA : FnRn n P w_ K mg base CX0 7 fAr (spAr K C D)) (kA : PySem.W.keepIn K (.ref fAr) = true) (mA : mg "after_rounds" = some (.ref fAr))
    (CO : StX.CallO K D fCl) (GC : FnR P w_ K mg base (L2.CX P w_) 4 fCl (spCl K D CU)) : FnRn n P w_ K mg base CX0 8 f (spMa K C D) := by
  refine fn_n F b scMa (fun vs H Q E h => ?_) fun cdv A outer s H vs Q E hr h => ?_
  · obtain ⟨p, q, c, h, w, k, g, t, rfl, _⟩ := h
    rfl
  · obtain ⟨p, q, c, h, w, k, g, t, rfl, T0, hV, W0, hm, hk, kk⟩ := h
    have nd := scMa.nd
    refine ⟨_, pssn_cons (PS.up (ps_expr (pe_call GM (hr.mono (by decide)) rfl mM kM bM .nil pass0 (pa_cons (pv 0) (pa_cons (pv 1) pa_nil)))))
      (pssn_cons (psn_set (i := 4) nd rfl (.inl rfl) (pen_call GA (hr.mono (by decide)) rfl mA kA pass0 (pan_cons (PE.up (pv 0)) (pan_cons (PE.up (pv 2)) (pan_cons (PE.up (pv 3)) pan_nil)))))
      (pssn_one (PS.up (ps_ret (pe_callO (pv 4) CO GC (hr.mono (by decide)) passL (pa_cons (pv 1) pa_nil)))))), ?_⟩
    refine ⟨_, rfl, _, rfl, p, c, h, w, g, rfl, T0, hV, hm, fun H1 s1 => ?_⟩
    refine ⟨_, rfl, _, rfl, _, rfl, p, q, h, w, k, g, t, rfl, T0.same s1, hV, W0.same s1, hk, fun H2 r s2 hr2 => ?_⟩
    have V2 := VG.rounds (t := t) k hV
    obtain ⟨dr, ar, er, _⟩ := id hr2
    refine ⟨_, rfl, r, rfl, _, rfl, ⟨dr, _, er⟩, call_ok hr2 V2 ((mb_rounds hV k).mem_iff.mpr hm) fun H3 r2 s3 h3 e3 => kk _ _ ((s1.trans s2).trans s3) ((s1.trans s2).free h3) e3⟩
end
end TR
end
section
set_option Elab.async false
set_option maxRecDepth 100000
set_option linter.all false
namespace TH
open PySem PySem.Spec PyProof.Rows L2 TR TM PpSet
section
variable {X : Cx} {n : Nat} {pins : List (Addr × Obj)} {σ : L2.St}
/-- what a set comprehension reads of its loop; its elements are tuples -/
abbrev ScQ (K : PySem.W.Frag) (P : Program) (w_ : World) (g : TG) (tt : TT) (te : TE) (vs : List Nat) (σ : L2.St) (J : It) (D : Addr) (W : Nat → Nat → Hp → Prop) (Qd : Hp → Prop) : Prop := ∀ i m H, W i m H →
  (J.stop i H ∧ Qd H) ∨ (J.go i H ∧ ∃ Nx : Hp → Prop, (∀ H', Nx H' → ∃ m', m' < m ∧ W (i + 1) m' H') ∧ ∀ x H', J.yld i H x H' → g x (wipe σ vs) H' fun σ2 H2 => wipe σ2 vs = wipe σ vs ∧ tt σ2 H2 fun b H3 =>
    if b = true then te σ2 H3 fun y H4 => rAddQ K P w_ (.ref D) [y] H4 fun _ H5 => Nx H5 else Nx H3)
theorem scq_loop {B : Cx} {elt tg iter : Expr} {ifs : List Expr} {scope : Scope} {pos : Pos} {g : TG} {tt : TT} {te : TE} {vs : List Nat} {J : It} {fp : List Addr} {it D : Addr} {tn : Nat → Heap → Prop} {W : Nat → Nat → Hp → Prop} {Qd : Hp → Prop} {R : Result → Shared → Prop} {H : Hp} {s : Shared} {m0 : Nat}
    (hu : B.A.units + 64 < cLine) (hx : ∀ b ∈ fp, b ∈ B.ex) (hpn : B.pn = []) (hxe : B.xe = fun _ _ => False) (hc : B.calm = true) (T : Turn B.prog B.w B.K tg J fp it tn) (pg : PG B tg g) (pt : PTsn n B ifs tt) (pe : PEn n B elt te) (turn : ScQ B.K B.prog B.w g tt te vs σ J D W Qd)
    (fin : ∀ H' s', Inv B [] (wipe σ vs) H' s' → Qd H' → R (.ok .next) s') (hn : n ≤ s.toks) (I : Inv B [] (wipe σ vs) H s) (st : tn 0 s.heap) (hf : ∀ b ∈ fp, H b = none) (w0 : W 0 m0 H) :
    codeAny (model B.prog B.w) B.A (.compLoop (.SetComp elt [⟨tg, iter, ifs, 0⟩] scope pos) 0 (.ref it) (.ref D) B.env) R s := by
  refine compLoopS_any (fun m t => n ≤ t.toks ∧ ∃ i H', Inv B [] (wipe σ vs) H' t ∧ tn i t.heap ∧ (∀ b ∈ fp, H' b = none) ∧ W i m H') ?_ m0 ⟨hn, 0, H, I, st, hf, w0⟩
  rintro m t ⟨hm, i, H1, I1, st1, f1, w1⟩
  rcases turn i m H1 w1 with ⟨stop, qd⟩ | ⟨go, Nx, hNx, step⟩
  · refine thnFN hm (T.done B rfl rfl rfl hc i [] t _ H1 (fun _ _ => False) I1 (blk_fp hx hpn I1 f1) st1 stop) fun r t2 _ ⟨e, I2⟩ => ?_
    rw [e]
    exact fin H1 t2 I2 qd
  · refine thnFN hm (T.item B rfl rfl rfl hc i [] t _ H1 (fun _ _ => False) I1 (blk_fp hx hpn I1 f1) st1 go) fun r t2 hm2 ⟨u, e, more⟩ => ?_
    rw [e]
    refine thnFN hm2 more fun _ t3 hm3 ⟨x, H3, I3, rx, y3, st3, f3⟩ => ?_
    have pinned := I3.pinned (blk_fp hx hpn I3 f3) (T.obj _ _ st3)
    have h4 := pg.run _ t3 _ H3 x u _ pinned rx (step x H3 y3)
    rw [hxe] at h4
    refine thnFN hm3 h4 fun _ t4 hm4 ⟨σ4, H4, I4, w4, q4⟩ => ?_
    have again : ∀ {t6 : Shared} {H6 : Hp}, n ≤ t6.toks → Inv B ([] ++ pinsAt fp t3.heap) σ4 H6 t6 → Nx H6 → ∃ m', m' < m ∧ (n ≤ t6.toks ∧ ∃ i H', Inv B [] (wipe σ vs) H' t6 ∧ tn i t6.heap ∧ (∀ b ∈ fp, H' b = none) ∧ W i m' H') := fun {t6 H6} hm6 I6 nx6 => by
      obtain ⟨m', lt, w6⟩ := hNx H6 nx6
      obtain ⟨k1, k2, k3⟩ := blk_turn T st3 w4 I6
      exact ⟨m', lt, hm6, i + 1, H6, k1, k2, k3, w6⟩
    have h5 := pt _ t4 σ4 H4 _ hm4 I4 q4
    rw [hxe] at h5
    refine thnFN hm4 h5 fun b t5 hm5 ⟨H5, I5, q5⟩ => ?_
    cases b with
    | false =>
      rw [if_neg Bool.false_ne_true] at q5 ⊢
      exact again hm5 I5 q5
    | true =>
      rw [if_pos rfl] at q5 ⊢
      have h6 := pe _ t5 σ4 H5 _ hm5 I5 q5
      rw [hxe] at h6
      refine thnFN hm5 h6 fun z t6 hm6 ⟨yv, H6, I6, r6, nx⟩ => ?_
      have h7 := mt_addQ (X := B) hu _ t6 σ4 H6 (.ref D) [yv] (.ref D) [z] _ I6 rfl (.cons r6 .nil) nx
      rw [hxe] at h7
      exact thnFN hm6 h7 fun _ t7 hm7 ⟨_, H7, I7, _, nx7⟩ => again hm7 I7 nx7
/-- {e for x in xs if c}: D the new set -/
def tScQ (K : PySem.W.Frag) (P : Program) (w_ : World) (wi : TI) (g : TG) (tt : TT) (te : TE) (vs : List Nat) : TE := fun σ H Q => wi σ H fun J H1 => ∀ D, H1 D = none → ∃ W : Nat → Nat → Hp → Prop, (∃ m, W 0 m (upd H1 D (SetO P w_ D []))) ∧ ScQ K P w_ g tt te vs σ J D W (Q (.ref D))
theorem scq_core {s : Shared} {H : Hp} {Q : VK} {elt tg iter : Expr} {ifs : List Expr} {scope : Scope} {own : List (Str × Nat)} {pos pos' : Pos} {wi : TI} {g : TG} {tt : TT} {te : TE} {use : Option (Value → Sem Unit)} {Qf : Value → Shared → Prop}
    (hu : X.A.units + 64 < cLine) (hc : X.calm = true) (hN : X.N.Nodup) (hn : n ≤ s.toks) (I : Inv X pins σ H s) (hi : PIn n X tg iter wi) (ok : BlkOk X.N X.env.scope scope own)
    (hg : ∀ (s : Shared) (H : Hp) (C : Addr) (cl : List (Str × Addr)) (fp : List Addr), PG (X.blk s H scope (compEnvC scope cl C X.env) fp) tg g)
    (ht : ∀ (s : Shared) (H : Hp) (C : Addr) (cl : List (Str × Addr)) (fp : List Addr), PTsn n (X.blk s H scope (compEnvC scope cl C X.env) fp) ifs tt)
    (he : ∀ (s : Shared) (H : Hp) (C : Addr) (cl : List (Str × Addr)) (fp : List Addr), PEn n (X.blk s H scope (compEnvC scope cl C X.env) fp) elt te) (hs : ∀ x, foldedSetIterable iter X.env x = pure x)
    (h : tScQ X.K X.prog X.w wi g tt te (own.map (·.2)) σ H Q)
    (hRR : ∀ D C s' m H', Inv X pins σ H' s' → Q (.ref D) H' → s'.heap.Ns C m → FpOk X pins H' C → compPost (model X.prog X.w) X.A X.xe use Qf (.ref D) C (.ok .next) s') :
    wpAny (model X.prog X.w) X.A (comprehension (.SetComp elt [⟨tg, iter, ifs, 0⟩] scope pos) scope X.env pos' (newSet (.type "set")) false (eval iter X.env) use) Qf X.xe s := by
  have known : ∀ y ∈ scope.names, y.2 = .free → ∃ c, X.env.cells.lookup y.1 = some c := fun y hy e => (ok.free y hy e).elim (fun k => I.ok.has _ (.inl k)) fun k => I.ok.has _ (.inr k)
  refine wpAny_comprehension_free (use := use) rfl hs (closure_ok known) ok.kind (fun y hy e => by rw [ok.uniq y hy, e]) ?_
  refine thnN hn (hi pins s σ H _ hn I h) fun xv s1 hn1 hx => thnN hn1 hx fun itv s2 hn2 h2 => ?_
  obtain ⟨it, fp, tn, J, H2, rfl, I2, T, st2, f2, q⟩ := h2
  refine newSet_ok (newEnv_comp ?_)
  have free2 : H2 s2.heap.objs.size = none := I2.hok.fresh (Nat.le_refl _)
  have below : ∀ b ∈ fp, b < s2.heap.objs.size := fun b hb => by
    obtain ⟨o, e, _⟩ := T.obj _ _ st2 b hb
    exact Heap.lt_size e
  have laid3 : Inv X pins σ (upd H2 s2.heap.objs.size (SetO X.prog X.w s2.heap.objs.size [])) { s2 with heap := s2.heap.push { cls := .type "set", dict := none, data := .set #[] 0 (.fresh 0 0 (!X.w.params.followText "set-order")) } } :=
    I2.laid (t' := s2.toks) (fun b o e => Heap.get?_push_of_some _ e) (Nat.le_refl _) (setO_ok (setQ_new (Heap.get?_push_size _ rfl)))
  have st3 : tn 0 (s2.heap.push { cls := .type "set", dict := none, data := .set #[] 0 (.fresh 0 0 (!X.w.params.followText "set-order")) }) := T.keep _ _ _ st2 fun b _ o e => Heap.get?_push_of_some _ e
  obtain ⟨W, ⟨m0, w0⟩, turn⟩ := q _ free2
  generalize hD : s2.heap.objs.size = D at free2 below laid3 turn w0 ⊢
  generalize hH3 : upd H2 D (SetO X.prog X.w D []) = H3 at laid3 w0
  have f3 : ∀ b ∈ fp, FpOk X pins H3 b ∧ b < ({ s2 with heap := s2.heap.push { cls := .type "set", dict := none, data := .set #[] 0 (.fresh 0 0 (!X.w.params.followText "set-order")) } } : Shared).heap.objs.size := fun b hb => by
    have lt := below b hb
    refine ⟨⟨?_, (f2 b hb).2⟩, ?_⟩
    · rw [← hH3, upd_ne (Nat.ne_of_lt lt)]
      exact (f2 b hb).1
    · show b < (s2.heap.push _).objs.size
      rw [Heap.size_push, hD]
      exact Nat.lt_succ_of_lt lt
  generalize hs3 : ({ s2 with heap := s2.heap.push { cls := .type "set", dict := none, data := .set #[] 0 (.fresh 0 0 (!X.w.params.followText "set-order")) } } : Shared) = s3 at laid3 f3
  have h3 : s2.heap.push { cls := .type "set", dict := none, data := .set #[] 0 (.fresh 0 0 (!X.w.params.followText "set-order")) } = s3.heap := by rw [← hs3]
  have hn3 : n ≤ s3.toks := by rw [← hs3]; exact hn2
  rw [h3] at st3
  have I4 := block_start laid3 ok hN f3
  have st4 : tn 0 (pushCells (s3.heap.push { cls := .type "dict", data := .dict #[] }) scope.names) := T.keep _ _ _ st3 fun b _ o e => pushCells_keeps _ _ _ _ (Heap.get?_push_of_some _ e)
  show codeAny _ _ (.compStart (.SetComp elt [⟨tg, iter, ifs, 0⟩] scope pos) 0 (.ref it) (.ref D) (blkE X scope s3)) (compPost (model X.prog X.w) X.A X.xe use Qf (.ref D) s3.heap.objs.size) { s3 with heap := pushCells (s3.heap.push { cls := .type "dict", data := .dict #[] }) scope.names }
  have loop : codeAny (model X.prog X.w) X.A (.compLoop (.SetComp elt [⟨tg, iter, ifs, 0⟩] scope pos) 0 (.ref it) (.ref D) (blkE X scope s3)) (compPost (model X.prog X.w) X.A X.xe use Qf (.ref D) s3.heap.objs.size) { s3 with heap := pushCells (s3.heap.push { cls := .type "dict", data := .dict #[] }) scope.names } := by
    refine scq_loop (B := X.blk s3 H3 scope (blkE X scope s3) fp) (n := n) (J := J) (Qd := Q (.ref D)) (W := W) (vs := own.map (·.2)) (σ := σ) hu (fun b hb => hb) rfl rfl hc T (hg _ _ _ _ _) (ht _ _ _ _ _) (he _ _ _ _ _) turn ?_ hn3 I4 st4 (fun b hb => (f3 b hb).1.1) w0
    intro H' s' J' qd
    have back : Inv X pins σ H' s' := laid3.call' (ch := fp) J'.os J'.base J'.hok J'.bare fun b hb => ⟨(f3 b hb).1.2.2.2.1, (f3 b hb).1.2.1, (f3 b hb).1.2.2.2.2.1, (f3 b hb).1.2.2.2.2.2⟩
    obtain ⟨m, hm, _⟩ := J'.loc
    exact hRR D s3.heap.objs.size s' m H' back qd hm (laid3.fpOk (Nat.le_refl _) J'.free)
  exact codeAny_compStart_set loop (T.self X.A 0 _ _ _ st4 loop)
/-- as a value -/
theorem pe_scQ {elt tg iter : Expr} {ifs : List Expr} {scope : Scope} {own : List (Str × Nat)} {pos : Pos} {wi : TI} {g : TG} {tt : TT} {te : TE} (hu : X.A.units + 64 < cLine) (hc : X.calm = true) (hN : X.N.Nodup) (hi : PI X tg iter wi) (ok : BlkOk X.N X.env.scope scope own)
    (hg : ∀ (s : Shared) (H : Hp) (C : Addr) (cl : List (Str × Addr)) (fp : List Addr), PG (X.blk s H scope (compEnvC scope cl C X.env) fp) tg g)
    (ht : ∀ (s : Shared) (H : Hp) (C : Addr) (cl : List (Str × Addr)) (fp : List Addr), PTs (X.blk s H scope (compEnvC scope cl C X.env) fp) ifs tt)
    (he : ∀ (s : Shared) (H : Hp) (C : Addr) (cl : List (Str × Addr)) (fp : List Addr), PE (X.blk s H scope (compEnvC scope cl C X.env) fp) elt te) (hs : ∀ x, foldedSetIterable iter X.env x = pure x := by intro _; rfl) :
    PE X (.SetComp elt [⟨tg, iter, ifs, 0⟩] scope pos) (tScQ X.K X.prog X.w wi g tt te (own.map (·.2))) := by
  refine ⟨fun pins s σ H Q I h => ?_⟩
  rw [eval_SetComp]
  refine scq_core (n := 0) hu hc hN (Nat.zero_le _) I hi.up ok hg (fun a b c d e => (ht a b c d e).up) (fun a b c d e => (he a b c d e).up) hs h fun D C s' m H' I' q hns f => ⟨m, hns, fun h2 sb => ?_⟩
  obtain ⟨a0, a1, _, a3, a4, a5⟩ := f
  exact ⟨.ref D, H', I'.turned (t' := s'.toks) (fun b o hb e => (sb.2 b hb).trans e) a0 a1 a3 a4 a5, rfl, q⟩
end
end TH
end
section
set_option Elab.async false
set_option maxRecDepth 100000
set_option linter.all false
namespace TM
open PySem PySem.Spec PyProof.Rows L2
/-- the set behind i items -/
structure Gq (ks : List (Addr × List Key)) (i : Nat) (L : List (Addr × List Key)) : Prop where
  sub : ∀ p ∈ L, p ∈ ks.take i
  all : ∀ p ∈ ks.take i, p.2 ∈ L.map (·.2)
  len : L.length ≤ i
theorem take_at {α : Type} {ks : List α} {i : Nat} {x : α} (h : ks[i]? = some x) : ks.take (i + 1) = ks.take i ++ [x] := by rw [List.take_succ, h]; rfl
theorem Gq.next {ks L L' : List (Addr × List Key)} {i : Nat} {x : Addr × List Key} (g : Gq ks i L) (h : ks[i]? = some x) (c1 : x.2 ∈ L.map (·.2) → L' = L) (c2 : x.2 ∉ L.map (·.2) → L'.Perm (x :: L)) : Gq ks (i + 1) L' := by
  by_cases q : x.2 ∈ L.map (·.2)
  · rw [c1 q]
    refine ⟨fun p hp => ?_, fun p hp => ?_, Nat.le_succ_of_le g.len⟩ <;> rw [take_at h] at *
    · exact List.mem_append_left _ (g.sub p hp)
    · exact (List.mem_append.mp hp).elim (g.all p) fun z => by rw [List.mem_singleton.mp z]; exact q
  · have pm := c2 q
    refine ⟨fun p hp => ?_, fun p hp => ?_, by have := pm.length_eq; have := g.len; simp at *; omega⟩ <;> rw [take_at h] at *
    · exact (List.mem_cons.mp (pm.mem_iff.mp hp)).elim (fun e => List.mem_append_right _ (by rw [e]; exact List.mem_singleton.mpr rfl)) fun z => List.mem_append_left _ (g.sub p z)
    · refine (pm.map (·.2)).mem_iff.mpr ((List.mem_append.mp hp).elim (fun z => List.mem_cons_of_mem _ (g.all p z)) fun z => ?_)
      rw [List.mem_singleton.mp z]
      exact List.mem_cons_self
section
variable {P : Program} {w : World} {A : Around} {E : Value → Shared → Prop} {s : Shared}
theorem TupAt.up {h h' : Heap} {k : List Key} {b : Addr} (x : TupAt P w h k b) (f : ∀ c o, h.get? c = some o → h'.get? c = some o) : TupAt P w h' k b := by
  obtain ⟨o, its, m, ho, r⟩ := x
  exact ⟨o, its, m, f b o ho, r⟩
theorem SetQ.up {h h' : Heap} {a : Addr} {L : List (Addr × List Key)} {es : Array (Int × Value)} {ep : Nat} {t : SetTable} (R : SetQ P w h a L es ep t) (f : ∀ o, h.get? a = some o → h'.get? a = some o) : SetQ P w h' a L es ep t := by
  obtain ⟨o, ho, r⟩ := R.obj
  exact ⟨⟨o, f o ho, r⟩, R.rows, R.tab, R.mq, R.nd, R.led, R.room⟩
/-- the loop of update: what is left from item i on -/
theorem loopQ {I S : Addr} {fp wr : List Addr} {G : Array GenState → Array GenState → Prop} {n : Nat} {Pv : Nat → Value → Prop} {St : Nat → Shared → Prop} {R : Result → Shared → Prop} {ks : List (Addr × List Key)} {h0 : Heap}
    (W : WalksS P w A.in1 I fp wr G n Pv St) (nS : S ∉ fp) (hn : n = ks.length) (few : ks.length ≤ 4000) (val : ∀ i v, Pv i v → ∃ p, ks[i]? = some p ∧ v = .ref p.1)
    (hk : ∀ p ∈ ks, TupAt P w h0 p.2 p.1) (fS : h0.get? S = none) (fw : ∀ b ∈ wr, h0.get? b = none) (hu : A.in1.units < cLine) :
    ∀ (m i : Nat) (s : Shared), i + m = n → St i s → (∀ b o, h0.get? b = some o → s.heap.get? b = some o) → (∃ L es ep t, SetQ P w s.heap S L es ep t ∧ Gq ks i L) →
      (∀ s' L es ep t, Moved (S :: wr) G s s' → SetQ P w s'.heap S L es ep t → Gq ks n L → (∀ b o, h0.get? b = some o → s'.heap.get? b = some o) → R (.ok (.ret .none)) s') →
      codeAny (model P w) A (.builtin "set.update.loop" ⟨[.ref S, .ref I], []⟩) R s := by
  have Sw : S ∉ wr := fun h => nS (W.sub _ h)
  have inc : ∀ b ∈ wr, b ∈ S :: wr := fun b hb => .tail _ hb
  have keep : ∀ {s s' : Shared}, Moved wr G s s' → (∀ b o, h0.get? b = some o → s.heap.get? b = some o) → ∀ b o, h0.get? b = some o → s'.heap.get? b = some o :=
    fun mv f b o e => mv.heap b o (fun hb => by rw [fw b hb] at e; cases e) (f b o e)
  intro m
  induction m with
  | zero =>
    rintro i s rfl st f ⟨L, es, ep, t, hS, g⟩ k
    refine codeAny_builtin F.entry_set_update_loop ?_
    rw [Around.under_plainId F.plain_set_update_loop _]
    refine wpAny_bind (m := pyNext (.ref I)) (W.done s _ _ st fun s' mv => ?_)
    exact wpAny_pure (k s' L es ep t (mv.mono inc) (hS.up fun o e => mv.heap S o Sw e) g (keep mv f))
  | succ m ih =>
    rintro i s hi st f ⟨L, es, ep, t, hS, g⟩ k
    have lt : i < n := by omega
    refine codeAny_builtin F.entry_set_update_loop ?_
    rw [Around.under_plainId F.plain_set_update_loop _]
    refine wpAny_bind (m := pyNext (.ref I)) (W.item i s _ _ lt st fun v s' hv st' mv => ?_)
    obtain ⟨p, hp, rfl⟩ := val i v hv
    have f' := keep mv f
    have S' := hS.up fun o e => mv.heap S o Sw e
    have tu : ∀ q ∈ ks, TupAt P w s'.heap q.2 q.1 := fun q hq => (hk q hq).up f'
    have hx := tu p (List.mem_of_getElem? hp)
    refine wpAny_bind (m := holding [Value.ref p.1] (setAdd S (.ref p.1))) (wpAny_holding ?_)
    unfold setAdd
    refine wpAny_holding (wpAny_bind (wpAny_pyHash_tuple hu hx ?_))
    refine added (s := { s' with toks := s'.toks + (p.2.length + 1) }) S' (fun q hq => tu q (List.mem_of_mem_take (g.sub q hq))) hx hu (by have := g.len; omega) fun b h' L' es' ep' t' sb R' c1 c2 => ?_
    have f2 : ∀ b o, h0.get? b = some o → h'.get? b = some o := fun b o e => (sb.2 b fun z => by rw [z, fS] at e; cases e).trans (f' b o e)
    refine wpAny_pure ⟨plainId_quiet F.plain_set_update_loop _, ih (i + 1) _ (by omega) (W.frame _ s' _ _ st' (Nat.le_add_right _ _) fun b hb o e => ?_) f2 ⟨L', es', ep', t', R', g.next hp c1 c2⟩ fun s2 L2 es2 ep2 t2 mv2 h2 g2 f3 => ?_⟩
    · rw [sb.2 b fun z : b = S => nS (z ▸ hb)]
      exact e
    · refine k s2 L2 es2 ep2 t2 (Moved.trans W.gtrans ((mv.mono inc).then_heap (Nat.le_add_right _ _) fun b o hb e => ?_) mv2) h2 g2 f3
      rw [sb.2 b fun z : b = S => hb (z ▸ .head _)]
      exact e
abbrev newS (w : World) : Obj := { cls := .type "set", dict := none, data := .set #[] 0 (.fresh 0 0 (!w.params.followText "set-order")) }
set_option maxHeartbeats 3200000 in
/-- set(l) -/
theorem call_setQ {l : Addr} {items : Array Value} (ks : List (Addr × List Key)) {Q : Value → Shared → Prop} (hh : A.handled = none) (hl : s.heap.IsList l items) (hit : items.toList = ks.map fun p => Value.ref p.1) (hk : ∀ p ∈ ks, TupAt P w s.heap p.2 p.1) (few : ks.length ≤ 4000) (hu : A.units + 3 < cLine)
    (k : ∀ (h' : Heap) (tk : Nat) L es ep t, SetQ P w h' s.heap.objs.size L es ep t → Gq ks ks.length L → (∀ b o, s.heap.get? b = some o → h'.get? b = some o) → Q (.ref s.heap.objs.size) { s with heap := h', toks := tk }) :
    wpAny (model P w) A (call (.type "set") [.ref l]) Q E s := by
  have size : items.size = ks.length := by
    rw [← Array.length_toList, hit, List.length_map]
  obtain ⟨c, tl, hmro⟩ := F.called_set.mro
  have m1 := F.called_set.made
  have m2 := F.called_set.sub
  have m3 := F.called_set.notType
  have m4 := F.called_set.canCreate
  have m5 := F.typeCall_set_1 (.ref l)
  refine wpAny_call (codeAny_of_tree ?_)
  show wpAny _ _ (callAny (.type "set") ⟨[.ref l], []⟩) _ _ s
  refine wpAny_pure ⟨Code.quiet_builtin _ (by decide +kernel), codeAny_builtin F.entry_type_call ?_⟩
  rw [Around.under_plain (weight_type_call_type "set" [.ref l] []) rfl]
  repeat (any_goals (first | assumption | wp_step))
  refine codeAny_mono (code_set_led1 (.ref l) (E := E) (Q₁ := fun obj s₁ => obj = .ref s.heap.objs.size ∧ s₁ = { s with heap := s.heap.push (newS w) }) ⟨rfl, rfl⟩) fun r s₁ hr => ?_
  rcases r with e | fl
  · exact hr
  cases fl with
  | ret obj =>
    obtain ⟨rfl, rfl⟩ := hr
    have at_ : (s.heap.push (newS w)).get? s.heap.objs.size = some (newS w) := Heap.get?_push_size _ rfl
    have isS : Shared.TypeIs { s with heap := s.heap.push (newS w) } (.ref s.heap.objs.size) "set" := ⟨_, at_, rfl⟩
    have m6 := F.called_set.init.lookup
    have m7 := F.called_set.init.bind (.ref s.heap.objs.size)
    repeat (any_goals (first | assumption | wp_step))
    refine codeAny_mono (codeAny_call_builtin (R := wants (fun r s₂ => r = .none ∧ ∃ h' tk L es ep t, s₂ = { s with heap := h', toks := tk } ∧ SetQ P w h' s.heap.objs.size L es ep t ∧ Gq ks ks.length L ∧ ∀ b o, s.heap.get? b = some o → h'.get? b = some o) E)
      F.called_set.init.plain F.entry_set_init (check_set_init_1 isS ?_)) fun r₂ s₂ hr₂ => ?_
    · obtain ⟨ol, hol, hcl, nl, hdl⟩ := hl
      obtain ⟨ocls, odict, odata, oslots⟩ := ol
      simp only at hcl hdl
      subst hcl hdl
      have hol' := Heap.get?_push_of_some (newS w) hol
      have n1 := F.sub_list_set
      have n2 := F.sub_list_frozenset
      have n3 : (Value.type "list" == Value.type "dict") = false := by decide
      have isL : (s.heap.push (newS w)).IsList l items := ⟨_, hol', rfl, nl, rfl⟩
      unfold Builtin.«set.__init__» noKeywords Builtin.Frozenset.updateFrom
      generalize hPI : pyIter = PI
      wp_walk
      subst hPI
      refine wpAny_pyIter_list isL (wpAny_bind (wpAny_runValue ?_))
      have lS : l < s.heap.objs.size := Heap.lt_size hol
      have sz1 : (s.heap.push (newS w)).objs.size = s.heap.objs.size + 1 := Heap.size_push ..
      have nI : l ≠ (s.heap.push (newS w)).objs.size := by
        rw [sz1]
        exact Nat.ne_of_lt (Nat.lt_succ_of_lt lS)
      have far : ∀ b, s.heap.objs.size ≤ b → s.heap.get? b = none := fun b hb => by
        cases q : s.heap.get? b with
        | none => rfl
        | some o => exact absurd (Nat.lt_of_lt_of_le (Heap.lt_size q) hb) (Nat.lt_irrefl _)
      have new2 : ((s.heap.push (newS w)).push { cls := .type "list_iterator", data := .fields #[.ref l, .int 0 0] }).get? s.heap.objs.size = some (newS w) := Heap.get?_push_of_some _ at_
      refine loopQ (A := A.in1.in1) (S := s.heap.objs.size) (h0 := s.heap) (ks := ks) ((Walks.list (by simp [hh]) _ l nI items).toS) ?_ size few (fun i v hv => ?_) hk (far _ (Nat.le_refl _)) (fun b hb => far b ?_) hu (items.size - 0) 0 _ (by omega)
        ⟨⟨_, Heap.get?_push_size _ rfl, rfl, rfl⟩, isL.push _⟩ (fun b o e => Heap.get?_push_of_some _ (Heap.get?_push_of_some _ e)) ⟨[], #[], 0, _, setQ_new new2, ⟨fun p hp => (nomatch hp), fun p hp => by simp at hp, Nat.le_refl _⟩⟩ fun s' L es ep t mv R g f => ?_
      · rw [sz1]
        simp only [List.mem_cons, List.not_mem_nil, or_false, not_or]
        exact ⟨Nat.ne_of_lt (Nat.lt_succ_self _), Nat.ne_of_gt lS⟩
      · have q : items.toList[i]? = some v := by rw [Array.getElem?_toList]; exact hv
        rw [hit, List.getElem?_map] at q
        obtain ⟨p, hp, e⟩ := Option.map_eq_some_iff.mp q
        exact ⟨p, hp, e.symm⟩
      · rw [List.mem_singleton.mp hb, sz1]
        exact Nat.le_succ _
      · obtain ⟨h', g2, d', tk', os'⟩ := s'
        obtain rfl : g2 = s.gens := mv.gens
        obtain rfl : d' = s.drawn := mv.drawn
        obtain rfl : os' = s.os := mv.os
        rw [size] at g
        refine wpAny_pure ?_
        exact wpAny_pure ⟨rfl, h', tk', L, es, ep, t, rfl, R, g, f⟩
    · rcases r₂ with e | fl₂
      · exact hr₂
      cases fl₂ with
      | ret r =>
        obtain ⟨rfl, h', tk, L, es, ep, t, rfl, R, g, f⟩ := hr₂
        repeat (any_goals (first | assumption | wp_step))
        exact k _ _ _ _ _ _ R g f
      | _ => exact hr₂.elim
  | _ => exact hr.elim
end
end TM
namespace TH
open PySem PySem.Spec PyProof.Rows L2 TR TM
section
variable {X : Cx} {n : Nat}
theorem key_refs : ∀ {ks : List (Addr × List Key)} {us : List Value}, Vals (ks.map fun p => V.ref p.1) us → us = ks.map fun p => Value.ref p.1
  | [], _, .nil => rfl
  | _ :: _, _, .cons r t => by
    cases r
    rw [key_refs t]
    rfl
/-- set(l): each key once -/
def rSetL (K : PySem.W.Frag) (P : Program) (w : World) : List V → Hp → VK → Prop := fun xs H Q => ∃ (l : Addr) (ks : List (Addr × List Key)), xs = [V.ref l] ∧ SqL K H l (ks.map fun p => V.ref p.1) ∧ KeysAt K H ks ∧ ks.length ≤ 4000 ∧
  ∀ a L, H a = none → (L.map (·.2)).Nodup → (∀ k, k ∈ L.map (·.2) ↔ k ∈ ks.map (·.2)) → Q (.ref a) (upd H a (SetO P w a L))
theorem cr_setL (hu : X.A.units + 64 < cLine) (hc : X.calm = true) : CallR X (.type "set") (rSetL X.K X.prog X.w) := by
  intro pins s σ H xs us Q I r h
  obtain ⟨l, ks, rfl, hl, hk, few, q⟩ := h
  rw [Vals.ref1 r]
  obtain ⟨its, rv, pl, hz⟩ := I.list hl
  have new : H s.heap.objs.size = none := I.hok.fresh (Nat.le_refl _)
  refine call_setQ (P := X.prog) (w := X.w) ks (I.ok.hd hc) pl.isList (by simpa using key_refs rv) (fun p hp => tup_at I (hk p hp)) few (by omega) fun h' tk L es ep t R g f => ?_
  refine ⟨.ref s.heap.objs.size, upd H s.heap.objs.size (SetO X.prog X.w s.heap.objs.size L), I.laid (t' := tk) f (Nat.le_refl _) (setO_ok R), rfl, q _ L new R.nd fun k => ⟨fun z => ?_, fun z => ?_⟩⟩
  · obtain ⟨p, hp, rfl⟩ := List.mem_map.mp z
    exact List.mem_map.mpr ⟨p, List.mem_of_mem_take (g.sub p hp), rfl⟩
  · obtain ⟨p, hp, rfl⟩ := List.mem_map.mp z
    exact g.all p (by rw [List.take_length]; exact hp)
/-- len(set) -/
def rLenQ (P : Program) (w : World) : List V → Hp → VK → Prop := fun xs H Q => ∃ (a : Addr) (L : List (Addr × List Key)), xs = [V.ref a] ∧ H a = some (SetO P w a L) ∧ Q (.int (L.length : Nat)) H
theorem cr_lenQ : CallR X (.builtin "len") (rLenQ X.prog X.w) := by
  intro pins s σ H xs us Q I r h
  obtain ⟨a, L, rfl, ha, q⟩ := h
  rw [Vals.ref1 r]
  obtain ⟨es, ep, t, R⟩ := (I.hok a _ ha).1
  obtain ⟨o, e1, e2, e3⟩ := id R.obj
  have sz := R.sz (s := s)
  have l1 := R.room
  have l2 := R.mq.le.1
  refine call_len_set e1 e2 e3 (R.fit (s := s)) (by rw [sz]; omega) ⟨.int (L.length : Nat), H, I.tok _, ⟨_, by rw [sz]⟩, q⟩
end
end TH
end
section
set_option Elab.async false
set_option maxRecDepth 100000
set_option linter.all false
namespace TI
open PySem PySem.Spec PyProof.Rows L2 TM TK TB TP TH TU TW TR
section
variable {prog : Program} {w : World} {A : Around} {E : Value → Shared → Prop} {s : Shared}
theorem walks_from (hh : A.handled = none) (I ax : Addr) (hne : ax ≠ I) (items : Array Value) (d : Nat) (hd : d ≤ items.size) :
    Walks prog w A I [I, ax] [I] (items.size - d) (fun i v => items[d + i]? = some v) (fun i h => h.IsTupleIter I ax (d + i) ∧ h.IsTuple ax items) where
  sub := fun b hb => by simp at hb; simp [hb]
  frame := fun _ _ _ st hk => ⟨st.1.at fun o e => hk I (by simp) o e, st.2.at fun o e => hk ax (by simp) o e⟩
  item := fun i s Q E hi st hQ => by
    have hlt : d + i < items.size := by omega
    refine wpAny_pyNext_tuple_item st.1 st.2 (x := items[d + i]) (by simp [hlt]) fun h' hit' hs' => ?_
    exact hQ _ h' s.toks (by simp [hlt]) ⟨hit', st.2.extBut hs'.extBut hne⟩ fun b o hb e => hs'.extBut b o (fun h => hb (by simp [h])) e
  done := fun s Q E st hQ => wpAny_pyNext_tuple_end hh st.1 st.2 (by simp; omega) fun h' he' => hQ h' s.toks fun b o hb e => he' b o (fun h => hb (by simp [h])) e
  self := fun _ _ _ _ st hQ => wpAny_pyIter_tupleiter st.1 hQ
theorem unpackItems_star {t : Addr} {x : Value} {r : List Value} {Q : List Value → Shared → Prop} (hh : A.handled = none) (ht : IsTup s.heap t (x :: r).toArray) (hz : r.length ≤ sizeLine)
    (hQ : ∀ (h' : Heap) (tk : Nat), (∀ b o, s.heap.get? b = some o → h'.get? b = some o) → Q [x, .ref h'.objs.size] { s with heap := h'.push { cls := .type "list", data := .seq r.toArray }, toks := tk }) : wpAny (model prog w) A (unpackItems (.ref t) 2 (some 1)) Q E s := by
  have hlt : t ≠ s.heap.objs.size := by obtain ⟨o, ho, _⟩ := ht; exact Nat.ne_of_lt (Heap.lt_size ho)
  unfold unpackItems
  refine wpAny_bind ?_
  unfold notIterableAtAll
  refine wpAny_bind (wpAny_specialOf ht.typeIs slot_tuple_iter.lookup ?_)
  refine wpAny_pure ?_
  simp only [Bool.false_eq_true, if_false]
  refine wpAny_bind (wpAny_holding (iter_tuple ht ?_))
  have k0 : ∀ b o, s.heap.get? b = some o → (s.heap.push { cls := .type "tuple_iterator", data := .fields #[.ref t, .int 0 0] }).get? b = some o := fun b o e => Heap.get?_push_of_some _ e
  refine wpAny_bind (wpAny_holding (draw_tuple hlt 1 0 _ _ ⟨_, Heap.get?_push_size _ rfl, rfl, rfl⟩ (ht.push _) (by simp) fun h₁ hit₁ hs₁ => ?_))
  have hall : List.take 1 (List.drop 0 (x :: r).toArray.toList) = [x] := by simp
  rw [hall, if_neg (by simp)]
  have ht₁ : IsTup h₁ t (x :: r).toArray := (ht.push _).extBut hs₁.extBut hlt
  have k1 : ∀ b o, s.heap.get? b = some o → h₁.get? b = some o := fun b o e => hs₁.extBut b o (Nat.ne_of_lt (Heap.lt_size e)) (k0 b o e)
  have sz : s.heap.objs.size < h₁.objs.size := by
    obtain ⟨o, ho, _⟩ := hit₁
    exact Heap.lt_size ho
  refine wpAny_bind (wpAny_holding (wpAny_collect_iter (T := "tuple_iterator") (.inr (.inr (.inr rfl))) (walks_from (A := A.in1) hh s.heap.objs.size t hlt (x :: r).toArray 1 (by simp)).toS (fun _ _ st => let ⟨o, ho, hc, _⟩ := st.1; ⟨o, ho, hc⟩) ⟨hit₁, ht₁⟩ (fun b hb => ?_) (by simp) (fun s' acc hm hacc => ?_) (by simp; exact hz)))
  · simp only [List.mem_cons, List.not_mem_nil, or_false] at hb
    rcases hb with rfl | rfl
    · exact sz
    · obtain ⟨o, ho, _⟩ := ht₁
      exact Heap.lt_size ho
  have ea : acc.toList = r := by
    refine List.ext_getElem? fun k => ?_
    have hs : acc.size = r.length := by
      have := hacc.1
      simpa using this
    rcases Nat.lt_or_ge k r.length with hk | hk
    · have hk2 : k < acc.size := by omega
      have := hacc.2 k acc[k] (by simp [hk2])
      rw [List.getElem?_eq_getElem (by rw [Array.length_toList]; exact hk2), Array.getElem_toList]
      rw [← this]
      simp [Nat.add_comm]
    · rw [List.getElem?_eq_none_iff.mpr (by rw [Array.length_toList]; omega), List.getElem?_eq_none_iff.mpr hk]
  obtain ⟨h', gens, drawn, tk', os⟩ := s'
  have g1 : gens = s.gens := hm.gens
  have g2 : drawn = s.drawn := hm.drawn
  have g3 : os = s.os := hm.os
  subst g1 g2 g3
  rw [ea]
  show wpAny (model prog w) A (if r.length < 0 then _ else _) Q E _
  rw [if_neg (Nat.not_lt_zero _)]
  show wpAny (model prog w) A (newList (r.take (r.length - 0)) >>= _) Q E _
  rw [Nat.sub_zero, List.take_length]
  refine wpAny_bind (wpAny_newObj_type (wpAny_pure ?_) (by first | exact hz | (simp; exact hz)))
  rw [List.drop_length, List.append_nil]
  exact hQ h' tk' fun b o e => hm.heap b o (fun z => Nat.ne_of_lt (Heap.lt_size e) (List.mem_singleton.mp z)) (k1 b o e)
end
section
variable {X : Cx}
/-- (a, *b) = a tuple with an item or more -/
def gStar (K : PySem.W.Frag) (t : TGs) : TG := fun v σ H Q => ∃ a x xs, v = .ref a ∧ SqT K H a (x :: xs) ∧ ∀ l, H l = none → t [x, .ref l] σ (upd H l (.lst xs)) Q
theorem pg_star {e1 e2 : Expr} {k : Nat} {t : TGs} {p pos : Pos} (hc : X.calm = true) (h : PGs X [e1, e2] t)
    (h1 : assignEach [e1, .Starred e2 p] X.env = [(false, assign e1 X.env), (true, assign e2 X.env)] := by rfl) (h2 : (assignEach [e1, e2] X.env).map (·.2) = [assign e1 X.env, assign e2 X.env] := by rfl) : PG X (.Tuple [e1, .Starred e2 p] k pos) (gStar X.K t) := by
  refine ⟨fun pins s σ H v u Q I r hw => ?_⟩
  obtain ⟨a, x, xs, rfl, hq, hw⟩ := hw
  cases r
  obtain ⟨its, rv, ht, hz⟩ := I.tuple hq
  cases rv with
  | cons r1 r2 =>
    rename_i u0 ur
    have hl := r2.length
    have hz2 : ur.length ≤ sizeLine := by
      rw [List.length_cons] at hz
      omega
    rw [assign_Tuple]
    refine wpAny_bind (wpAny_standAt ?_)
    unfold unpack
    rw [h1]
    refine wpAny_bind (wpAny_holding (unpackItems_star (I.ok.hd hc) ht hz2 fun h' tk kp => ?_))
    have I1 : Inv X pins σ H { s with heap := h', toks := tk } := I.kept (t' := tk) kp
    have hf : H h'.objs.size = none := I1.hok.fresh (Nat.le_refl _)
    have I2 : Inv X pins σ (upd H h'.objs.size (.lst xs)) { s with heap := h'.push { cls := .type "list", data := .seq ur.toArray }, toks := tk } := I1.laid (t' := tk) (fun b o e => Heap.get?_push_of_some _ e) (Nat.le_refl _) ⟨by rw [hl]; exact hz2, ur, 0, r2, Heap.get?_push_size _ rfl⟩
    have := h.run pins _ σ _ [x, .ref h'.objs.size] [u0, .ref h'.objs.size] Q I2 (.cons r1 (.cons rfl .nil)) (hw _ hf)
    rw [h2] at this
    exact this
end
section
variable {X : Cx} {CX : CXT} {n k : Nat}
/-- o.m(e, ..) where tokens are out -/
theorem pen_methR {C f : Addr} {m : Str} {sp : Sp} {E : XK} {o e : Expr} {es : List Expr} {ta : TE} {t : TA} {apos pos : Pos} {pl : Sem Bool} (he : PE X o ta) (c : Cls X.K C) (hm : Meth X.K C m f) (F : FnRn n X.prog X.w X.K X.mg X.base CX k f sp) (hr : Room k X.A) (hx : Passes CX X E) (ha : PA X (e :: es) t)
    (ht : eval (.Call (.Attribute o m apos) (e :: es) [] pos) X.env = (do let ov ← eval o X.env; standAt apos.atName; let (f, first) ← holding [ov] (getMethod ov m pl); callWith pos f first (backTo pos (starEach (e :: es) X.env)) (backToKw pos (keywordEach [] X.env))) := by rfl)
    (hst : starEach (e :: es) X.env = (false, eval e X.env) :: starEach es X.env := by rfl) (hpl : (backTo pos (starEach es X.env)).any (·.1) = false := by rfl) : PEn n X (.Call (.Attribute o m apos) (e :: es) [] pos) (tMethR C m sp E ta t) := by
  intro pins s σ H Q hn I h
  refine PySem.W.methodCall_KW (pl := pl) (thnN hn (he.run pins s σ H _ I h) fun u s1 hn1 ⟨x, H1, I1, rx, a, dx, fs, ex, ea, l, q⟩ => ?_) ht
  subst ex
  obtain rfl : u = Value.ref a := rx
  refine getmeth_ok I1 ea c hm l ?_
  refine PySem.W.callWith_K (first := [.ref a]) (h₀ := X.base) I.ok.mod.kin hm.kp (thnN hn1 (ha.run pos pins s1 σ H1 _ I1 q) fun us s2 hn2 ⟨vs, H2, I2, r, q2⟩ => ⟨I2.kIn, ?_⟩) hst hpl
  exact wpAny_call (run_fnRn (us := .ref a :: us) (vs := .ref a :: vs) hn2 F hr hx I2 (.cons rfl r) q2)
end
section
variable {X : Cx} {CX : CXT} {n k : Nat}
theorem psn_expr {e : Expr} {te : TE} {pos : Pos} (he : PEn n X e te) (hs : swapsWith e none pos.line X.env = pure false := by rfl) : PSn n X (.Expr e pos) (tDrop te) := fun pins s σ H D hn I h =>
  wpAny_Expr_any (thn (he pins s σ H _ hn I h) fun v s1 ⟨x, H1, I1, r1, q1⟩ => ⟨σ, H1, I1, q1⟩) I.quiet hs
/-- o.m(*e), e a list or a tuple, where tokens are out -/
def tMethSn (K : PySem.W.Frag) (C : Addr) (m : Str) (g : Addr) (sp : Sp) (E : XK) (ta te : TE) : TE := fun σ H Q => ta σ H fun x H1 => ∃ a dx fs, x = .ref a ∧ H1 a = some (.ins C dx fs) ∧ fs.lookup m = none ∧
  ∀ q, H1 q = none → te σ (upd H1 q (.met g a)) fun y H2 => ∃ b vs, y = .ref b ∧ (SqT K H2 b vs ∨ SqL K H2 b vs) ∧ H2 q = some (.met g a) ∧ sp (.ref a :: vs) H2 Q E
theorem pen_methS {C g : Addr} {m : Str} {sp : Sp} {E : XK} {o e : Expr} {ta te : TE} {p apos pos : Pos} (he : PE X o ta) (c : Cls X.K C) (b : BMeth X.K C m g) (F : FnRn n X.prog X.w X.K X.mg X.base CX k g sp) (hr : Room k X.A) (hx : Passes CX X E) (ha : PE X e te)
    (hbase : attributeBase o m X.env (eval o X.env) = eval o X.env := by rfl) : PEn n X (.Call (.Attribute o m apos) [.Starred e p] [] pos) (tMethSn X.K C m g sp E ta te) := by
  intro pins s σ H Q hn I h
  refine starcall_of hbase (thnN hn (he.run pins s σ H _ I h) fun u s1 hn1 ⟨x, H1, I1, rx, a, dx, fs, ex, ea, l, q⟩ => ?_)
  subst ex
  obtain rfl : u = Value.ref a := rx
  have got : wpAny (model X.prog X.w) X.A (getAttr (.ref a) m true) (fun f s2 => ∃ q1 : Addr, f = .ref q1 ∧ H1 q1 = none ∧ Inv X pins σ (upd H1 q1 (.met g a)) s2) (fun _ _ => False) s1 := getbound_ok I1 ea c b l fun q1 s2 hq1 I2 => ⟨q1, rfl, hq1, I2⟩
  refine thnFN hn1 got fun f s2 hn2 ⟨q1, ef, hq1, I2⟩ => ?_
  subst ef
  refine PySem.W.ks_call (P := PySem.W.MethP X.K q1 g (.ref a)) rfl (PySem.W.keeps_M b.fi) (PySem.W.ks_lone ?_)
  refine thnN hn2 (ha.run pins s2 σ _ _ I2 (q q1 hq1)) fun v s3 hn3 ⟨y, H2, I3, ry, t, vs, ey, ht, hm, hsp⟩ => ?_
  subst ey
  obtain rfl : v = Value.ref t := ry
  have st := StX.star_any (E := X.xe) (Q := fun us s4 => Inv X pins σ H2 s4 ∧ Vals vs us) I3 ht fun us s4 I4 rv => ⟨I4, rv⟩
  unfold PySem.W.StarOf at st ⊢
  refine thnN hn3 st fun b0 s4 hn4 ⟨hb0, z⟩ => ⟨hb0, thnN hn4 z fun us s5 hn5 ⟨I5, rv⟩ => ?_⟩
  exact ⟨met_P I5 hm, wpAny_call (PySem.W.method_call (met_P I5 hm).1 (run_fnRn (us := Value.ref a :: us) (vs := V.ref a :: vs) hn5 F hr hx I5 (.cons rfl rv) hsp))⟩
end
section
variable {X : Cx} {n : Nat}
end
section
variable {X : Cx} {CX : CXT} {k : Nat}
/-- C(a, *b), C the value of a local name -/
theorem pe_makeVS {C f : Addr} {sp : Sp} {E : XK} {x : Str} {e : Expr} {es : List Expr} {tf : TE} {t : TA} {p pos : Pos} (M : Mk X.K C f) (F : FnR X.prog X.w X.K X.mg X.base CX k f sp) (hr : Room (k + 1) X.A) (hf : PE X (.Name x p) tf) (hx : Passes CX X E) (ha : PA X (e :: es) t)
    (he : starEach (e :: es) X.env = (false, eval e X.env) :: starEach es X.env := by rfl) (hst : (backTo pos (starEach es X.env)).any (·.1) = true := by rfl) : PE X (.Call (.Name x p) (e :: es) [] pos) (fun σ H Q => tf σ H fun c H1 => c = .ref C ∧ StX.tMakeR C sp E t σ H1 Q) := by
  refine ⟨fun pins s σ H Q I h => ?_⟩
  refine wpAny_Call_Name_kw (thn (hf.run pins s σ H _ I h) fun u s0 ⟨c, H0, I0, rc, ec, h⟩ => ?_)
  subst ec
  obtain rfl : u = Value.ref C := rc
  exact PySem.W.callWith_S2 (h₀ := X.base) I0.ok.mod.kin M.kp (thn (ha.run pos pins s0 σ H0 _ I0 h) fun us s1 ⟨vs, H1, I1, r, q⟩ => ⟨I1.kIn, StX.run_makeR M F hr hx I1 r q⟩) he hst
end
end TI
namespace TH
open PySem PySem.Spec PyProof.Rows L2 TR
section
variable {X : Cx} {n : Nat} {pins : List (Addr × Obj)} {σ : L2.St}
theorem psn_setLcF {i : Nat} {y : Str} {py : Pos} {elt tg iter : Expr} {ifs : List Expr} {scope : Scope} {own : List (Str × Nat)} {pos spos : Pos} {wi : TI} {g : TG} {tt : TT} {te : TE} (hc : X.calm = true) (hN : X.N.Nodup) (hy : X.N[i]? = some y) (hyl : X.env.scope.names.lookup y = some .local)
    (hsw : swapsWith (.ListComp elt [⟨tg, iter, ifs, 0⟩] scope pos) (some (.Name y py)) spos.line X.env = pure true) (hi : PIn n X tg iter wi) (ok : BlkOk X.N X.env.scope scope own)
    (hg : ∀ (s : Shared) (H : Hp) (C : Addr) (cl : List (Str × Addr)) (fp : List Addr), PG (X.blk s H scope (compEnvC scope cl C X.env) fp) tg g)
    (ht : ∀ (s : Shared) (H : Hp) (C : Addr) (cl : List (Str × Addr)) (fp : List Addr), PTsn n (X.blk s H scope (compEnvC scope cl C X.env) fp) ifs tt)
    (he : ∀ (s : Shared) (H : Hp) (C : Addr) (cl : List (Str × Addr)) (fp : List Addr), PEn n (X.blk s H scope (compEnvC scope cl C X.env) fp) elt te) (hs : ∀ x, foldedSetIterable iter X.env x = pure x := by intro _; rfl) :
    PSn n X (.Assign [.Name y py] (.ListComp elt [⟨tg, iter, ifs, 0⟩] scope pos) spos) (tAsg (tLc wi g tt te (own.map (·.2))) (gName i)) := by
  intro pins s σ H D hn I h
  rw [exec_Assign_Name_used _ _ _ _ hsw]
  refine wpAny_bind (wpAny_standAt (wpAny_bind ?_))
  show wpAny _ X.A (do let _ ← comprehension (.ListComp elt [⟨tg, iter, ifs, 0⟩] scope pos) scope X.env (firstIterPos [⟨tg, iter, ifs, 0⟩] pos) (newList []) false (eval iter X.env) (some (assign (.Name y py) X.env))) _ _ s
  have h' : tLc wi g tt te (own.map (·.2)) σ H (fun x H1 => gName i x σ H1 D.nx) := h
  refine wpAny_bind (thn (lcf_core (Qf := fun _ s' => SP X pins D .next s') hc hN hn I hi ok hg ht he hs h' fun L C s' m H' I' q hns f => ?_) fun _ s' hq => wpAny_pure (wpAny_pure hq))
  show wpAny _ _ (assign (.Name y py) X.env (.ref L)) _ _ _
  refine wpAny_assign_Name (store_ok2 (v := V.ref L) I' hN hy (.inl hyl) rfl (fun s2 I2 ⟨a, sb, ha⟩ => ?_) (.inr hyl))
  obtain ⟨a0, a1, _, a3, a4, a5⟩ := f
  have haC : C ≠ a := ha.elim (fun z => by rw [z]; exact a1) fun z e => a4 y a z e.symm
  exact ⟨m, hns.sameBut sb haC, fun h3 sb3 => ⟨_, H', I2.turned (t' := s2.toks) (fun b o hb e => (sb3.2 b hb).trans e) a0 a1 a3 a4 a5, q⟩⟩
end
end TH
end
namespace TR
end TR
namespace TR
end TR
section
set_option Elab.async false
set_option maxRecDepth 100000
set_option linter.all false
namespace TR
open PySem PySem.Spec PyProof.Rows L2 TM TK TB TP TH TU TW
def PdAt (H : Hp) (D : Addr) (w : Nat) (pos : Nat → Nat) (M : List Nat) (ps qa : Nat → Addr) : Prop := H D = some (.lst (M.map fun m => V.ref (ps m))) ∧ ∀ m ∈ M, H (ps m) = some (.tup [sg m, .ref (qa m)]) ∧ H (qa m) = some (.tup (plV w (pos m)))
theorem PdAt.same {H H' : Hp} {D : Addr} {w : Nat} {pos : Nat → Nat} {M : List Nat} {ps qa : Nat → Addr} (h : PdAt H D w pos M ps qa) (s : Same H H') : PdAt H' D w pos M ps qa := ⟨s _ _ h.1, fun m hm => ⟨s _ _ (h.2 m hm).1, s _ _ (h.2 m hm).2⟩⟩
theorem pd_step {H1 H7 : Hp} {D T q2 : Addr} {w i c : Nat} {M : List Nat} {pos : Nat → Nat} {ps qa : Nat → Addr} (ndM : M.Nodup) (hc : M[i]? = some c) (hD : H1 D = none) (P : PdAt H7 D w pos (M.take i) ps qa) (s : Same H1 H7) (hT : H7 T = some (.tup [sg c, .ref q2])) (hq : H7 q2 = some (.tup (plV w (pos c)))) :
    ∃ ps' qa', Same H1 (upd H7 D (.lst ((M.take i).map (fun m => V.ref (ps m)) ++ [V.ref T]))) ∧ PdAt (upd H7 D (.lst ((M.take i).map (fun m => V.ref (ps m)) ++ [V.ref T]))) D w pos (M.take (i + 1)) ps' qa' := by
  have take1 : M.take (i + 1) = M.take i ++ [c] := by rw [List.take_add_one, hc]; rfl
  have cnew : c ∉ M.take i := fun hm => by
    obtain ⟨j, hj⟩ := List.mem_iff_getElem?.mp hm
    rw [List.getElem?_take] at hj
    split at hj
    · rename_i hji
      have nd := List.pairwise_iff_getElem.mp ndM
      obtain ⟨l1, z1⟩ := List.getElem?_eq_some_iff.mp hj
      obtain ⟨l2, z2⟩ := List.getElem?_eq_some_iff.mp hc
      exact nd j i l1 l2 hji (z1.trans z2.symm)
    · cases hj
  obtain ⟨pn, hp1, hp2⟩ : ∃ pn : Nat → Addr, pn c = T ∧ ∀ m, m ≠ c → pn m = ps m := ⟨fun m => if m = c then T else ps m, if_pos rfl, fun m hm => if_neg hm⟩
  obtain ⟨qn, hq1, hq2⟩ : ∃ qn : Nat → Addr, qn c = q2 ∧ ∀ m, m ≠ c → qn m = qa m := ⟨fun m => if m = c then q2 else qa m, if_pos rfl, fun m hm => if_neg hm⟩
  have hqD : ∀ {b : Addr} {xs : List V}, H7 b = some (.tup xs) → b ≠ D := fun e z => by
    rw [z, P.1] at e
    cases e
  refine ⟨pn, qn, same_put s hD, ?_, fun m hm => ?_⟩
  · rw [upd_same, take1, List.map_append]
    congr 3
    · refine List.map_congr_left fun m hm => ?_
      rw [hp2 m (fun z => cnew (by rw [← z]; exact hm))]
    · simp [hp1]
  · rw [take1] at hm
    rcases List.mem_append.mp hm with hm | hm
    · have ne : m ≠ c := fun z => cnew (by rw [← z]; exact hm)
      obtain ⟨g1, g2⟩ := P.2 m hm
      rw [hp2 m ne, hq2 m ne, upd_ne (hqD g1), upd_ne (hqD g2)]
      exact ⟨g1, g2⟩
    · rw [List.mem_singleton.mp hm, hp1, hq1, upd_ne (hqD hT), upd_ne (hqD hq)]
      exact ⟨hT, hq⟩
theorem merge_new : ∀ (kvs acc : List (Key × V)), ((acc ++ kvs).map (·.1)).Nodup → mergeK acc kvs = acc ++ kvs
  | [], acc, _ => by simp [mergeK]
  | p :: r, acc, nd => by
    have h1 : valV acc p.1 = none := by
      refine Classical.byContradiction fun z => ?_
      cases e : valV acc p.1 with
      | none => exact z e
      | some v =>
        have : ∃ q ∈ acc, q.1 = p.1 := by
          refine Classical.byContradiction fun hn => ?_
          have : valV acc p.1 = none := by
            have := valV_no (S := List.range acc.length) (f := fun i => (acc.getD i (Sum.inl 0, .non)).1) (v := fun i => (acc.getD i (Sum.inl 0, .non)).2) (k := p.1) fun m hm e => hn ⟨_, by
              have hl := List.mem_range.mp hm
              rw [List.getD_eq_getElem?_getD, List.getElem?_eq_getElem hl]
              exact List.getElem_mem hl, e⟩
            have e2 : ((List.range acc.length).map fun i => ((acc.getD i (Sum.inl 0, V.non)).1, (acc.getD i (Sum.inl 0, V.non)).2)) = acc := by
              apply List.ext_getElem (by simp)
              intro i a b
              simp only [List.length_map, List.length_range] at a
              simp [List.getD_eq_getElem?_getD, List.getElem?_eq_getElem b]
            rw [e2] at this
            exact this
          rw [this] at e
          cases e
        obtain ⟨q, hq, eq⟩ := this
        rw [List.map_append, List.nodup_append] at nd
        exact (nd.2.2 q.1 (List.mem_map.mpr ⟨q, hq, rfl⟩) p.1 (List.mem_map.mpr ⟨p, List.mem_cons_self, rfl⟩) eq)
    show mergeK (putK acc p.1 p.2) r = _
    rw [putK_new _ h1, merge_new r _ (by rw [List.append_assoc]; exact nd), List.append_assoc]
    rfl
def mkv (M : List Nat) (qa : Nat → Addr) : List (Key × V) := M.map fun m => (Sum.inr (S [m]), V.ref (qa m))
def MdAt (H : Hp) (e : Addr) (w : Nat) (pos : Nat → Nat) (M : List Nat) (qa : Nat → Addr) : Prop := H e = some (.dK (mkv M qa)) ∧ ∀ m ∈ M, H (qa m) = some (.tup (plV w (pos m)))
theorem MdAt.same {H H' : Hp} {e : Addr} {w : Nat} {pos : Nat → Nat} {M : List Nat} {qa : Nat → Addr} (h : MdAt H e w pos M qa) (s : Same H H') : MdAt H' e w pos M qa := ⟨s _ _ h.1, fun m hm => s _ _ (h.2 m hm)⟩
theorem key_inj {a b : Nat} (e : (Sum.inr (S [a]) : Key) = Sum.inr (S [b])) : a = b := by
  injection e with e
  injection e with e
  injection e with e
  injection e
theorem pd_dict {K : PySem.W.Frag} {H : Hp} {D : Addr} {w : Nat} {pos : Nat → Nat} {M : List Nat} {ps qa : Nat → Addr} {Q : VK} (P : PdAt H D w pos M ps qa) (nd : M.Nodup) (k : ∀ H' e qa, Same H H' → H e = none → MdAt H' e w pos M qa → Q (.ref e) H') :
    ∃ (a : Addr) (as : List Addr) (kvs : List (Key × V)), [V.ref D] = [.ref a] ∧ SqL K H a (as.map V.ref) ∧ Paired (fun p kv => SqT K H p [kV kv.1, kv.2]) as kvs ∧ ∀ p, H p = none → Q (.ref p) (upd H p (.dK (mergeK [] kvs))) := by
  refine ⟨D, M.map ps, mkv M qa, rfl, ?_, ?_, fun p hp => ?_⟩
  · rw [List.map_map]
    exact SqL.of P.1
  · have : ∀ L : List Nat, (∀ m ∈ L, m ∈ M) → Paired (fun p (kv : Key × V) => SqT K H p [kV kv.1, kv.2]) (L.map ps) (mkv L qa) := fun L => by
      induction L with
      | nil => intro _; exact .nil
      | cons m L ih => exact fun hL => .cons (SqT.of (P.2 m (hL m List.mem_cons_self)).1) (ih fun x hx => hL x (List.mem_cons_of_mem _ hx))
    exact this M fun _ h => h
  · rw [merge_new _ [] ?_]
    · refine k _ p qa (same_new hp) hp ⟨upd_same, fun m hm => ?_⟩
      have := (P.2 m hm).2
      rw [upd_ne (ne_of_none this hp)]
      exact this
    · rw [List.nil_append]
      unfold mkv
      rw [List.map_map]
      exact List.pairwise_map.mpr (nd.imp fun {a b} hab e => hab (key_inj e))
theorem pl_well (w k : Nat) : dWell (plD w k) := ⟨rfl, by show 1 ≤ 60; decide, by rw [pl_eqv]; exact decide_eq_true rfl⟩
end TR
end
namespace TR
end TR
namespace TR
end TR
section
set_option Elab.async false
set_option maxRecDepth 100000
set_option linter.all false
namespace TK
open PySem L2 TM
open PySem.Spec PyProof.Rows TH
/-- the script as the law finds it: locked, unless it is an object of the top -/
def scr (K : PySem.W.Frag) (a : Addr) (vs : List Value) (ns : List Int) : Hp := fun b => if b = a ∧ K.lookup a = none then some (.frz { cls := .type "list", data := .seq vs.toArray } (.lst (ns.map V.int))) else none
theorem scr_at {K : PySem.W.Frag} {a b : Addr} {vs : List Value} {ns : List Int} {u : HO} (h : scr K a vs ns b = some u) : b = a ∧ K.lookup a = none ∧ u = .frz { cls := .type "list", data := .seq vs.toArray } (.lst (ns.map V.int)) := by
  unfold scr at h
  split at h
  · rename_i c
    exact ⟨c.1, c.2, (Option.some.inj h).symm⟩
  · cases h
theorem law_n {P : Program} {w : World} {K : PySem.W.Frag} {mg mb : Str → Option Value} {n k : Nat} {fa a : Addr} {sp : Sp} {s₁ : Shared} {vs : List Value} {ns : List Int}
    (KX : K.In s₁.heap) (hns : s₁.heap.Ns mainGlobals mg) (hb : s₁.heap.Ns builtinsNs mb) (hbb : ∀ x : Str, x ≠ "__name__" → mb x = bootBuiltins x) (hlim : s₁.heap.NoLimit) (hg : s₁.gens = #[]) (hn : n ≤ s₁.toks)
    (ha : s₁.heap.get? a = some { cls := .type "list", data := .seq vs.toArray }) (hi : Vals (ns.map V.int) vs) (hl : ns.length ≤ sizeLine) (hr : Room k callerA)
    (F : ∀ base : Heap, K.In base → base.Ns mainGlobals mg → FnRn n P w K mg base CX0 k fa sp)
    (hsp : ∀ H : Hp, SqL K H a (ns.map V.int) → sp [.ref a] H (fun v _ => v = .bl true) fun _ _ _ => False) :
    codeAny (model P w) callerA (.call (.ref fa) ⟨[.ref a], []⟩) (fun r s' => r = .ok (.ret (.bool true)) ∧ OldK s₁.heap s'.heap ∧ s'.os = s₁.os ∧ AllBare s'.gens) s₁ := by
  have hvl : vs.length = ns.length := by rw [← hi.length, List.length_map]
  have seen : SqL K (scr K a vs ns) a (ns.map V.int) := by
    cases hk : K.lookup a with
    | none => exact .inl (.inr ⟨_, if_pos ⟨rfl, hk⟩⟩)
    | some o =>
      have e := KX a o hk
      rw [ha] at e
      cases e
      exact .inr ⟨_, vs.toArray, _, hk, rfl, rfl, rfl, by rw [List.size_toArray, hvl]; exact hl, by simpa using hi⟩
  have fine : HOk P w (scr K a vs ns) s₁.heap := fun b u h => by
    obtain ⟨rfl, _, rfl⟩ := scr_at h
    exact ⟨ha, by rw [List.length_map]; exact hl, vs, _, hi, ha⟩
  generalize hH : scr K a vs ns = H at seen fine
  have only : ∀ {b : Addr} {u : HO}, H b = some u → b = a ∧ K.lookup a = none ∧ ∃ o xs, u = .frz o (.lst xs) := fun {b u} h => by
    rw [← hH] at h
    obtain ⟨z1, z2, z3⟩ := scr_at h
    exact ⟨z1, z2, _, _, z3⟩
  have dict : ∀ {b : Addr} {m : Str → Option Value}, s₁.heap.Ns b m → (hidT s₁.heap H).Ns b m := fun {b m} ⟨o, es, ep, e, d, q⟩ => by
    refine ⟨o, es, ep, hidT_get e ?_, d, q⟩
    cases hz : H b with
    | none => rfl
    | some u =>
      obtain ⟨rfl, _⟩ := only hz
      rw [ha] at e
      cases e
      cases d
  have inB : K.In (hidT s₁.heap H) := fun b o e => hidT_get (KX b o e) (by
    cases hz : H b with
    | none => rfl
    | some u =>
      obtain ⟨rfl, z, _⟩ := only hz
      rw [z] at e
      cases e)
  obtain ⟨mc, l1, l2⟩ := hlim
  have start : Env0 P w K mg (hidT s₁.heap H) callerA [] s₁ H := ⟨rfl, ⟨inB, dict hns, ⟨mb, dict hb, hbb⟩, mc, dict l1, l2⟩, fun b o e => of_hidT e, Nat.le_of_eq (hidT_size _ _), trivial, fun b z => absurd (show b ∈ ([] : List Addr) from z) (by simp), fine, .of_eq hg⟩
  refine codeAny_mono (F _ inB (dict hns) callerA [] s₁ H [.ref a] [.ref a] _ _ hn hr start (.cons rfl .nil) (hsp H seen)) fun r s' h => ?_
  cases r with
  | error e => exact False.elim h
  | ok fl =>
    cases fl with
    | next => exact False.elim h
    | brk => exact False.elim h
    | cont => exact False.elim h
    | ret u =>
      obtain ⟨v, H', os, bare, un, fine', rv, q⟩ := h
      obtain rfl : v = .bl true := q
      obtain rfl : u = Value.bool true := rv
      refine ⟨rfl, OldK.of_keep fun b o e => ?_, os, bare⟩
      cases hz : H b with
      | none => exact un.keep b o e hz (fun z => absurd (show b ∈ ([] : List Addr) from z) (by simp)) (by simp)
      | some u =>
        obtain ⟨_, _, ob, xs, rfl⟩ := only hz
        have e1 := (fine b _ hz).1
        have e2 := (fine' b _ (un.frzs b ob _ hz)).1
        rw [e] at e1
        cases e1
        exact e2
end TK
end
section
set_option Elab.async false
set_option maxRecDepth 100000
set_option linter.all false
namespace TK
open PySem PySem.W PySem.W.X PySem.Spec PyProof.Rows L2 TH
theorem ofPys_ints : ∀ ns : List Int, ofPys (ns.map PyData.int) = ns.map WData.int
  | [] => by simp [ofPys]
  | n :: ns => by
    rw [List.map_cons, List.map_cons, ofPys, ofPys_ints ns]
    rfl
theorem end_nk {l : OpenLaw} {w : World} {s₀ s₁ : Shared} {args : List WData} {vals : List Value} {as : List Addr} {fa : Addr} {K : PySem.W.Frag} {mg mb : Str → Option Value} {cl : Str → Option Addr} {mean : ExcName → Option Value} {tk n k : Nat} {sp : Sp}
    (hr : Room k callerA) (hsp : ∀ (a : Addr) (ns : List Int) (H : Hp), SqL K H a (ns.map V.int) → sp [.ref a] H (fun v _ => v = .bl true) fun _ _ _ => False)
    (hm : l.most = some 63) (KX : K.In s₁.heap) (hns : s₁.heap.Ns mainGlobals mg) (hb : s₁.heap.Ns builtinsNs mb) (hbb : ∀ x : Str, x ≠ "__name__" → mb x = bootBuiltins x) (hlim : s₁.heap.NoLimit) (hg : s₁.gens = #[])
    (L : Laid l.row.toRowW.records w s₀ s₁ args vals as) (ZT : s₀.toks = tk) (hn : n ≤ tk) (hpre : l.row.toRowW.claim.pre args = true) (hwl : WellAll w.params s₁.heap vals args)
    (F : ∀ base : Heap, K.In base → base.Ns mainGlobals mg → FnRn n l.row.toRowW.prog w K mg base CX0 k fa sp) :
    wpAny (model l.row.toRowW.prog w) callerA (PySem.call (.ref fa) vals) (fun v s' => GoodWG l.row.toRowW.claim cl mean args s₁ (.ok (.ret v)) s') (fun e s' => GoodWG l.row.toRowW.claim cl mean args s₁ (.error e) s') s₁ := by
  obtain ⟨a, vs, ns, rfl, rfl, hobj, hints, hlen⟩ := Att.script_of hm hpre hwl
  have L' : Laid l.row.toRowW.records w s₀ s₁ [ofPy (PyData.list (ns.map PyData.int))] [.ref a] as := by
    rw [show ofPy (PyData.list (ns.map PyData.int)) = WData.list (ns.map WData.int) by rw [ofPy, ofPys_ints]]
    exact L
  have htk := script_toks L' ZT
  refine enter_call (codeAny_mono (law_n (k := k) KX hns hb hbb hlim hg (Nat.le_trans hn htk) hobj (vals_ints hints) (Nat.le_trans hlen (by decide)) hr F fun H hS => hsp a ns H hS) fun r s' hq => ?_)
  obtain ⟨rfl, h2, h3, h4⟩ := hq
  exact ⟨.inl ⟨.bool true, .bool true, [], rfl, fun _ => rfl, .bool true, Att.post_true l _, fun _ => ⟨List.Pairwise.nil, fun _ hm => (nomatch hm)⟩⟩, h2, h3, h4⟩
end TK
end
namespace TK
end TK
namespace TR
end TR
section
set_option Elab.async false
set_option maxRecDepth 100000
set_option linter.all false
namespace TR
open PySem PySem.Spec PyProof.Rows L2 TM TX TK TB TP TH TU TW
section
variable {X : Cx}
theorem paired_at {α β : Type} {F : α → β → Prop} : ∀ {l : List α} {m : List β}, Paired F l m → ∀ (j : Nat) (b : β), m[j]? = some b → ∃ a, l[j]? = some a ∧ F a b
  | _, _, .nil, j, b, e => by simp at e
  | _, _, .cons h t, 0, b, e => ⟨_, rfl, by
      have e' := Option.some.inj (show some _ = some b from e)
      rw [← e']
      exact h⟩
  | _, _, .cons h t, j + 1, b, e => by
    obtain ⟨a, e1, e2⟩ := paired_at t j b (by simpa using e)
    exact ⟨a, by simpa using e1, e2⟩
end
end TR
end
namespace TR
end TR
section
set_option Elab.async false
set_option maxRecDepth 100000
set_option linter.all false
namespace TR
open PySem PySem.Spec PyProof.Rows L2 TM TX TK TB TP TH TU TW TI
section
variable {X : Cx} {K : PySem.W.Frag}
theorem pe_fldK {e : Expr} {f : Str} {ta : TE} {pos : Pos} (he : PE X e ta) (hb : attributeBase e f X.env (eval e X.env) = eval e X.env) (hK : X.K = K := by rfl) : PE X (.Attribute e f pos) (tFld K ta f) := by
  subst hK
  exact pe_fld he hb
theorem ix_tupK (hK : X.K = K) : IxR X (rIxT K) := by
  subst hK
  exact ix_tup
end
structure ClsO (K : PySem.W.Frag) (mg : Str → Option Value) (O : Addr) : Prop where
  cl : Cls K O
  n1 : NoAttr K O "_tray"
  n2 : NoAttr K O "_words"
  n3 : NoAttr K O "_candidates"
  n4 : NoAttr K O "_observations"
  mgO : mg "WordObserver" = some (.ref O)
/-- an observation -/
inductive Ob where
  | mb (N m k : Nat)
  | rw (N i : Nat) (c : List Nat)
def ObAt (H : Hp) (w : Nat) (a : Addr) : Ob → Prop
  | .mb N m k => ∃ q, H a = some (.tup [.str (Str.ofString "see_marble"), .int (N : Nat), sg m, .ref q]) ∧ H q = some (.tup (plV w k))
  | .rw N i c => H a = some (.tup [.str (Str.ofString "see_row"), .int (N : Nat), .int (i : Nat), .str (S c)])
theorem ObAt.up {H H' : Hp} {w : Nat} {a : Addr} {o : Ob} (h : ObAt H w a o) (f : ∀ b xs, H b = some (.tup xs) → H' b = some (.tup xs)) : ObAt H' w a o := by
  cases o with
  | mb N m k =>
    obtain ⟨q, h1, h2⟩ := h
    exact ⟨q, f _ _ h1, f _ _ h2⟩
  | rw N i c => exact f _ _ h
abbrev fldO (ta wa ca oa : Addr) : List (Str × V) := [("_tray", .ref ta), ("_words", .ref wa), ("_candidates", .ref ca), ("_observations", .ref oa)]
abbrev natV (l : List Nat) : List V := l.map fun j => V.int (j : Nat)
structure ObsB (K : PySem.W.Frag) (C D O : Addr) (H : Hp) (p dx ta wa ca oa : Addr) (ws os : List Addr) (g : Grid) (w : Nat) (ts : List (List Nat)) (cs : List Nat) (obs : List Ob) : Prop where
  hp : H p = some (.ins O dx (fldO ta wa ca oa))
  tr : TrayAt K D H ta g
  wa_ : H wa = some (.tup (ws.map V.ref))
  wd : Paired (fun a t => WordAt C H a t) ws ts
  ca_ : H ca = some (.tup (natV cs))
  oa_ : H oa = some (.tup (os.map V.ref))
  ob : Paired (fun a o => ObAt H w a o) os obs
def ObsAt (K : PySem.W.Frag) (C D O : Addr) (H : Hp) (p : Addr) (g : Grid) (w : Nat) (ts : List (List Nat)) (cs : List Nat) (obs : List Ob) : Prop := ∃ dx ta wa ca oa ws os, ObsB K C D O H p dx ta wa ca oa ws os g w ts cs obs
section
variable {K : PySem.W.Frag} {C D O p dx ta wa ca oa w : Addr} {ws os : List Addr} {g : Grid} {ts : List (List Nat)} {cs : List Nat} {obs : List Ob} {H H' : Hp}
theorem ObsB.but (I : ObsB K C D O H p dx ta wa ca oa ws os g w ts cs obs) {r : Addr} {o : HO} (b : But r H H') (hr : H r = some o) (nt : ∀ u xs, o ≠ .frz u (.tup xs) ∧ o ≠ .tup xs) (ni : ∀ A e f, o ≠ .ins A e f) : ObsB K C D O H' p dx ta wa ca oa ws os g w ts cs obs := by
  have ft : ∀ b' xs, H b' = some (.tup xs) → H' b' = some (.tup xs) := fun b' xs e => b _ _ e fun z => (nt ⟨.none, none, .plain, #[]⟩ xs).2 (by rw [z, hr] at e; exact Option.some.inj e)
  have fi : ∀ b' A e f, H b' = some (.ins A e f) → H' b' = some (.ins A e f) := fun b' A e f x => b _ _ x fun z => ni A e f (by rw [z, hr] at x; exact Option.some.inj x)
  obtain ⟨d1, a1, t1, t2⟩ := I.tr
  exact ⟨fi _ _ _ _ I.hp, ⟨d1, a1, fi _ _ _ _ t1, TK.seq_but t2 hr nt b⟩, ft _ _ I.wa_, Paired.mapP I.wd fun a t ⟨e, x⟩ => ⟨e, fi _ _ _ _ x⟩, ft _ _ I.ca_, ft _ _ I.oa_, Paired.mapP I.ob fun a o x => x.up ft⟩
theorem ObsB.same (I : ObsB K C D O H p dx ta wa ca oa ws os g w ts cs obs) (s : Same H H') : ObsB K C D O H' p dx ta wa ca oa ws os g w ts cs obs := by
  obtain ⟨d1, a1, t1, t2⟩ := I.tr
  exact ⟨s _ _ I.hp, ⟨d1, a1, s _ _ t1, s.tup t2⟩, s _ _ I.wa_, Paired.mapP I.wd fun a t ⟨e, x⟩ => ⟨e, s _ _ x⟩, s _ _ I.ca_, s _ _ I.oa_, Paired.mapP I.ob fun a o x => x.up fun b xs e => s _ _ e⟩
theorem ObsB.put {ca' oa' : Addr} {cs' : List Nat} {os' : List Addr} {obs' : List Ob} (I : ObsB K C D O H p dx ta wa ca oa ws os g w ts cs obs) (nDO : D ≠ O) (nCO : C ≠ O) (hca : H ca' = some (.tup (natV cs'))) (hoa : H oa' = some (.tup (os'.map V.ref))) (hob : Paired (fun a o => ObAt H w a o) os' obs') :
    ObsB K C D O (upd H p (.ins O dx (fldO ta wa ca' oa'))) p dx ta wa ca' oa' ws os' g w ts cs' obs' := by
  have ft : ∀ b' xs, H b' = some (.tup xs) → upd H p (.ins O dx (fldO ta wa ca' oa')) b' = some (.tup xs) := fun b' xs e => by
    rw [upd_ne fun z => by rw [z, I.hp] at e; cases e]
    exact e
  have fi : ∀ b' A e f, A ≠ O → H b' = some (.ins A e f) → upd H p (.ins O dx (fldO ta wa ca' oa')) b' = some (.ins A e f) := fun b' A e f nA x => by
    rw [upd_ne fun z => by rw [z, I.hp] at x; injection x with x; injection x with x; exact nA x.symm]
    exact x
  obtain ⟨d1, a1, t1, t2⟩ := I.tr
  exact ⟨upd_same, ⟨d1, a1, fi _ _ _ _ nDO t1, TK.seq_but t2 I.hp (fun _ _ => ⟨by simp, by simp⟩) fun b' x e ne => by rw [upd_ne ne]; exact e⟩, ft _ _ I.wa_, Paired.mapP I.wd fun a t ⟨e, x⟩ => ⟨e, fi _ _ _ _ nCO x⟩, ft _ _ hca, ft _ _ hoa, Paired.mapP hob fun a o x => x.up ft⟩
end
theorem ObsAt.same {K : PySem.W.Frag} {C D O p w : Addr} {g : Grid} {ts : List (List Nat)} {cs : List Nat} {obs : List Ob} {H H' : Hp} (I : ObsAt K C D O H p g w ts cs obs) (s : Same H H') : ObsAt K C D O H' p g w ts cs obs := by
  obtain ⟨dx, ta, wa, ca, oa, ws, os, I⟩ := I
  exact ⟨dx, ta, wa, ca, oa, ws, os, I.same s⟩
theorem ObsAt.but {K : PySem.W.Frag} {C D O p w r : Addr} {g : Grid} {ts : List (List Nat)} {cs : List Nat} {obs : List Ob} {H H' : Hp} {xs : List V} (I : ObsAt K C D O H p g w ts cs obs) (hr : H r = some (.lst xs)) (b : But r H H') : ObsAt K C D O H' p g w ts cs obs := by
  obtain ⟨dx, ta, wa, ca, oa, ws, os, I⟩ := I
  exact ⟨dx, ta, wa, ca, oa, ws, os, I.but b hr (fun _ _ => ⟨by simp, by simp⟩) fun A e f => by simp⟩
section
variable {P : Program} {w_ : World} {K : PySem.W.Frag} {mg : Str → Option Value} {base : Heap} {C D O : Addr} {n : Nat}
theorem scOi : FnScope ["self", "tray", "words"] ((["self", "tray"] : List Str) ++ (["words"] : List Str)) (defScope sWordObserverInit) := ⟨rfl, rfl, rfl, by decide +kernel, rfl, by decide +kernel, by decide +kernel⟩
def spOi (K : PySem.W.Frag) (C D O : Addr) : Sp := fun vs H Q _ => ∃ (p dx ta wa w : Addr) (ws : List Addr) (g : Grid) (ts : List (List Nat)), vs = [.ref p, .ref ta, .ref wa] ∧ H p = some (.ins O dx []) ∧ TrayAt K D H ta g ∧ H wa = some (.tup (ws.map V.ref)) ∧ Paired (fun a t => WordAt C H a t) ws ts ∧ 1 ≤ ts.length ∧ ts.length ≤ 60 ∧
  ∀ H', ObsAt K C D O H' p g w ts (List.range ts.length) [] → But p H H' → Q .non H'
theorem ok_oi {f : Addr} {fd : FuncData} (F : Fun K "__init__" "WordObserver.__init__" sWordObserverInit f fd) (CO : ClsO K mg O) (mlen : mg "len" = none) (mrng : mg "range" = none) (mtup : mg "tuple" = none) (nDO : D ≠ O) (nCO : C ≠ O) :
    FnR P w_ K mg base CX0 1 f (fun vs H Q E => ∃ xs rest, vs = xs ++ rest ∧ xs.length = (["self", "tray"] : List Str).length ∧ rest.length ≤ sizeLine ∧ ∀ p, H p = Option.none → spOi K C D O (xs ++ [V.ref p]) (upd H p (.tup rest)) Q E) := by
  obtain ⟨oc, od, kV, doc, pm, an, cdv, ct, osl, rfl, lk, hcd⟩ := F.ex
  refine StX.fn_star (ps := ["self", "tray"]) (pv := "words") lk hcd scOi StX.cxUp_none (StX.bind_star2 (B := fun us => bindArgs (PySem.W.fnOf "__init__" "WordObserver.__init__" (defArgs sWordObserverInit) (defBody sWordObserverInit) (defScope sWordObserverInit) .none kV doc pm an cdv ct) ⟨us, []⟩) (p1 := "self") (p2 := "tray") (pv := "words") (fun _ _ => rfl) fun _ _ _ _ => rfl) fun A outer s H vs Q E hr h => ?_
  obtain ⟨p, dx, ta, wa, w, ws, g, ts, rfl, hp, tr, hw, wd, t1, t60, k⟩ := h
  have nd := scOi.nd
  have lw : ws.length = ts.length := Paired.length wd
  refine ⟨_, C8.pss_cut (ps_if (pt_not (pt_truth (pv 2) (by intro _; rfl))) pss_never pss_nil)
    (C8.pss_cut (ps_fld (pv 0) (pv 1) rfl)
    (C8.pss_cut (ps_fld (pv 0) (pv 2) rfl)
    (C8.pss_cut (ps_fld (pv 0) (pe_tupRg rfl (by rfl) mtup (prg_1 (by rfl) mrng (pe_callB call_len_seq (by rfl) mlen PySem.boot_len (pa_cons (pv 2) pa_nil)))) rfl)
    (pss_one (ps_fld (pv 0) (pe_tup pa_nil) rfl))))), ?_⟩
  refine ⟨fun σ H1 => σ = [some (.ref p), some (.ref ta), some (.ref wa)] ∧ H1 = H, ?_, ?_⟩
  · have ne : (ws.map V.ref).isEmpty = false := by
      cases ws with
      | nil => simp at lw; omega
      | cons _ _ => rfl
    exact ⟨_, rfl, true, .inr (.inl ⟨_, SqT.of hw, by rw [ne]; rfl⟩), iteF ⟨rfl, rfl⟩⟩
  rintro σ H1 ⟨rfl, rfl⟩
  have wa_p : wa ≠ p := fun z => by rw [z, hp] at hw; cases hw
  refine ⟨fun σ H2 => σ = [some (.ref p), some (.ref ta), some (.ref wa)] ∧ H2 p = some (.ins O dx [("_tray", .ref ta)]) ∧ But p H1 H2, ?_, ?_⟩
  · exact ⟨_, rfl, _, rfl, p, O, dx, [], rfl, hp, CO.cl, CO.n1, by show 0 < 1000; decide, rfl, upd_same, fun b o e ne => by rw [upd_ne ne]; exact e⟩
  rintro σ H2 ⟨rfl, hp2, b2⟩
  refine ⟨fun σ H3 => σ = [some (.ref p), some (.ref ta), some (.ref wa)] ∧ H3 p = some (.ins O dx [("_tray", .ref ta), ("_words", .ref wa)]) ∧ But p H1 H3, ?_, ?_⟩
  · exact ⟨_, rfl, _, rfl, p, O, dx, _, rfl, hp2, CO.cl, CO.n2, by show 1 < 1000; decide, rfl, upd_same, fun b o e ne => by rw [upd_ne ne]; exact b2 _ _ e ne⟩
  rintro σ H3 ⟨rfl, hp3, b3⟩
  clear hp2 b2 H2
  have hw3 := b3 _ _ hw wa_p
  refine ⟨fun σ H4 => ∃ ca, σ = [some (.ref p), some (.ref ta), some (.ref wa)] ∧ H4 p = some (.ins O dx [("_tray", .ref ta), ("_words", .ref wa), ("_candidates", .ref ca)]) ∧ H4 ca = some (.tup (natV (List.range ts.length))) ∧ But p H1 H4, ?_, ?_⟩
  · refine ⟨_, rfl, wa, _, rfl, .inr (SqT.of hw3), _, rfl, RgOk.of_le (by decide) ?_ (by decide) ?_, fun ca hca => ?_⟩
    · rw [List.length_map]
      omega
    · omega
    have s4 := same_new (o := .tup (rgV 0 ((ws.map V.ref).length : Nat))) hca
    have ca_p : ca ≠ p := fun z => by rw [z, hp3] at hca; cases hca
    refine ⟨_, rfl, p, O, dx, _, rfl, s4 _ _ hp3, CO.cl, CO.n3, by show 2 < 1000; decide, ca, rfl, upd_same, ?_, fun b o e ne => ?_⟩
    · rw [upd_ne ca_p, upd_same]
      unfold rgV natV
      rw [List.length_map, lw]
      have : (((ts.length : Nat) : Int) - 0).toNat = ts.length := by omega
      rw [this]
      congr 2
      refine List.map_congr_left fun i _ => ?_
      rw [Int.zero_add]
    · rw [upd_ne ne]
      exact s4 _ _ (b3 _ _ e ne)
  rintro σ H4 ⟨ca, rfl, hp4, hca, b4⟩
  clear hp3 b3 hw3 H3
  refine ⟨by show 0 ≤ sizeLine; decide, fun oa hoa => ?_⟩
  have s5 := same_new (o := .tup []) hoa
  have oa_p : oa ≠ p := fun z => by rw [z, hp4] at hoa; cases hoa
  have ca_p : ca ≠ p := fun z => by rw [z, hp4] at hca; cases hca
  refine ⟨_, rfl, p, O, dx, _, rfl, s5 _ _ hp4, CO.cl, CO.n4, by show 3 < 1000; decide, ?_⟩
  have b6 : But p H1 (upd (upd H4 oa (.tup [])) p (.ins O dx (fldO ta wa ca oa))) := fun b o e ne => by rw [upd_ne ne]; exact s5 _ _ (b4 _ _ e ne)
  refine k _ ⟨dx, ta, wa, ca, oa, ws, [], upd_same, ?_, b6 _ _ hw wa_p, ?_, ?_, ?_, .nil⟩ b6
  · obtain ⟨d1, a1, e1, e2⟩ := tr
    refine ⟨d1, a1, b6 _ _ e1 fun z => ?_, TK.seq_but e2 hp (fun _ _ => ⟨by simp, by simp⟩) b6⟩
    rw [z, hp] at e1
    exact nDO (by injection e1 with e1; injection e1 with e1; exact e1.symm)
  · refine Paired.mapP wd fun a t ⟨e, x⟩ => ⟨e, b6 _ _ x fun z => ?_⟩
    rw [z, hp] at x
    exact nCO (by injection x with x; injection x with x; exact x.symm)
  · rw [upd_ne ca_p]
    exact s5 _ _ hca
  · rw [upd_ne oa_p]
    exact upd_same
theorem scOc : FnScope ["self"] ["self"] (defScope sWordObserverCandidates) := ⟨rfl, rfl, rfl, by decide +kernel, rfl, by decide +kernel, by decide +kernel⟩
theorem scOo : FnScope ["self"] ["self"] (defScope sWordObserverObservations) := ⟨rfl, rfl, rfl, by decide +kernel, rfl, by decide +kernel, by decide +kernel⟩
def spOc (K : PySem.W.Frag) (C D O : Addr) : Sp := fun vs H Q _ => ∃ (p w : Addr) (g : Grid) (ts : List (List Nat)) (cs : List Nat) (obs : List Ob), vs = [.ref p] ∧ ObsAt K C D O H p g w ts cs obs ∧ ∀ H' l, Same H H' → H l = none → H' l = some (.lst (natV cs)) → Q (.ref l) H'
def spOo (K : PySem.W.Frag) (C D O : Addr) : Sp := fun vs H Q _ => ∃ (p w : Addr) (g : Grid) (ts : List (List Nat)) (cs : List Nat) (obs : List Ob), vs = [.ref p] ∧ ObsAt K C D O H p g w ts cs obs ∧ ∀ H' l os, Same H H' → H l = none → H' l = some (.lst (os.map V.ref)) → Paired (fun a o => ObAt H' w a o) os obs → Q (.ref l) H'
theorem ok_oc {f : Addr} {fd : FuncData} (F : Fun K "candidates" "WordObserver.candidates" sWordObserverCandidates f fd) (CO : ClsO K mg O) (mlst : mg "list" = none) : FnOk P w_ K mg base CX0 1 f fd ["self"] (spOc K C D O) := by
  refine F.ok scOc (fun vs H Q E h => ?_) (fun cdv A outer s H vs Q E hr h => ?_)
  · obtain ⟨p, w, g, ts, cs, obs, rfl, _⟩ := h
    rfl
  · obtain ⟨p, w, g, ts, cs, obs, rfl, ⟨dx, ta, wa, ca, oa, ws, os, I⟩, k⟩ := h
    refine ⟨_, pss_one (ps_ret (pe_callTy call_list_of (by rfl) mlst (by decide +kernel) (pa_cons (pe_fld (pv 0) rfl) pa_nil))), ?_⟩
    exact ⟨_, rfl, p, O, dx, _, _, rfl, I.hp, CO.cl, CO.n3, rfl, ca, _, rfl, .inr (SqT.of I.ca_), fun l hl => k _ l (same_new hl) hl upd_same⟩
theorem ok_oo {f : Addr} {fd : FuncData} (F : Fun K "observations" "WordObserver.observations" sWordObserverObservations f fd) (CO : ClsO K mg O) (mlst : mg "list" = none) : FnOk P w_ K mg base CX0 1 f fd ["self"] (spOo K C D O) := by
  refine F.ok scOo (fun vs H Q E h => ?_) (fun cdv A outer s H vs Q E hr h => ?_)
  · obtain ⟨p, w, g, ts, cs, obs, rfl, _⟩ := h
    rfl
  · obtain ⟨p, w, g, ts, cs, obs, rfl, ⟨dx, ta, wa, ca, oa, ws, os, I⟩, k⟩ := h
    refine ⟨_, pss_one (ps_ret (pe_callTy call_list_of (by rfl) mlst (by decide +kernel) (pa_cons (pe_fld (pv 0) rfl) pa_nil))), ?_⟩
    exact ⟨_, rfl, p, O, dx, _, _, rfl, I.hp, CO.cl, CO.n4, rfl, oa, _, rfl, .inr (SqT.of I.oa_), fun l hl => k _ l os (same_new hl) hl upd_same (I.same (same_new hl)).ob⟩
theorem scOa : FnScope ["self", "observation", "remaining"] ["self", "observation", "remaining"] (defScope sWordObserverAccept) := ⟨rfl, rfl, rfl, by decide +kernel, rfl, by decide +kernel, by decide +kernel⟩
def spOa (K : PySem.W.Frag) (C D O : Addr) : Sp := fun vs H Q _ => ∃ (p w a l : Addr) (g : Grid) (ts : List (List Nat)) (cs cs' : List Nat) (obs : List Ob) (o : Ob), vs = [.ref p, .ref a, .ref l] ∧ ObsAt K C D O H p g w ts cs obs ∧ H l = some (.lst (natV cs')) ∧ cs' ≠ [] ∧ ObAt H w a o ∧ obs.length ≤ 1000 ∧
  ∀ H', ObsAt K C D O H' p g w ts cs' (obs ++ [o]) → But p H H' → Q (.int (cs'.length : Nat)) H'
theorem ok_oa {f : Addr} {fd : FuncData} (F : Fun K "_accept" "WordObserver._accept" sWordObserverAccept f fd) (CO : ClsO K mg O) (nDO : D ≠ O) (nCO : C ≠ O) (mlen : mg "len" = none) (mtup : mg "tuple" = none) : FnOk P w_ K mg base CX0 1 f fd ["self", "observation", "remaining"] (spOa K C D O) := by
  refine F.ok scOa (fun vs H Q E h => ?_) (fun cdv A outer s H vs Q E hr h => ?_)
  · obtain ⟨p, w, a, l, g, ts, cs, cs', obs, o, rfl, _⟩ := h
    rfl
  · obtain ⟨p, w, a, l, g, ts, cs, cs', obs, o, rfl, ⟨dx, ta, wa, ca, oa, ws, os, I⟩, hl, ne, ho, l1000, k⟩ := h
    refine ⟨_, C8.pss_cut (ps_if (pt_not (pt_truth (pv 2) (by intro _; rfl))) pss_never pss_nil)
      (C8.pss_cut (ps_fld (pv 0) (pe_callTy call_tuple_of (by rfl) mtup (by decide +kernel) (pa_cons (pv 2) pa_nil)) rfl)
      (C8.pss_cut (ps_fld (pv 0) (pe_tup (StX.pa_star (pe_fld (pv 0) rfl) (pa_cons (pv 1) pa_nil))) rfl)
      (pss_one (ps_ret (pe_callB call_len_seq (by rfl) mlen PySem.boot_len (pa_cons (pv 2) pa_nil)))))), ?_⟩
    have lo : os.length = obs.length := Paired.length I.ob
    refine ⟨fun σ H1 => σ = [some (.ref p), some (.ref a), some (.ref l)] ∧ H1 = H, ?_, ?_⟩
    · have nm : (natV cs').isEmpty = false := by
        cases cs' with
        | nil => exact absurd rfl ne
        | cons _ _ => rfl
      exact ⟨_, rfl, true, .inl ⟨_, SqL.of hl, by rw [nm]; rfl⟩, iteF ⟨rfl, rfl⟩⟩
    rintro σ H1 ⟨rfl, rfl⟩
    have l_p : l ≠ p := fun z => by rw [z, I.hp] at hl; cases hl
    refine ⟨fun σ H2 => σ = [some (.ref p), some (.ref a), some (.ref l)] ∧ ∃ ca', ObsB K C D O H2 p dx ta wa ca' oa ws os g w ts cs' obs ∧ But p H1 H2, ?_, ?_⟩
    · refine ⟨_, rfl, l, _, rfl, .inl ⟨SqL.of hl, fun c2 hc2 => ?_⟩⟩
      have s2 := same_new (o := .tup (natV cs')) hc2
      have I2 := I.same s2
      have c_p : c2 ≠ p := fun z => by rw [z, I.hp] at hc2; cases hc2
      refine ⟨_, rfl, p, O, dx, _, rfl, I2.hp, CO.cl, CO.n3, by show 4 < 1000; decide, rfl, c2, ?_, fun b x e nb => by rw [upd_ne nb]; exact s2 _ _ e⟩
      exact I2.put nDO nCO upd_same I2.oa_ I2.ob
    rintro σ H2 ⟨rfl, ca', I2, b2⟩
    have ho2 : ObAt H2 w a o := ho.up fun b xs e => b2 _ _ e fun z => by rw [z, I.hp] at e; cases e
    refine ⟨fun σ H3 => σ = [some (.ref p), some (.ref a), some (.ref l)] ∧ ObsAt K C D O H3 p g w ts cs' (obs ++ [o]) ∧ But p H1 H3, ?_, ?_⟩
    · refine ⟨_, rfl, p, O, dx, _, _, rfl, I2.hp, CO.cl, CO.n4, rfl, oa, _, rfl, .inl (SqT.of I2.oa_), _, rfl, ?_, fun o2 ho2' => ?_⟩
      · rw [List.length_append, List.length_map, lo]
        show obs.length + 1 ≤ 16777216
        omega
      have s3 := same_new (o := .tup (os.map V.ref ++ [V.ref a])) ho2'
      have I3 := I2.same s3
      refine ⟨_, rfl, p, O, dx, _, rfl, I3.hp, CO.cl, CO.n4, by show 4 < 1000; decide, rfl, ?_, fun b x e nb => by rw [upd_ne nb]; exact s3 _ _ (b2 _ _ e nb)⟩
      refine ⟨dx, ta, wa, ca', o2, ws, os ++ [a], I3.put nDO nCO I3.ca_ ?_ ?_⟩
      · rw [upd_same, List.map_append]
        rfl
      · exact Paired.snoc I3.ob (ho2.up fun b xs e => s3 _ _ e)
    rintro σ H3 ⟨rfl, I3, b3⟩
    refine ⟨_, rfl, l, _, rfl, .inl (SqL.of (b3 _ _ hl l_p)), ?_⟩
    have := k _ I3 b3
    rw [List.length_map]
    exact this
end
end TR
end
namespace TR
end TR
namespace TR
end TR
namespace TR
end TR
namespace TR
end TR
namespace TR
end TR
namespace TK
end TK
namespace TA
end TA
section
set_option Elab.async false
set_option maxRecDepth 100000
set_option linter.all false
namespace TH
open PySem PySem.Spec PyProof.Rows L2
end TH
namespace TQ
open PySem PySem.Spec PyProof.Rows L2 TH
section
variable {X : Cx} {n : Nat}
theorem op_eqDK {K : PySem.W.Frag} (hK : X.K = K) (hu : X.A.units + 64 < cLine) : OpR X (compareOp .Eq) (rEqD K) := by
  subst hK
  exact op_eqD hu
end
end TQ
namespace TU
open PySem L2 TM TK TB
open PySem.Spec PyProof.Rows TH
section
variable {P : Program} {w : World} {K : PySem.W.Frag} {mg : Str → Option Value} {base : Heap} {fT : Addr} {fdT : FuncData}
end
end TU
end
section
set_option Elab.async false
set_option maxRecDepth 100000
set_option linter.all false
namespace TR
open PySem PySem.Spec PyProof.Rows L2 TM TX TK TB TP TH TU TW TI
theorem pen_ix {X : Cx} {n : Nat} {r : R2} {a b : Expr} {ta tb : TE} {pos : Pos} (hr : IxR X r) (ha : PEn n X a ta) (hb : PEn n X b tb) (hs : PlainIx b) : PEn n X (.Subscript a b pos) (tOp r ta tb) := fun pins s σ H Q hn I h =>
  Subscript_ (thnN hn (ha pins s σ H _ hn I h) fun v s1 hn1 ⟨x, H1, I1, rx, q⟩ => thn (hb pins s1 σ H1 _ hn1 I1 q) fun u s2 ⟨y, H2, I2, ry, q2⟩ => hr a b pins s2 σ H2 x y v u Q I2 rx ry q2 (hs _ _))
structure SeeF (P : Program) (w_ : World) (K : PySem.W.Frag) (mg : Str → Option Value) (base : Heap) (n : Nat) (C D O CP : Addr) : Prop where
  co : ClsO K mg O
  ct : ClsT K mg D
  nDO : D ≠ O
  nCO : C ≠ O
  mMR : ∃ u, mg "MAX_ROUNDS" = some u ∧ RelV (.int ((10 ^ 18 : Nat) : Int)) u
  fCn : ∃ g fd, FnOk P w_ K mg base CX0 2 g fd ["value", "limit"] spCn ∧ PySem.W.keepIn K (.ref g) = true ∧ Binds K fd ["value", "limit"] [] ∧ mg "check_number" = some (.ref g)
  fNu : ∃ g fd, FnOk P w_ K mg base CX0 1 g fd ["value", "limit"] (TA.spNum K) ∧ PySem.W.keepIn K (.ref g) = true ∧ Binds K fd ["value", "limit"] [] ∧ mg "is_number" = some (.ref g)
  fCm : ∃ g fd, FnOk P w_ K mg base CX0 4 g fd ["tray", "marble"] (spCm K D) ∧ PySem.W.keepIn K (.ref g) = true ∧ Binds K fd ["tray", "marble"] [] ∧ mg "check_marble" = some (.ref g)
  fCp : ∃ g fd, FnOk P w_ K mg base (L2.CX P w_) 3 g fd ["tray", "place"] (spCp K D CP) ∧ PySem.W.keepIn K (.ref g) = true ∧ Binds K fd ["tray", "place"] [] ∧ mg "check_place" = some (.ref g)
  fMa : ∃ g, FnRn n P w_ K mg base CX0 8 g (spMa K C D) ∧ PySem.W.keepIn K (.ref g) = true ∧ mg "marble_after" = some (.ref g)
  fAr : ∃ g, FnRn n P w_ K mg base CX0 7 g (spAr K C D) ∧ PySem.W.keepIn K (.ref g) = true ∧ mg "after_rounds" = some (.ref g)
  mAc : ∃ g fd, Meth K O "_accept" g ∧ FnOk P w_ K mg base CX0 1 g fd ["self", "observation", "remaining"] (spOa K C D O) ∧ Binds K fd ["self", "observation", "remaining"] []
  pRw : ∃ p g fd, PropOf K D "rows" p g ∧ FnOk P w_ K mg base CX0 1 g fd ["self"] (getSp D "_rows") ∧ Binds K fd ["self"] []
  pHt : ∃ p g fd, PropOf K D "height" p g ∧ FnOk P w_ K mg base CX0 1 g fd ["self"] (spHt K D) ∧ Binds K fd ["self"] []
section
variable {P : Program} {w_ : World} {K : PySem.W.Frag} {mg : Str → Option Value} {base : Heap} {C D O CP : Addr} {n : Nat}
abbrev NOm : List Str := ["self", "rounds", "marble", "place", "remaining", "number"]
theorem scOm : FnScope NOm ["self", "rounds", "marble", "place"] (defScope sWordObserverSeeMarble) := ⟨rfl, rfl, rfl, by decide +kernel, rfl, by decide +kernel, by decide +kernel⟩
/-- where a marble lies by word c -/
abbrev lieAt (h w : Nat) (g : Grid) (ts : List (List Nat)) (N m c : Nat) : Nat := (rounds h w (ts.getD c []) N g).flatten.idxOf m
abbrev remM (h w : Nat) (g : Grid) (ts : List (List Nat)) (N m k : Nat) (cs : List Nat) : List Nat := cs.filter fun c => decide (lieAt h w g ts N m c = k)
def spOm (K : PySem.W.Frag) (C D O : Addr) : Sp := fun vs H Q _ => ∃ (p h w N m k q : Nat) (g : Grid) (ts : List (List Nat)) (cs : List Nat) (obs : List Ob), vs = [.ref p, .int (N : Nat), sg m, .ref q] ∧ ObsAt K C D O H p g w ts cs obs ∧ VG h w g ∧ N ≤ 10 ^ 18 ∧ m ∈ mb g.flatten ∧ H q = some (.tup (plV w k)) ∧ k < h * w ∧
  (∀ c ∈ cs, c < ts.length) ∧ cs.length ≤ 1000 ∧ remM h w g ts N m k cs ≠ [] ∧ obs.length ≤ 1000 ∧ ∀ H', ObsAt K C D O H' p g w ts (remM h w g ts N m k cs) (obs ++ [.mb N m k]) → But p H H' → Q (.int ((remM h w g ts N m k cs).length : Nat)) H'
theorem ok_om {f : Addr} {fd : FuncData} (F : Fun K "see_marble" "WordObserver.see_marble" sWordObserverSeeMarble f fd) (b : Binds K fd ["self", "rounds", "marble", "place"] []) (L : SeeF P w_ K mg base n C D O CP) : FnRn n P w_ K mg base CX0 9 f (spOm K C D O) := by
  obtain ⟨gCn, fdCn, GCn, kCn, bCn, mCn⟩ := L.fCn
  obtain ⟨gCm, fdCm, GCm, kCm, bCm, mCm⟩ := L.fCm
  obtain ⟨gCp, fdCp, GCp, kCp, bCp, mCp⟩ := L.fCp
  obtain ⟨gMa, GMa, kMa, mMa⟩ := L.fMa
  obtain ⟨gAc, fdAc, MA, GA, bA⟩ := L.mAc
  have CO := L.co
  refine fn_n F b scOm (fun vs H Q E h => ?_) fun cdv A outer s H vs Q E hr h => ?_
  · obtain ⟨p, h, w, N, m, k, q, g, ts, cs, obs, rfl, _⟩ := h
    rfl
  · obtain ⟨p, h, w, N, m, kk, q, g, ts, cs, obs, rfl, ⟨dx, ta, wa, ca, oa, ws, os, I⟩, hV, hN, hm, hq, hk, hc, cs1000, ne, l1000, k⟩ := h
    have nd := scOm.nd
    have r4 := hr.mono (show 4 ≤ 8 by decide)
    have r3 := hr.mono (show 3 ≤ 8 by decide)
    have r2 := hr.mono (show 2 ≤ 8 by decide)
    have r1 := hr.mono (show 1 ≤ 8 by decide)
    refine ⟨_, pssn_cut (PS.up (ps_expr (pe_call GCn r2 rfl mCn kCn bCn .nil pass0 (pa_cons (pv 1) (pa_cons (C8.pe_gc rfl L.mMR) pa_nil)))))
      (pssn_cut (PS.up (ps_expr (pe_call GCm r4 rfl mCm kCm bCm .nil pass0 (pa_cons (pe_fld (pv 0) rfl) (pa_cons (pv 2) pa_nil)))))
      (pssn_cut (PS.up (ps_expr (pe_call GCp r3 rfl mCp kCp bCp .nil passL (pa_cons (pe_fld (pv 0) rfl) (pa_cons (pv 3) pa_nil)))))
      (pssn_cut (psn_setLcF (i := 4) (own := [("number", 5)]) (g := gName 5) rfl nd rfl rfl (sw_true rfl rfl rfl (by decide +kernel)) (PI.up (pi_tup (pe_fld (pv 0) rfl))) (blkOk_by (N := NOm) (sc := defScope sWordObserverSeeMarble) (by decide +kernel)) (fun _ _ _ _ _ => pg_name (i := 5) nd rfl (.inl rfl))
        (fun _ _ _ _ _ => ptsn_one (ptn_cmpR (TQ.op_eqDK (K := K) rfl hr.units) (pen_call GMa hr rfl mMa kMa pass0 (pan_cons (PE.up (pe_fldK (K := K) (pv 0) rfl)) (pan_cons (PE.up (pv 2)) (pan_cons (PE.up (pe_ix (ix_tupK (K := K) rfl) (pe_fldK (K := K) (pv 0) rfl) (pv 5) (fun _ _ => rfl))) (pan_cons (PE.up (pv 1)) pan_nil))))) (PE.up (pv 3)) (nomark _)))
        (fun _ _ _ _ _ => PE.up (pv 5)))
      (pssn_one (PS.up (ps_ret (pe_meth (pv 0) CO.cl MA GA r1 bA .nil pass0 (pa_cons (pe_tup (pa_cons pe_str (pa_cons (pv 1) (pa_cons (pv 2) (pa_cons (pv 3) pa_nil))))) (pa_cons (pv 4) pa_nil))))))))), ?_⟩
    have w0 : 1 ≤ w := hV.m1
    refine ⟨fun σ H1 => σ = [some (.ref p), some (.int (N : Nat)), some (sg m), some (.ref q), none, none] ∧ H1 = H, ?_, ?_⟩
    · exact ⟨_, rfl, N, 10 ^ 18, rfl, hN, rfl, rfl⟩
    rintro σ H1 ⟨rfl, rfl⟩
    refine ⟨fun σ H2 => σ = [some (.ref p), some (.int (N : Nat)), some (sg m), some (.ref q), none, none] ∧ Same H1 H2, ?_, ?_⟩
    · exact ⟨_, rfl, p, O, dx, _, _, rfl, I.hp, CO.cl, CO.n1, rfl, _, rfl, ta, m, h, w, g, rfl, I.tr, hV, hm, fun H2 s2 => ⟨rfl, s2⟩⟩
    rintro σ H2 ⟨rfl, s2⟩
    have I2 := I.same s2
    have hq2 := s2 _ _ hq
    refine ⟨fun σ H3 => σ = [some (.ref p), some (.int (N : Nat)), some (sg m), some (.ref q), none, none] ∧ H3 = H2, ?_, ?_⟩
    · exact ⟨_, rfl, p, O, dx, _, _, rfl, I2.hp, CO.cl, CO.n1, rfl, _, rfl, ta, .ref q, h, w, g, rfl, I2.tr, hV, .inl ⟨q, kk / w, kk % w, rfl, SqT.of hq2, Nat.div_lt_of_lt_mul (by rw [Nat.mul_comm]; exact hk), Nat.mod_lt _ w0, rfl, rfl⟩⟩
    rintro σ H3 ⟨rfl, rfl⟩
    have hq3 := hq2
    have I3 := I2
    refine ⟨fun σ H4 => ∃ l, σ = [some (.ref p), some (.int (N : Nat)), some (sg m), some (.ref q), some (.ref l), none] ∧ Same H3 H4 ∧ H4 l = some (.lst (natV (remM h w g ts N m kk cs))), ?_, ?_⟩
    · refine ⟨_, rfl, p, O, dx, _, _, rfl, I3.hp, CO.cl, CO.n3, rfl, ca, rfl, ⟨_, SqT.of I3.ca_⟩, fun D1 hD1 => lc_tup (K := K) (a := ca) (xs := natV cs) (fun i H4 => Same H3 H4 ∧ H4 D1 = some (.lst (natV (remM h w g ts N m kk (cs.take i)))))
        ⟨same_new hD1, upd_same⟩ (fun i H4 _ ⟨s4, _⟩ => s4.tup (SqT.of I3.ca_)) ?_ ?_⟩
      · rintro i x H4 hx ⟨s4, hL⟩
        obtain ⟨c, hcc, rfl⟩ := at_map hx
        have mc := List.mem_of_getElem? hcc
        have I4 := I3.same s4
        have lt := hc c mc
        obtain ⟨aw, haw, W⟩ := paired_at I4.wd c (ts[c]) (List.getElem?_eq_getElem lt)
        have et : ts.getD c [] = ts[c] := by rw [List.getD_eq_getElem?_getD, List.getElem?_eq_getElem lt]; rfl
        refine ⟨rfl, _, rfl, p, O, dx, _, _, rfl, I4.hp, CO.cl, CO.n1, rfl, _, rfl, _, rfl, p, O, dx, _, _, rfl, I4.hp, CO.cl, CO.n2, rfl, _, rfl, wa, _, c, .ref aw, rfl, rfl, SqT.of I4.wa_, atI_nat (by rw [List.getElem?_map, haw]; rfl), _, rfl, ta, aw, m, h, w, N, g, ts[c], rfl, I4.tr, hV, W, hm, hN, fun H5 r5 s5 f5 pl => ?_⟩
        refine ⟨_, rfl, plD w ((rounds h w ts[c] N g).flatten.idxOf m), plD w kk, pl_dp pl, pl_dp (s5 _ _ (s4 _ _ hq3)), pl_shaped _ _, pl_shaped _ _, _, rfl, ?_⟩
        rw [pl_eqv]
        have tk : remM h w g ts N m kk (cs.take (i + 1)) = remM h w g ts N m kk (cs.take i) ++ (if decide ((rounds h w ts[c] N g).flatten.idxOf m = kk) = true then [c] else []) := by
          unfold remM
          rw [List.take_succ, hcc, List.filter_append]
          congr 1
          show ([c] : List Nat).filter _ = _
          have e1 : decide (lieAt h w g ts N m c = kk) = decide ((rounds h w ts[c] N g).flatten.idxOf m = kk) := by
            unfold lieAt
            rw [et]
          by_cases z : decide ((rounds h w ts[c] N g).flatten.idxOf m = kk) = true
          · rw [if_pos z]
            rw [← e1] at z
            simp only [List.filter, z]
          · rw [if_neg z]
            rw [← e1] at z
            simp only [List.filter, z]
        have ilt := (List.getElem?_eq_some_iff.mp hcc).1
        cases z : decide ((rounds h w ts[c] N g).flatten.idxOf m = kk) with
        | true =>
          rw [z, if_pos rfl] at tk
          refine iteT ⟨_, rfl, _, s5 _ _ hL, ?_, same_put (s4.trans s5) hD1, ?_⟩
          · rw [List.length_map]
            have := List.length_filter_le (fun c => decide (lieAt h w g ts N m c = kk)) (cs.take i)
            rw [List.length_take] at this
            show _ < 16777216
            unfold remM
            omega
          · rw [upd_same, tk]
            unfold natV
            rw [List.map_append]
            rfl
        | false =>
          rw [z, if_neg Bool.false_ne_true, List.append_nil] at tk
          exact iteF ⟨s4.trans s5, by rw [tk]; exact s5 _ _ hL⟩
      · rintro H4 ⟨s4, hL⟩
        rw [List.length_map, List.take_length] at hL
        exact ⟨D1, rfl, s4, hL⟩
    rintro σ H4 ⟨l, rfl, s4, hl⟩
    have I4 := I3.same s4
    have hq4 := s4 _ _ hq3
    refine ⟨_, rfl, p, dx, _, rfl, I4.hp, rfl, _, rfl, _, rfl, _, rfl, by show 4 ≤ sizeLine; decide, fun a ha => ?_⟩
    have s5 := same_new (o := .tup [.str (Str.ofString "see_marble"), .int (N : Nat), sg m, .ref q]) ha
    refine ⟨_, rfl, p, w, a, l, g, ts, cs, remM h w g ts N m kk cs, obs, .mb N m kk, rfl, ⟨dx, ta, wa, ca, oa, ws, os, I4.same s5⟩, s5 _ _ hl, ne, ⟨q, upd_same, s5 _ _ hq4⟩, l1000, fun H6 I6 b6 => ?_⟩
    have s15 := (s2.trans s4).trans s5
    exact k _ I6 fun b o e nb => b6 _ _ (s15 _ _ e) nb
abbrev NOr : List Str := ["self", "rounds", "row", "cells", "remaining", "number"]
theorem scOr : FnScope NOr ["self", "rounds", "row", "cells"] (defScope sWordObserverSeeRow) := ⟨rfl, rfl, rfl, by decide +kernel, rfl, by decide +kernel, by decide +kernel⟩
abbrev rowAt (h w : Nat) (g : Grid) (ts : List (List Nat)) (N i c : Nat) : List Nat := (rounds h w (ts.getD c []) N g).getD i []
abbrev remR (h w : Nat) (g : Grid) (ts : List (List Nat)) (N i : Nat) (u : List Nat) (cs : List Nat) : List Nat := cs.filter fun c => decide (rowAt h w g ts N i c = u)
def spOr (K : PySem.W.Frag) (C D O : Addr) : Sp := fun vs H Q _ => ∃ (p h w N i : Nat) (u : List Nat) (g : Grid) (ts : List (List Nat)) (cs : List Nat) (obs : List Ob), vs = [.ref p, .int (N : Nat), .int (i : Nat), .str (S u)] ∧ ObsAt K C D O H p g w ts cs obs ∧ VG h w g ∧ N ≤ 10 ^ 18 ∧ i < h ∧
  (∀ c ∈ cs, c < ts.length) ∧ cs.length ≤ 1000 ∧ remR h w g ts N i u cs ≠ [] ∧ obs.length ≤ 1000 ∧ ∀ H', ObsAt K C D O H' p g w ts (remR h w g ts N i u cs) (obs ++ [.rw N i u]) → But p H H' → Q (.int ((remR h w g ts N i u cs).length : Nat)) H'
theorem ok_or {f : Addr} {fd : FuncData} (F : Fun K "see_row" "WordObserver.see_row" sWordObserverSeeRow f fd) (b : Binds K fd ["self", "rounds", "row", "cells"] []) (L : SeeF P w_ K mg base n C D O CP) : FnRn n P w_ K mg base CX0 8 f (spOr K C D O) := by
  obtain ⟨gCn, fdCn, GCn, kCn, bCn, mCn⟩ := L.fCn
  obtain ⟨gNu, fdNu, GNu, kNu, bNu, mNu⟩ := L.fNu
  obtain ⟨gAr, GAr, kAr, mAr⟩ := L.fAr
  obtain ⟨gAc, fdAc, MA, GA, bA⟩ := L.mAc
  obtain ⟨pR, gR, fdR, PR, GR, bR⟩ := L.pRw
  obtain ⟨pH, gH, fdH, PH, GH, bH⟩ := L.pHt
  have CO := L.co
  have CT := L.ct
  refine fn_n F b scOr (fun vs H Q E h => ?_) fun cdv A outer s H vs Q E hr h => ?_
  · obtain ⟨p, h, w, N, i, u, g, ts, cs, obs, rfl, _⟩ := h
    rfl
  · obtain ⟨p, h, w, N, i, u, g, ts, cs, obs, rfl, ⟨dx, ta, wa, ca, oa, ws, os, I⟩, hV, hN, hi, hc, cs1000, ne, l1000, k⟩ := h
    have nd := scOr.nd
    have r2 := hr.mono (show 2 ≤ 7 by decide)
    have r1 := hr.mono (show 1 ≤ 7 by decide)
    refine ⟨_, pssn_cut (PS.up (ps_expr (pe_call GCn r2 rfl mCn kCn bCn .nil pass0 (pa_cons (pv 1) (pa_cons (C8.pe_gc rfl L.mMR) pa_nil)))))
      (pssn_cut (PS.up (ps_if (pt_not (pt_val (pe_call GNu r1 rfl mNu kNu bNu .nil pass0 (pa_cons (pv 2) (pa_cons (pe_op op_sub (pe_prop (pe_fld (pv 0) rfl) CT.cl PH GH r2 bH .nil pass0 rfl) pe_int) pa_nil))))) pss_never pss_nil))
      (pssn_cut (psn_setLcF (i := 4) (own := [("number", 5)]) (g := gName 5) rfl nd rfl rfl (sw_true rfl rfl rfl (by decide +kernel)) (PI.up (pi_tup (pe_fld (pv 0) rfl))) (blkOk_by (N := NOr) (sc := defScope sWordObserverSeeRow) (by decide +kernel)) (fun _ _ _ _ _ => pg_name (i := 5) nd rfl (.inl rfl))
        (fun _ _ _ _ _ => ptsn_one (ptn_cmpR op_eq (pen_ix (ix_tupK (K := K) rfl) (pen_prop (pen_call GAr hr rfl mAr kAr pass0 (pan_cons (PE.up (pe_fldK (K := K) (pv 0) rfl)) (pan_cons (PE.up (pe_ix (ix_tupK (K := K) rfl) (pe_fldK (K := K) (pv 0) rfl) (pv 5) (fun _ _ => rfl))) (pan_cons (PE.up (pv 1)) pan_nil)))) CT.cl PR GR r2 bR .nil pass0 rfl) (PE.up (pv 2)) (fun _ _ => rfl)) (PE.up (pv 3)) (nomark _)))
        (fun _ _ _ _ _ => PE.up (pv 5)))
      (pssn_one (PS.up (ps_ret (pe_meth (pv 0) CO.cl MA GA r1 bA .nil pass0 (pa_cons (pe_tup (pa_cons pe_str (pa_cons (pv 1) (pa_cons (pv 2) (pa_cons (pv 3) pa_nil))))) (pa_cons (pv 4) pa_nil)))))))), ?_⟩
    refine ⟨fun σ H1 => σ = [some (.ref p), some (.int (N : Nat)), some (.int (i : Nat)), some (.str (S u)), none, none] ∧ H1 = H, ?_, ?_⟩
    · exact ⟨_, rfl, N, 10 ^ 18, rfl, hN, rfl, rfl⟩
    rintro σ H1 ⟨rfl, rfl⟩
    refine ⟨fun σ H2 => σ = [some (.ref p), some (.int (N : Nat)), some (.int (i : Nat)), some (.str (S u)), none, none] ∧ H2 = H1, ?_, ?_⟩
    · obtain ⟨d1, a1, e1, e2⟩ := id I.tr
      refine ⟨_, rfl, _, rfl, p, O, dx, _, _, rfl, I.hp, CO.cl, CO.n1, rfl, ta, d1, _, rfl, e1, ta, h, w, g, rfl, I.tr, hV, _, _, rfl, rfl, .int (i : Nat), _, _, _, _, rfl, TA.kn_int _, ?_⟩
      have e : TA.isN (.int (i : Nat)) ((h : Int) - 1) = true := by
        have := isN_ok (k := i) (l := h - 1) (by omega)
        rw [show ((h - 1 : Nat) : Int) = (h : Int) - 1 by omega] at this
        exact this
      rw [e]
      exact ⟨true, rfl, iteF ⟨rfl, rfl⟩⟩
    rintro σ H3 ⟨rfl, rfl⟩
    refine ⟨fun σ H4 => ∃ l, σ = [some (.ref p), some (.int (N : Nat)), some (.int (i : Nat)), some (.str (S u)), some (.ref l), none] ∧ Same H3 H4 ∧ H4 l = some (.lst (natV (remR h w g ts N i u cs))), ?_, ?_⟩
    · refine ⟨_, rfl, p, O, dx, _, _, rfl, I.hp, CO.cl, CO.n3, rfl, ca, rfl, ⟨_, SqT.of I.ca_⟩, fun D1 hD1 => lc_tup (K := K) (a := ca) (xs := natV cs) (fun j H4 => Same H3 H4 ∧ H4 D1 = some (.lst (natV (remR h w g ts N i u (cs.take j)))))
        ⟨same_new hD1, upd_same⟩ (fun j H4 _ ⟨s4, _⟩ => s4.tup (SqT.of I.ca_)) ?_ ?_⟩
      · rintro j x H4 hx ⟨s4, hL⟩
        obtain ⟨c, hcc, rfl⟩ := at_map hx
        have mc := List.mem_of_getElem? hcc
        have I4 := I.same s4
        have lt := hc c mc
        obtain ⟨aw, haw, W⟩ := paired_at I4.wd c (ts[c]) (List.getElem?_eq_getElem lt)
        have et : ts.getD c [] = ts[c] := by rw [List.getD_eq_getElem?_getD, List.getElem?_eq_getElem lt]; rfl
        refine ⟨rfl, _, rfl, p, O, dx, _, _, rfl, I4.hp, CO.cl, CO.n1, rfl, _, rfl, p, O, dx, _, _, rfl, I4.hp, CO.cl, CO.n2, rfl, _, rfl, wa, _, c, .ref aw, rfl, rfl, SqT.of I4.wa_, atI_nat (by rw [List.getElem?_map, haw]; rfl), _, rfl, ta, aw, h, w, N, g, ts[c], rfl, I4.tr, hV, W, hN, fun H5 r5 s5 t5 => ?_⟩
        obtain ⟨d5, a5, e5, f5⟩ := id t5
        have VN := VG.rounds (t := ts[c]) N hV
        have lN : (rounds h w ts[c] N g).length = h := VN.rc.1
        obtain ⟨rr, hrr⟩ : ∃ rr, (rounds h w ts[c] N g)[i]? = some rr := ⟨_, List.getElem?_eq_getElem (l := rounds h w ts[c] N g) (by rw [lN]; exact hi)⟩
        refine ⟨r5, d5, _, rfl, e5, r5, d5, _, _, rfl, e5, rfl, _, rfl, a5, _, i, .str (S rr), rfl, rfl, f5, atI_nat (by rw [List.getElem?_map, hrr]; rfl), _, rfl, rfl, _, rfl, ?_⟩
        have er : rowAt h w g ts N i c = rr := by
          unfold rowAt
          rw [et, List.getD_eq_getElem?_getD, hrr]
          rfl
        have tk : remR h w g ts N i u (cs.take (j + 1)) = remR h w g ts N i u (cs.take j) ++ (if decide (rr = u) = true then [c] else []) := by
          unfold remR
          rw [List.take_succ, hcc, List.filter_append]
          congr 1
          show ([c] : List Nat).filter _ = _
          by_cases z : decide (rr = u) = true
          · rw [if_pos z]
            simp only [List.filter, er, z]
          · rw [if_neg z]
            simp only [List.filter, er, z]
        have ilt := (List.getElem?_eq_some_iff.mp hcc).1
        have ed : decide (V.str (S rr) = V.str (S u)) = decide (rr = u) := decide_eq_decide.mpr ⟨fun z => S_inj (V.str.inj z), fun z => by rw [z]⟩
        rw [ed]
        cases z : decide (rr = u) with
        | true =>
          rw [z, if_pos rfl] at tk
          refine iteT ⟨_, rfl, _, s5 _ _ hL, ?_, same_put (s4.trans s5) hD1, ?_⟩
          · rw [List.length_map]
            have := List.length_filter_le (fun c => decide (rowAt h w g ts N i c = u)) (cs.take j)
            rw [List.length_take] at this
            show _ < 16777216
            unfold remR
            omega
          · rw [upd_same, tk]
            unfold natV
            rw [List.map_append]
            rfl
        | false =>
          rw [z, if_neg Bool.false_ne_true, List.append_nil] at tk
          exact iteF ⟨s4.trans s5, by rw [tk]; exact s5 _ _ hL⟩
      · rintro H4 ⟨s4, hL⟩
        rw [List.length_map, List.take_length] at hL
        exact ⟨D1, rfl, s4, hL⟩
    rintro σ H4 ⟨l, rfl, s4, hl⟩
    have I4 := I.same s4
    refine ⟨_, rfl, p, dx, _, rfl, I4.hp, rfl, _, rfl, _, rfl, _, rfl, by show 4 ≤ sizeLine; decide, fun a ha => ?_⟩
    have s5 := same_new (o := .tup [.str (Str.ofString "see_row"), .int (N : Nat), .int (i : Nat), .str (S u)]) ha
    refine ⟨_, rfl, p, w, a, l, g, ts, cs, remR h w g ts N i u cs, obs, .rw N i u, rfl, ⟨dx, ta, wa, ca, oa, ws, os, I4.same s5⟩, s5 _ _ hl, ne, upd_same, l1000, fun H6 I6 b6 => ?_⟩
    exact k _ I6 fun b o e nb => b6 _ _ ((s4.trans s5) _ _ e) nb
end
end TR
end
section
set_option Elab.async false
set_option maxRecDepth 100000
set_option linter.all false
namespace TR
open PySem PySem.Spec PyProof.Rows L2 TM TX TK TB TP TH TU TW TI
/-- the words that an observation leaves -/
abbrev remO (h w : Nat) (g : Grid) (ts : List (List Nat)) (cs : List Nat) : Ob → List Nat
  | .mb N m k => remM h w g ts N m k cs
  | .rw N i u => remR h w g ts N i u cs
def okOb (h w : Nat) (g : Grid) : Ob → Prop
  | .mb N m k => N ≤ 10 ^ 18 ∧ m ∈ mb g.flatten ∧ k < h * w
  | .rw N i u => N ≤ 10 ^ 18 ∧ i < h ∧ ∀ c ∈ u, Cell c
abbrev runO (h w : Nat) (g : Grid) (ts : List (List Nat)) (obs : List Ob) (cs : List Nat) : List Nat := obs.foldl (fun cs o => remO h w g ts cs o) cs
theorem remO_sub {h w : Nat} {g : Grid} {ts : List (List Nat)} {cs : List Nat} {o : Ob} : ∀ c ∈ remO h w g ts cs o, c ∈ cs := by
  cases o <;> exact fun c hc => (List.mem_filter.mp hc).1
theorem remO_len {h w : Nat} {g : Grid} {ts : List (List Nat)} {cs : List Nat} {o : Ob} : (remO h w g ts cs o).length ≤ cs.length := by
  cases o <;> exact List.length_filter_le _ _
theorem runO_sub {h w : Nat} {g : Grid} {ts : List (List Nat)} : ∀ {obs : List Ob} {cs : List Nat}, ∀ c ∈ runO h w g ts obs cs, c ∈ cs
  | [], _, c, hc => hc
  | o :: r, cs, c, hc => remO_sub c (runO_sub (obs := r) c hc)
theorem runO_len {h w : Nat} {g : Grid} {ts : List (List Nat)} : ∀ {obs : List Ob} {cs : List Nat}, (runO h w g ts obs cs).length ≤ cs.length
  | [], _ => Nat.le_refl _
  | o :: r, cs => Nat.le_trans (runO_len (obs := r)) remO_len
section
variable {P : Program} {w_ : World} {K : PySem.W.Frag} {mg : Str → Option Value} {base : Heap} {C D O CP fOi fOm fOr : Addr} {n : Nat}
abbrev NFg : List Str := ["cls", "tray", "words", "observations", "observer", "name", "details"]
theorem scFg : FnScope NFg ["cls", "tray", "words", "observations"] (defScope sWordObserverFromLog) := ⟨rfl, rfl, rfl, by decide +kernel, rfl, by decide +kernel, by decide +kernel⟩
def spFg (K : PySem.W.Frag) (C D O : Addr) : Sp := fun vs H Q _ => ∃ (ta wl ol h w : Nat) (ws os : List Addr) (g : Grid) (ts : List (List Nat)) (obs : List Ob), vs = [.ref O, .ref ta, .ref wl, .ref ol] ∧ TrayAt K D H ta g ∧ VG h w g ∧ SqL K H wl (ws.map V.ref) ∧ Paired (fun a t => WordAt C H a t) ws ts ∧ 1 ≤ ts.length ∧ ts.length ≤ 60 ∧
  SqL K H ol (os.map V.ref) ∧ Paired (fun a o => ObAt H w a o) os obs ∧ obs.length ≤ 1000 ∧ (∀ o ∈ obs, okOb h w g o) ∧ (∀ i, i ≤ obs.length → runO h w g ts (obs.take i) (List.range ts.length) ≠ []) ∧
  ∀ H' p, ObsAt K C D O H' p g w ts (runO h w g ts obs (List.range ts.length)) obs → Same H H' → Q (.ref p) H'
theorem ok_fg {f : Addr} {fd : FuncData} (F : Fun K "from_log" "WordObserver.from_log" sWordObserverFromLog f fd) (b : Binds K fd ["cls", "tray", "words", "observations"] []) (CO : ClsO K mg O) (MI : Mk K O fOi)
    (GI : FnR P w_ K mg base CX0 1 fOi (fun vs H Q E => ∃ xs rest, vs = xs ++ rest ∧ xs.length = (["self", "tray"] : List Str).length ∧ rest.length ≤ sizeLine ∧ ∀ p, H p = Option.none → spOi K C D O (xs ++ [V.ref p]) (upd H p (.tup rest)) Q E))
    (BM : BMeth K O "see_marble" fOm) (GM : FnRn n P w_ K mg base CX0 9 fOm (spOm K C D O)) (BR : BMeth K O "see_row" fOr) (GR : FnRn n P w_ K mg base CX0 8 fOr (spOr K C D O)) : FnRn n P w_ K mg base CX0 10 f (spFg K C D O) := by
  refine fn_n F b scFg (fun vs H Q E h => ?_) fun cdv A outer s H vs Q E hr h => ?_
  · obtain ⟨ta, wl, ol, h, w, ws, os, g, ts, obs, rfl, _⟩ := h
    rfl
  · obtain ⟨ta, wl, ol, h, w, ws, os, g, ts, obs, rfl, tr, hV, hwl, wd, t1, t60, hol, ob, ob1000, obk, obn, k⟩ := h
    have nd := scFg.nd
    have r8 := hr.mono (show 8 ≤ 9 by decide)
    have r2 := hr.mono (show 2 ≤ 9 by decide)
    have lw : ws.length = ts.length := Paired.length wd
    have lo : os.length = obs.length := Paired.length ob
    refine ⟨_, pssn_cut (PS.up (ps_set (i := 4) nd rfl (.inl rfl) (pe_makeVS MI GI r2 (pv 0) pass0 (pa_cons (pv 1) (StX.pa_star (pv 2) pa_nil)))))
      (pssn_cut (psn_for PassesOwn.never rfl (pi_list (pv 3)) (pg_star rfl (pgs_cons (pg_name (i := 5) nd rfl (.inl rfl)) (pgs_cons (pg_name (i := 6) nd rfl (.inl rfl)) pgs_nil)))
        (pssn_one (psn_if (PT.up (pt_cmpR op_eq (pv 5) pe_str (nomark _))) (pssn_one (psn_expr (pen_methS (pv 4) CO.cl BM GM hr pass0 (pv 6)))) (pssn_one (psn_expr (pen_methS (pv 4) CO.cl BR GR r8 pass0 (pv 6)))))))
      (pssn_one (PS.up (ps_ret (pv 4))))), ?_⟩
    refine ⟨fun σ H1 => ∃ p, σ = [some (.ref O), some (.ref ta), some (.ref wl), some (.ref ol), some (.ref p), none, none] ∧ ObsAt K C D O H1 p g w ts (List.range ts.length) [] ∧ Same H H1 ∧ H p = none, ?_, ?_⟩
    · refine ⟨_, rfl, rfl, _, rfl, _, rfl, wl, _, rfl, .inr hwl, fun x dx nx ndx nex => ?_⟩
      refine ⟨[.ref x, .ref ta], ws.map V.ref, by simp, rfl, ?_, fun p hp => ?_⟩
      · rw [List.length_map, lw]
        show _ ≤ 16777216
        omega
      have s1 : Same H (upd (upd H dx (.own x)) x (.ins O dx [])) := fun c o e => by
        rw [upd_ne (ne_of_none e nx), upd_ne (ne_of_none e ndx)]
        exact e
      have s2 := s1.trans (same_new (o := .tup (ws.map V.ref)) hp)
      have px : p ≠ x := fun z => by rw [z, upd_same] at hp; cases hp
      have hx2 : upd (upd (upd H dx (.own x)) x (.ins O dx [])) p (.tup (ws.map V.ref)) x = some (.ins O dx []) := by
        rw [upd_ne px.symm, upd_same]
      refine ⟨x, dx, ta, p, w, ws, g, ts, rfl, hx2, tr.same s2, upd_same, Paired.mapP wd fun a t z => z.same s2, t1, t60, fun H2 I2 b2 => ⟨rfl, x, rfl, I2, fun c o e => b2 _ _ (s2 _ _ e) (ne_of_none e nx), nx⟩⟩
    rintro σ H1 ⟨p, rfl, I1, s1, fp⟩
    refine ⟨fun σ H2 => ∃ v5 v6, σ = [some (.ref O), some (.ref ta), some (.ref wl), some (.ref ol), some (.ref p), v5, v6] ∧ ObsAt K C D O H2 p g w ts (runO h w g ts obs (List.range ts.length)) obs ∧ Same H H2, ?_, ?_⟩
    · refine ⟨_, rfl, ol, rfl, ⟨_, s1.seq hol⟩, for_list (K := K) (a := ol) (xs := os.map V.ref) (fun i σ H2 => ∃ v5 v6, σ = [some (.ref O), some (.ref ta), some (.ref wl), some (.ref ol), some (.ref p), v5, v6] ∧ ObsAt K C D O H2 p g w ts (runO h w g ts (obs.take i) (List.range ts.length)) (obs.take i) ∧ Same H H2)
        ⟨none, none, rfl, I1, s1⟩ (fun i σ H2 _ ⟨_, _, _, _, s⟩ => s.seq hol) ?_ ?_⟩
      · rintro i x σ H2 hx ⟨v5, v6, rfl, I2, s2⟩
        obtain ⟨a, ha, rfl⟩ := at_map hx
        have hi := (List.getElem?_eq_some_iff.mp ha).1
        rw [lo] at hi
        have hoi : obs[i]? = some obs[i] := List.getElem?_eq_getElem hi
        have tki : obs.take (i + 1) = obs.take i ++ [obs[i]] := by rw [List.take_succ, hoi]; rfl
        have mo := List.mem_of_getElem? hoi
        have ok := obk _ mo
        have ne := obn (i + 1) hi
        rw [tki] at ne
        unfold runO at ne
        rw [List.foldl_append] at ne
        obtain ⟨a', ha', hoa⟩ := paired_at ob i _ hoi
        rw [ha] at ha'
        cases ha'
        have hcs : ∀ c ∈ runO h w g ts (obs.take i) (List.range ts.length), c < ts.length := fun c hc => List.mem_range.mp (runO_sub c hc)
        have lcs : (runO h w g ts (obs.take i) (List.range ts.length)).length ≤ 1000 := by
          have := runO_len (h := h) (w := w) (g := g) (ts := ts) (obs := obs.take i) (cs := List.range ts.length)
          rw [List.length_range] at this
          omega
        have lob : (obs.take i).length ≤ 1000 := by rw [List.length_take]; omega
        rw [tki]
        unfold runO at hcs lcs I2 ⊢
        rw [List.foldl_append]
        generalize obs[i] = o at hoi ok ne hoa ⊢
        generalize hCS : (obs.take i).foldl (fun cs o => remO h w g ts cs o) (List.range ts.length) = cs at hcs lcs ne I2 ⊢
        have fin : ∀ {H4 H3 : Hp}, Same H H4 → But p H4 H3 → Same H H3 := fun s b c o e => b _ _ (s _ _ e) (ne_of_none e fp)
        cases o with
        | mb N m kk =>
          obtain ⟨q, ha1, hq⟩ := hoa
          refine ⟨a, _, _, rfl, SqT.of (s2 _ _ ha1), fun l hl => ?_⟩
          have sl := same_new (o := .lst [.int (N : Nat), sg m, .ref q]) hl
          have el : upd H2 l (.lst [.int (N : Nat), sg m, .ref q]) l = some (.lst [.int (N : Nat), sg m, .ref q]) := upd_same
          have I3 := I2.same sl
          have hq3 := sl _ _ (s2 _ _ hq)
          have s3 := s2.trans sl
          generalize upd H2 l (.lst [.int (N : Nat), sg m, .ref q]) = H3 at el I3 hq3 s3
          obtain ⟨dx, t_, w_, c_, o_, ws_, os_, I3'⟩ := id I3
          refine ⟨_, _, rfl, _, _, rfl, rfl, _, rfl, rfl, _, rfl, ?_⟩
          refine iteT ⟨_, rfl, p, dx, _, rfl, I3'.hp, rfl, fun m_ hm_ => ?_⟩
          have s4 := same_new (o := .met fOm p) hm_
          refine ⟨_, rfl, l, _, rfl, .inr (SqL.of (s4 _ _ el)), upd_same, ?_⟩
          exact ⟨p, h, w, N, m, kk, q, g, ts, cs, obs.take i, rfl, I3.same s4, hV, ok.1, ok.2.1, s4 _ _ hq3, ok.2.2, hcs, lcs, ne, lob, fun H5 I5 b5 => ⟨_, _, rfl, I5, fin (s3.trans s4) b5⟩⟩
        | rw N r u =>
          refine ⟨a, _, _, rfl, SqT.of (s2 _ _ hoa), fun l hl => ?_⟩
          have sl := same_new (o := .lst [.int (N : Nat), .int (r : Nat), .str (S u)]) hl
          have el : upd H2 l (.lst [.int (N : Nat), .int (r : Nat), .str (S u)]) l = some (.lst [.int (N : Nat), .int (r : Nat), .str (S u)]) := upd_same
          have I3 := I2.same sl
          have s3 := s2.trans sl
          generalize upd H2 l (.lst [.int (N : Nat), .int (r : Nat), .str (S u)]) = H3 at el I3 s3
          obtain ⟨dx, t_, w_, c_, o_, ws_, os_, I3'⟩ := id I3
          refine ⟨_, _, rfl, _, _, rfl, rfl, _, rfl, rfl, _, rfl, ?_⟩
          refine iteF ⟨_, rfl, p, dx, _, rfl, I3'.hp, rfl, fun m_ hm_ => ?_⟩
          have s4 := same_new (o := .met fOr p) hm_
          refine ⟨_, rfl, l, _, rfl, .inr (SqL.of (s4 _ _ el)), upd_same, ?_⟩
          exact ⟨p, h, w, N, r, u, g, ts, cs, obs.take i, rfl, I3.same s4, hV, ok.1, ok.2.1, hcs, lcs, ne, lob, fun H5 I5 b5 => ⟨_, _, rfl, I5, fin (s3.trans s4) b5⟩⟩
      · rintro σ H2 ⟨v5, v6, rfl, I2, s2⟩
        rw [List.length_map, lo, List.take_length] at I2
        exact ⟨v5, v6, rfl, I2, s2⟩
    rintro σ H2 ⟨v5, v6, rfl, I2, s2⟩
    exact ⟨_, rfl, k H2 p I2 s2⟩
end
end TR
end
section
set_option Elab.async false
set_option maxRecDepth 100000
set_option linter.all false
namespace TM
open PySem PySem.Spec PyProof.Rows L2 TK
section
variable {α : Type} [DecidableEq α]
def ddS (l : List α) (x : α) : List α := if x ∈ l then l else l ++ [x]
def dd (l : List α) : List α := l.foldl ddS []
theorem dd_snoc (l : List α) (x : α) : dd (l ++ [x]) = ddS (dd l) x := by
  unfold dd
  rw [List.foldl_append]
  rfl
theorem mem_ddS {l : List α} {x y : α} : y ∈ ddS l x ↔ y ∈ l ∨ y = x := by
  unfold ddS
  split
  · rename_i h
    exact ⟨.inl, fun z => z.elim id fun e => by rw [e]; exact h⟩
  · rw [List.mem_append, List.mem_singleton]
theorem mem_dd {y : α} {l : List α} : y ∈ dd l ↔ y ∈ l := by
  have : ∀ (l acc : List α), y ∈ l.foldl ddS acc ↔ y ∈ acc ∨ y ∈ l := fun l => by
    induction l with
    | nil => intro acc; simp
    | cons a r ih =>
      intro acc
      rw [List.foldl_cons, ih, mem_ddS, List.mem_cons, or_assoc]
  unfold dd
  rw [this]
  simp
theorem nd_dd (l : List α) : (dd l).Nodup := by
  have : ∀ (l acc : List α), acc.Nodup → (l.foldl ddS acc).Nodup := fun l => by
    induction l with
    | nil => intro acc h; exact h
    | cons a r ih =>
      intro acc h
      refine ih _ ?_
      unfold ddS
      split
      · exact h
      · rename_i hn
        exact List.nodup_append.mpr ⟨h, (by simp), fun x hx y hy => by rw [List.mem_singleton.mp hy]; exact fun e => hn (e ▸ hx)⟩
  exact this l [] List.nodup_nil
theorem dd_head {x : α} {l : List α} : (dd (x :: l))[0]? = some x := by
  have : ∀ (l acc : List α), acc[0]? = some x → (l.foldl ddS acc)[0]? = some x := fun l => by
    induction l with
    | nil => intro acc h; exact h
    | cons a r ih =>
      intro acc h
      refine ih _ ?_
      unfold ddS
      split
      · exact h
      · have : 0 < acc.length := by
          rcases Nat.eq_zero_or_pos acc.length with z | z
          · rw [List.eq_nil_of_length_eq_zero z] at h
            cases h
          · exact z
        rw [List.getElem?_append_left this]
        exact h
  unfold dd
  rw [List.foldl_cons]
  refine this _ _ ?_
  unfold ddS
  rw [if_neg (by simp)]
  rfl
theorem dd_len (l : List α) : (dd l).length ≤ l.length := by
  have : ∀ (l acc : List α), (l.foldl ddS acc).length ≤ acc.length + l.length := fun l => by
    induction l with
    | nil => intro acc; simp
    | cons a r ih =>
      intro acc
      have := ih (ddS acc a)
      have h2 : (ddS acc a).length ≤ acc.length + 1 := by
        unfold ddS
        split
        · omega
        · simp
      rw [List.foldl_cons, List.length_cons]
      omega
  have := this l []
  simpa [dd] using this
theorem nd_len {l1 l2 : List α} (h1 : l1.Nodup) (h2 : l2.Nodup) (h : ∀ x, x ∈ l1 ↔ x ∈ l2) : l1.length = l2.length :=
  Nat.le_antisymm (List.Nodup.length_le_of_subset h1 fun x hx => (h x).mp hx) (List.Nodup.length_le_of_subset h2 fun x hx => (h x).mpr hx)
end
/-- rows as a dict's key -/
def keyG (g : Grid) : List Key := g.map fun r => Sum.inr (S r)
theorem keyG_V (g : Grid) : (keyG g).map kV = TK.rowV g := by
  unfold keyG TK.rowV
  rw [List.map_map]
  rfl
theorem keyG_inj {g g' : Grid} (h : keyG g = keyG g') : g = g' := by
  unfold keyG at h
  induction g generalizing g' with
  | nil =>
    cases g' with
    | nil => rfl
    | cons b r => cases h
  | cons a r ih =>
    cases g' with
    | nil => cases h
    | cons b r' =>
      rw [List.map_cons, List.map_cons] at h
      injection h with h1 h2
      injection h1 with h1
      rw [S_inj h1, ih h2]
end TM
end
section
set_option Elab.async false
set_option maxRecDepth 100000
set_option linter.all false
namespace TR
open PySem PySem.Spec PyProof.Rows L2 TH TM
abbrev RelQ : List (List Key × Addr × V) → List (List Key × Addr × Value) → Prop := Paired fun p q => p.1 = q.1 ∧ p.2.1 = q.2.1 ∧ RelV p.2.2 q.2.2
def DictQ (P : Program) (w : World) (a : Addr) (L : List (List Key × Addr × V)) : HO := .ext fun h => L.length ≤ sizeLine ∧ (a == sysModules) = false ∧ ∃ xs : List (List Key × Addr × Value), RelQ L xs ∧
  ∃ o es ep, h.get? a = some o ∧ o.ExactDict ∧ o.data = .dict es ep ∧ es.toList = xs.map (entryOfKey (tupleKind (mixKind P w))) ∧ (xs.map (·.1)).Nodup
def KeyQ (K : PySem.W.Frag) (H : Hp) (L : List (List Key × Addr × V)) : Prop := ∀ p ∈ L, SqT K H p.2.1 (p.1.map kV)
def putQ (L : List (List Key × Addr × V)) (k : List Key) (b : Addr) (z : V) : List (List Key × Addr × V) :=
  if (L.any fun p => decide (p.1 = k)) = true then L.map (fun p => if p.1 = k then (p.1, p.2.1, z) else p) else L ++ [(k, b, z)]
theorem putQ_len (L : List (List Key × Addr × V)) (k : List Key) (b : Addr) (z : V) : (putQ L k b z).length ≤ L.length + 1 := by
  unfold putQ
  split
  · rw [List.length_map]
    omega
  · rw [List.length_append]
    exact Nat.le_refl _
theorem RelQ.put {L : List (List Key × Addr × V)} {xs : List (List Key × Addr × Value)} (r : RelQ L xs) (k : List Key) {b : Addr} {z : V} {u : Value} (rz : RelV z u) : RelQ (putQ L k b z) (storedH xs k b u) := by
  have e : (L.any fun p => decide (p.1 = k)) = (atKey xs k).isSome := by
    induction r with
    | nil => rfl
    | cons h t ih =>
      rename_i a q l m
      rw [List.any_cons, ih, h.1]
      unfold atKey
      rw [List.find?_cons]
      by_cases z : q.1 = k
      · simp [z]
      · simp [z]
  unfold putQ storedH
  rw [e]
  by_cases q : (atKey xs k).isSome = true
  · rw [if_pos q, if_pos q]
    clear e q
    induction r with
    | nil => exact .nil
    | cons h t ih =>
      rename_i a q l m
      refine .cons ?_ ih
      unfold putAt
      by_cases e : a.1 = k
      · simp only [if_pos e, if_pos (h.1.symm.trans e)]
        exact ⟨h.1, h.2.1, rz⟩
      · have e2 : ¬ q.1 = k := fun z => e (h.1.trans z)
        simp only [if_neg e, if_neg e2]
        exact h
  · rw [if_neg q, if_neg q]
    exact Paired.snoc r ⟨rfl, rfl, rz⟩
theorem dictQ_ok {P : Program} {w : World} {H : Hp} {h : Heap} {a : Addr} {L : List (List Key × Addr × V)} {xs : List (List Key × Addr × Value)} {o : Obj} {es ep} (h1 : L.length ≤ sizeLine) (h2 : (a == sysModules) = false) (r : RelQ L xs)
    (ho : h.get? a = some o) (hx : o.ExactDict) (hd : o.data = .dict es ep) (he : es.toList = xs.map (entryOfKey (tupleKind (mixKind P w)))) (hn : (xs.map (·.1)).Nodup) : ObjOk P w H h a (DictQ P w a L) :=
  ⟨⟨h1, h2, xs, r, o, es, ep, ho, hx, hd, he, hn⟩, ⟨o, ho⟩, fun g1 g2 p k => by
    obtain ⟨a1, a2, ys, a3, o', es', ep', a4, a5⟩ := p
    exact ⟨a1, a2, ys, a3, o', es', ep', k o' a4, a5⟩⟩
theorem dictQ_new {P : Program} {w : World} {H : Hp} (h : Heap) (hb : sysModules < h.objs.size) : ObjOk P w H (h.push { cls := .type "dict", data := .dict #[] }) h.objs.size (DictQ P w h.objs.size []) :=
  dictQ_ok (Nat.zero_le _) (beq_eq_false_iff_ne.mpr (Ne.symm (Nat.ne_of_lt hb))) .nil (Heap.get?_push_size _ rfl) ⟨rfl, rfl, rfl⟩ rfl rfl List.nodup_nil
theorem dictQ_of {X : Cx} {pins : List (Addr × Obj)} {σ : L2.St} {H : Hp} {s : Shared} {D : Addr} {L : List (List Key × Addr × V)} (I : Inv X pins σ H s) (hD : H D = some (DictQ X.prog X.w D L)) (hL : KeyQ X.K H L) :
    L.length ≤ sizeLine ∧ (D == sysModules) = false ∧ ∃ xs, RelQ L xs ∧ s.heap.DictOfH (tupleKind (mixKind X.prog X.w)) D xs := by
  obtain ⟨a1, a2, xs, r, o, es, ep, ho, hx, hd, he, hn⟩ := (show ObjOk X.prog X.w H s.heap D (DictQ X.prog X.w D L) from I.hok D _ hD).1
  refine ⟨a1, a2, xs, r, o, es, ep, ho, hx, hd, he, fun x hm => ?_, hn⟩
  have all : ∀ {L : List (List Key × Addr × V)} {xs : List (List Key × Addr × Value)}, RelQ L xs → KeyQ X.K H L → ∀ x ∈ xs, (tupleKind (mixKind X.prog X.w)).is s.heap x.1 x.2.1 := by
    intro L xs r hL
    induction r with
    | nil => intro x hx; cases hx
    | cons h t ih =>
      intro x hx
      rcases List.mem_cons.mp hx with e | hx
      · subst e
        have := tup_at I (hL _ List.mem_cons_self)
        rw [h.1, h.2.1] at this
        exact this
      · exact ih (fun p hp => hL p (List.mem_cons_of_mem _ hp)) x hx
  exact all r hL x hm
theorem put_Q {X : Cx} {pins : List (Addr × Obj)} {σ : L2.St} {H : Hp} {s : Shared} {E : Value → Shared → Prop} {D b : Addr} {L : List (List Key × Addr × V)} {k : List Key} {z : V} {r : Value} {Q : Unit → Shared → Prop}
    (hu : X.A.units + 1 < cLine) (I : Inv X pins σ H s) (hD : H D = some (DictQ X.prog X.w D L)) (hL : KeyQ X.K H L) (hb : SqT X.K H b (k.map kV)) (hz : L.length < sizeLine) (rz : RelV z r)
    (h : ∀ s', Inv X pins σ (upd H D (DictQ X.prog X.w D (putQ L k b z))) s' → Q () s') : wpAny (model X.prog X.w) X.A (dictSet D (.ref b) r) Q E s := by
  obtain ⟨_, nsys, xs, rel, dd⟩ := dictQ_of I hD hL
  have hxs : xs.length ≤ sizeLine := by
    rw [← Paired.length rel]
    omega
  have hnew : (putQ L k b z).length ≤ sizeLine := Nat.le_trans (putQ_len L k b z) hz
  refine wpAny_dictSet_heap (hsz := hxs) (Nat.lt_of_succ_lt hu) (tup_at I hb) dd fun hp ddp same => h _ ?_
  obtain ⟨ob, es, ep, g1, g2, g3, g4, _, g5⟩ := ddp
  exact d_write I (by rw [hD]; exact True.intro) same ⟨ob, g1⟩ (dictQ_ok hnew nsys (rel.put k rz) g1 g2 g3 g4 g5)
section
variable {X : Cx}
/-- what a turn asks: nothing is left out -/
abbrev DcQW (K : PySem.W.Frag) (P : Program) (w_ : World) (g : TG) (tk tv : TE) (vs : List Nat) (σ : L2.St) (J : It) (D : Addr) (W : Nat → Nat → Hp → Prop) (Qd : Hp → Prop) : Prop := ∀ i m H, W i m H →
  (J.stop i H ∧ Qd H) ∨ (J.go i H ∧ ∃ Nx : Hp → Prop, (∀ H', Nx H' → ∃ m', m' < m ∧ W (i + 1) m' H') ∧ ∀ x H', J.yld i H x H' → g x (wipe σ vs) H' fun σ2 H2 => wipe σ2 vs = wipe σ vs ∧
    tk σ2 H2 fun y H4 => tv σ2 H4 fun z H5 => ∃ L k b, y = .ref b ∧ SqT K H5 b (k.map kV) ∧ H5 D = some (DictQ P w_ D L) ∧ KeyQ K H5 L ∧ L.length < sizeLine ∧ Nx (upd H5 D (DictQ P w_ D (putQ L k b z))))
def tDcQ (K : PySem.W.Frag) (P : Program) (w_ : World) (wi : TI) (g : TG) (tk tv : TE) (vs : List Nat) : TE := fun σ H Q => wi σ H fun J H1 => ∀ D, H1 D = none → ∃ W : Nat → Nat → Hp → Prop, (∃ m, W 0 m (upd H1 D (DictQ P w_ D []))) ∧ DcQW K P w_ g tk tv vs σ J D W (Q (.ref D))
/-- the loop in the block's own context B -/
theorem dcQ_loop {B : Cx} {kx vx tg iter : Expr} {scope : Scope} {pos : Pos} {g : TG} {tk tv : TE} {vs : List Nat} {σ : L2.St} {J : It} {fp : List Addr} {it D : Addr} {tn : Nat → Heap → Prop} {W : Nat → Nat → Hp → Prop} {Qd : Hp → Prop} {R : Result → Shared → Prop} {H : Hp} {s : Shared} {m0 : Nat}
    (hu : B.A.units + 1 < cLine) (hx : ∀ b ∈ fp, b ∈ B.ex) (hpn : B.pn = []) (hxe : B.xe = fun _ _ => False) (hc : B.calm = true) (T : Turn B.prog B.w B.K tg J fp it tn) (pg : PG B tg g) (pk : PE B kx tk) (pe : PE B vx tv) (turn : DcQW B.K B.prog B.w g tk tv vs σ J D W Qd)
    (fin : ∀ H' s', Inv B [] (wipe σ vs) H' s' → Qd H' → R (.ok .next) s') (I : Inv B [] (wipe σ vs) H s) (st : tn 0 s.heap) (hf : ∀ b ∈ fp, H b = none) (w0 : W 0 m0 H) :
    codeAny (model B.prog B.w) B.A (.compLoop (.DictComp kx vx [⟨tg, iter, [], 0⟩] scope pos) 0 (.ref it) (.ref D) B.env) R s := by
  refine compLoop_anyD (fun m t => ∃ i H', Inv B [] (wipe σ vs) H' t ∧ tn i t.heap ∧ (∀ b ∈ fp, H' b = none) ∧ W i m H') ?_ m0 ⟨0, H, I, st, hf, w0⟩
  rintro m t ⟨i, H1, I1, st1, f1, w1⟩
  rcases turn i m H1 w1 with ⟨stop, qd⟩ | ⟨go, Nx, hNx, step⟩
  · refine thnF (T.done B rfl rfl rfl hc i [] t _ H1 (fun _ _ => False) I1 (blk_fp hx hpn I1 f1) st1 stop) fun r t2 ⟨e, I2⟩ => ?_
    rw [e]
    exact fin H1 t2 I2 qd
  · refine thnF (T.item B rfl rfl rfl hc i [] t _ H1 (fun _ _ => False) I1 (blk_fp hx hpn I1 f1) st1 go) fun r t2 ⟨u, e, more⟩ => ?_
    rw [e]
    refine thnF more fun _ t3 ⟨x, H3, I3, rx, y3, st3, f3⟩ => ?_
    have pinned := I3.pinned (blk_fp hx hpn I3 f3) (T.obj _ _ st3)
    have h4 := pg.run _ t3 _ H3 x u _ pinned rx (step x H3 y3)
    rw [hxe] at h4
    refine thnF h4 fun _ t4 ⟨σ4, H4, I4, w4, q4⟩ => ?_
    refine wpAny_tests_nil ?_
    have h5 := pk.run _ t4 σ4 H4 _ I4 q4
    rw [hxe] at h5
    show if true = true then _ else _
    rw [if_pos rfl]
    refine thnF h5 fun z t5 ⟨yk, H5, I5, r5, q5⟩ => ?_
    have h6 := pe.run _ t5 σ4 H5 _ I5 q5
    rw [hxe] at h6
    refine thnF h6 fun z2 t6 ⟨yv, H6, I6, r6, L, k, b, ek, hb, hD, hL, hz, nx⟩ => ?_
    subst ek
    obtain rfl : z = Value.ref b := r5
    refine put_Q hu I6 hD hL hb hz r6 fun t7 I7 => ?_
    obtain ⟨m', lt, w7⟩ := hNx _ nx
    obtain ⟨k1, k2, k3⟩ := blk_turn T st3 w4 I7
    exact ⟨m', lt, i + 1, _, k1, k2, k3, w7⟩
theorem dcQ_core {pins : List (Addr × Obj)} {s : Shared} {σ : L2.St} {H : Hp} {Q : VK} {kx vx tg iter : Expr} {scope : Scope} {own : List (Str × Nat)} {pos pos' : Pos} {wi : TI} {g : TG} {tk tv : TE} {use : Option (Value → Sem Unit)} {Qf : Value → Shared → Prop}
    (hu : X.A.units + 1 < cLine) (hc : X.calm = true) (hN : X.N.Nodup) (I : Inv X pins σ H s) (hi : PI X tg iter wi) (ok : BlkOk X.N X.env.scope scope own)
    (hg : ∀ (s : Shared) (H : Hp) (C : Addr) (cl : List (Str × Addr)) (fp : List Addr), PG (X.blk s H scope (compEnvC scope cl C X.env) fp) tg g)
    (hk : ∀ (s : Shared) (H : Hp) (C : Addr) (cl : List (Str × Addr)) (fp : List Addr), PE (X.blk s H scope (compEnvC scope cl C X.env) fp) kx tk)
    (he : ∀ (s : Shared) (H : Hp) (C : Addr) (cl : List (Str × Addr)) (fp : List Addr), PE (X.blk s H scope (compEnvC scope cl C X.env) fp) vx tv) (hs : ∀ x, foldedSetIterable iter X.env x = pure x)
    (h : tDcQ X.K X.prog X.w wi g tk tv (own.map (·.2)) σ H Q)
    (hRR : ∀ D C s' m H', Inv X pins σ H' s' → Q (.ref D) H' → s'.heap.Ns C m → FpOk X pins H' C → compPost (model X.prog X.w) X.A X.xe use Qf (.ref D) C (.ok .next) s') :
    wpAny (model X.prog X.w) X.A (comprehension (.DictComp kx vx [⟨tg, iter, [], 0⟩] scope pos) scope X.env pos' newDict false (eval iter X.env) use) Qf X.xe s := by
  have known : ∀ y ∈ scope.names, y.2 = .free → ∃ c, X.env.cells.lookup y.1 = some c := fun y hy e => (ok.free y hy e).elim (fun k => I.ok.has _ (.inl k)) fun k => I.ok.has _ (.inr k)
  refine wpAny_comprehension_free (use := use) rfl hs (closure_ok known) ok.kind (fun y hy e => by rw [ok.uniq y hy, e]) ?_
  refine thn (hi.run pins s σ H _ I h) fun xv s1 hx => thn hx fun itv s2 h2 => ?_
  obtain ⟨it, fp, tn, J, H2, rfl, I2, T, st2, f2, q⟩ := h2
  refine wpAny_newObj_type (newEnv_comp ?_)
  have free2 : H2 s2.heap.objs.size = none := I2.hok.fresh (Nat.le_refl _)
  have below : ∀ b ∈ fp, b < s2.heap.objs.size := fun b hb => by
    obtain ⟨o, e, _⟩ := T.obj _ _ st2 b hb
    exact Heap.lt_size e
  have laid3 : Inv X pins σ (upd H2 s2.heap.objs.size (DictQ X.prog X.w s2.heap.objs.size [])) { s2 with heap := s2.heap.push { cls := .type "dict", data := .dict #[] } } :=
    I2.laid (t' := s2.toks) (fun b o e => Heap.get?_push_of_some _ e) (Nat.le_refl _) (dictQ_new s2.heap I2.big)
  have st3 : tn 0 (s2.heap.push { cls := .type "dict", data := .dict #[] }) := T.keep _ _ _ st2 fun b _ o e => Heap.get?_push_of_some _ e
  obtain ⟨W, ⟨m0, w0⟩, turn⟩ := q _ free2
  generalize hD : s2.heap.objs.size = D at free2 below laid3 turn w0 ⊢
  generalize hH3 : upd H2 D (DictQ X.prog X.w D []) = H3 at laid3 w0
  have f3 : ∀ b ∈ fp, FpOk X pins H3 b ∧ b < ({ s2 with heap := s2.heap.push { cls := .type "dict", data := .dict #[] } } : Shared).heap.objs.size := fun b hb => by
    have lt := below b hb
    refine ⟨⟨?_, (f2 b hb).2⟩, ?_⟩
    · rw [← hH3, upd_ne (Nat.ne_of_lt lt)]
      exact (f2 b hb).1
    · show b < (s2.heap.push _).objs.size
      rw [Heap.size_push, hD]
      exact Nat.lt_succ_of_lt lt
  generalize hs3 : ({ s2 with heap := s2.heap.push { cls := .type "dict", data := .dict #[] } } : Shared) = s3 at laid3 f3
  have h3 : s2.heap.push { cls := .type "dict", data := .dict #[] } = s3.heap := by rw [← hs3]
  rw [h3] at st3
  have I4 := block_start laid3 ok hN f3
  have st4 : tn 0 (pushCells (s3.heap.push { cls := .type "dict", data := .dict #[] }) scope.names) := T.keep _ _ _ st3 fun b _ o e => pushCells_keeps _ _ _ _ (Heap.get?_push_of_some _ e)
  show codeAny _ _ (.compStart (.DictComp kx vx [⟨tg, iter, [], 0⟩] scope pos) 0 (.ref it) (.ref D) (blkE X scope s3)) (compPost (model X.prog X.w) X.A X.xe use Qf (.ref D) s3.heap.objs.size) { s3 with heap := pushCells (s3.heap.push { cls := .type "dict", data := .dict #[] }) scope.names }
  have loop : codeAny (model X.prog X.w) X.A (.compLoop (.DictComp kx vx [⟨tg, iter, [], 0⟩] scope pos) 0 (.ref it) (.ref D) (blkE X scope s3)) (compPost (model X.prog X.w) X.A X.xe use Qf (.ref D) s3.heap.objs.size) { s3 with heap := pushCells (s3.heap.push { cls := .type "dict", data := .dict #[] }) scope.names } := by
    refine dcQ_loop (B := X.blk s3 H3 scope (blkE X scope s3) fp) (J := J) (Qd := Q (.ref D)) (W := W) (vs := own.map (·.2)) (σ := σ) hu (fun b hb => hb) rfl rfl hc T (hg _ _ _ _ _) (hk _ _ _ _ _) (he _ _ _ _ _) turn ?_ I4 st4 (fun b hb => (f3 b hb).1.1) w0
    intro H' s' J' qd
    have back : Inv X pins σ H' s' := laid3.call' (ch := fp) J'.os J'.base J'.hok J'.bare fun b hb => ⟨(f3 b hb).1.2.2.2.1, (f3 b hb).1.2.1, (f3 b hb).1.2.2.2.2.1, (f3 b hb).1.2.2.2.2.2⟩
    obtain ⟨m, hm, _⟩ := J'.loc
    exact hRR D s3.heap.objs.size s' m H' back qd hm (laid3.fpOk (Nat.le_refl _) J'.free)
  exact codeAny_compStart_dict loop (T.self X.A 0 _ _ _ st4 loop)
/-- over a text -/
theorem dcQ_it {K : PySem.W.Frag} {P : Program} {w_ : World} {J : It} {N : Nat} {G : Hp → Prop} {Y : Nat → Hp → V → Hp → Prop} {g : TG} {tk tv : TE} {vs : List Nat} {σ : L2.St} {H1 : Hp} {D : Addr} {Qd : Hp → Prop} (Wk : Walk J N G Y) (Pv : Nat → Hp → Prop) (h0 : Pv 0 (upd H1 D (DictQ P w_ D []))) (hl : ∀ i H, i ≤ N → Pv i H → G H)
    (hs : ∀ i x H H', i < N → Pv i H → Y i H x H' → g x (wipe σ vs) H' fun σ2 H2 => wipe σ2 vs = wipe σ vs ∧
      tk σ2 H2 fun y H4 => tv σ2 H4 fun z H5 => ∃ L k b, y = .ref b ∧ SqT K H5 b (k.map kV) ∧ H5 D = some (DictQ P w_ D L) ∧ KeyQ K H5 L ∧ L.length < sizeLine ∧ Pv (i + 1) (upd H5 D (DictQ P w_ D (putQ L k b z)))) (hd : ∀ H, Pv N H → Qd H) :
    ∃ W : Nat → Nat → Hp → Prop, (∃ m, W 0 m (upd H1 D (DictQ P w_ D []))) ∧ DcQW K P w_ g tk tv vs σ J D W Qd := by
  refine ⟨fun i m H => m = N - i ∧ i ≤ N ∧ Pv i H, ⟨N, by simp, Nat.zero_le _, h0⟩, ?_⟩
  rintro i m H ⟨rfl, hi, p⟩
  rcases Nat.lt_or_ge i N with q | q
  · refine .inr ⟨Wk.goes i H q (hl i H hi p), Pv (i + 1), fun H' p' => ⟨N - (i + 1), by omega, rfl, q, p'⟩, fun x H' y => ?_⟩
    exact hs i x H H' q p (Wk.yields i H x H' q (hl i H hi p) y)
  · have : i = N := by omega
    subst this
    exact .inl ⟨Wk.stops H (hl i H hi p), hd H p⟩
end

section
variable {X : Cx}
theorem sw_trueD {kx vx : Expr} {gs : List Comprehension} {scope : Scope} {pos py : Pos} {y : Str} {l : Nat} {env : Env} (hk : env.scope.kind = .function) (hy : env.scope.names.lookup y = some .local) (hl : (py.line == pos.line) = true)
    (ha : (scope.names.any fun (n, k) => n == y && (k == .local || k == .cell)) = false) : swapsWith (.DictComp kx vx gs scope pos) (some (.Name y py)) l env = pure true := by
  have ky : env.kindOf y = some .local := hy
  have hb : env.blockKind = .function := by unfold Env.blockKind; rw [hk]; rfl
  unfold swapsWith
  simp only [hb, ky, ha, Expr.pos, hl]
  rfl
/-- d = {..: ..}, the name then stored -/
theorem ps_setDcQ {i : Nat} {y : Str} {py : Pos} {kx vx tg iter : Expr} {scope : Scope} {own : List (Str × Nat)} {pos spos : Pos} {wi : TI} {g : TG} {tk tv : TE} (hu : X.A.units + 1 < cLine) (hc : X.calm = true) (hN : X.N.Nodup) (hy : X.N[i]? = some y) (hyl : X.env.scope.names.lookup y = some .local)
    (hsw : swapsWith (.DictComp kx vx [⟨tg, iter, [], 0⟩] scope pos) (some (.Name y py)) spos.line X.env = pure true) (hi : PI X tg iter wi) (ok : BlkOk X.N X.env.scope scope own)
    (hg : ∀ (s : Shared) (H : Hp) (C : Addr) (cl : List (Str × Addr)) (fp : List Addr), PG (X.blk s H scope (compEnvC scope cl C X.env) fp) tg g)
    (hk : ∀ (s : Shared) (H : Hp) (C : Addr) (cl : List (Str × Addr)) (fp : List Addr), PE (X.blk s H scope (compEnvC scope cl C X.env) fp) kx tk)
    (he : ∀ (s : Shared) (H : Hp) (C : Addr) (cl : List (Str × Addr)) (fp : List Addr), PE (X.blk s H scope (compEnvC scope cl C X.env) fp) vx tv) (hs : ∀ x, foldedSetIterable iter X.env x = pure x := by intro _; rfl) :
    PS X (.Assign [.Name y py] (.DictComp kx vx [⟨tg, iter, [], 0⟩] scope pos) spos) (tAsg (tDcQ X.K X.prog X.w wi g tk tv (own.map (·.2))) (gName i)) := by
  refine ⟨fun pins s σ H D I h => ?_⟩
  rw [exec_Assign_Name_used _ _ _ _ hsw]
  refine wpAny_bind (wpAny_standAt (wpAny_bind ?_))
  show wpAny _ X.A (do let _ ← comprehension (.DictComp kx vx [⟨tg, iter, [], 0⟩] scope pos) scope X.env (firstIterPos [⟨tg, iter, [], 0⟩] pos) newDict false (eval iter X.env) (some (assign (.Name y py) X.env))) _ _ s
  have h' : tDcQ X.K X.prog X.w wi g tk tv (own.map (·.2)) σ H (fun x H1 => gName i x σ H1 D.nx) := h
  refine wpAny_bind (thn (dcQ_core (Qf := fun _ s' => SP X pins D .next s') hu hc hN I hi ok hg hk he hs h' fun L C s' m H' I' q hns f => ?_) fun _ s' hq => wpAny_pure (wpAny_pure hq))
  show wpAny _ _ (assign (.Name y py) X.env (.ref L)) _ _ _
  refine wpAny_assign_Name (store_ok2 (v := V.ref L) I' hN hy (.inl hyl) rfl (fun s2 I2 ⟨a, sb, ha⟩ => ?_) (.inr hyl))
  obtain ⟨a0, a1, _, a3, a4, a5⟩ := f
  have haC : C ≠ a := ha.elim (fun z => by rw [z]; exact a1) fun z e => a4 y a z e.symm
  exact ⟨m, hns.sameBut sb haC, fun h3 sb3 => ⟨_, H', I2.turned (t' := s2.toks) (fun b o hb e => (sb3.2 b hb).trans e) a0 a1 a3 a4 a5, q⟩⟩
def rValuesQ (P : Program) (w : World) : V → List V → Hp → VK → Prop := fun x xs H Q => ∃ (a : Addr) (L : List (List Key × Addr × V)), x = .ref a ∧ xs = [] ∧ H a = some (DictQ P w a L) ∧ ∀ p, H p = none → Q (.ref p) (upd H p (valuesO p a))
theorem mt_valuesQ : MtR X "dict.values" (rValuesQ X.prog X.w) := by
  intro pins s σ H x xs v us Q I rx rxs h
  obtain ⟨a, L, rfl, rfl, ha, q⟩ := h
  cases rx
  cases rxs
  obtain ⟨_, hd, xs', rel, o, es, ep, ho, hx, hdat, _⟩ := (show ObjOk X.prog X.w H s.heap a (DictQ X.prog X.w a L) from I.hok a _ ha).1
  refine call_meetsIn F.slot_dict_values ⟨o, ho, hx.1⟩ F.entry_dict_values (F.args_dict_values_1 _) (PySem.meets_dict_values_raw a hd) ⟨⟨es, ep, o, ho, hx, hdat⟩, ?_⟩
  have hf : H s.heap.objs.size = none := I.hok.fresh (Nat.le_refl _)
  exact ⟨.ref s.heap.objs.size, upd H s.heap.objs.size (valuesO s.heap.objs.size a), I.laid (t' := s.toks) (fun b u e => Heap.get?_push_of_some _ e) (Nat.le_refl _) (valuesO_ok (Heap.get?_push_size _ rfl)), rfl, q _ hf⟩
/-- d.values() -/
def tValQ (P : Program) (w : World) (to : TE) : TE := fun σ H Q => to σ H fun x H1 => ∃ (a : Addr) (L : List (List Key × Addr × V)), x = .ref a ∧ H1 a = some (DictQ P w a L) ∧ ∀ p, H1 p = none → Q (.ref p) (upd H1 p (valuesO p a))
theorem pe_valQ {o : Expr} {to : TE} {apos cpos : Pos} (ho : PE X o to)
    (hbase : attributeBase o "values" X.env (eval o X.env) = eval o X.env := by rfl) (hline : (apos.endLine == cpos.line) = true := by rfl) : PE X (.Call (.Attribute o "values" apos) [] [] cpos) (tValQ X.prog X.w to) := by
  refine ⟨fun pins s σ H Q I h => ?_⟩
  refine wpAny_Call_method0_late hbase hline (thn (ho.run pins s σ H _ I h) fun v s1 ⟨x, H1, I1, r1, a, L, ex, ha, q1⟩ => ?_)
  subst ex
  obtain rfl : v = Value.ref a := r1
  obtain ⟨_, hd, xs', rel, ob, es, ep, hob, hx, hdat, _⟩ := (show ObjOk X.prog X.w H1 s1.heap a (DictQ X.prog X.w a L) from I1.hok a _ ha).1
  refine ⟨"dict", "dict.values", PySem.F.plainAttrs_dict, PySem.F.slot_dict_values, PySem.F.type_dict_values, ⟨ob, hob, hx.1⟩, fun b e => ?_, Calls.callWith_builtin rfl (PySem.evalArgs_none (mt_valuesQ pins s1 σ H1 (.ref a) [] (.ref a) [] Q I1 rfl .nil ⟨a, L, rfl, rfl, ha, q1⟩))⟩
  cases e
  exact ⟨ob, hob, hx.2.1⟩
theorem cr_listVQ (hc : X.calm = true) : CallR X (.type "list") (fun xs H Q => ∃ (p d : Addr) (L : List (List Key × Addr × V)), xs = [V.ref p] ∧ H p = some (valuesO p d) ∧ H d = some (DictQ X.prog X.w d L) ∧ ∀ l, H l = none → Q (.ref l) (upd H l (.lst (L.map (·.2.2))))) := by
  intro pins s σ H xs us Q I r h
  obtain ⟨p, d, L, rfl, hp, hd, q⟩ := h
  obtain ⟨u, rfl, rx⟩ := r.one
  cases rx
  have view : s.heap.IsValuesView p d := (show ObjOk X.prog X.w H s.heap p (valuesO p d) from I.hok p _ hp).1
  obtain ⟨z, hs, ks, pr, o, es, ep, ho, hx, hdt, he, hn⟩ := (show ObjOk X.prog X.w H s.heap d (DictQ X.prog X.w d L) from I.hok d _ hd).1
  have l1 : es.size = ks.length := size_of_entries he
  have l2 : L.length = ks.length := Paired.length pr
  refine PySem.W.kdl_call (KdlSrc.rawValues (es := es) (ep := ep)) (I.ok.hd hc) ⟨view, o, ho, hx, hdt⟩ (by omega) fun h' tk acc c kp hl it => ?_
  have la : acc.toList.length = L.length := by rw [Array.length_toList, it.1]; omega
  have rv : Vals (L.map (·.2.2)) acc.toList := vals_of_at (by rw [List.length_map, la]) fun j x v e1 e2 => by
    obtain ⟨hi, hv⟩ := it.2 j v (by rw [← Array.getElem?_toList]; exact e2)
    have qe := entry_at he j
    rw [Array.getElem?_eq_getElem hi] at qe
    obtain ⟨b, hb, eb⟩ := Option.map_eq_some_iff.mp qe.symm
    obtain ⟨y, hy, _, _, r3⟩ := paired_at pr j b hb
    rw [List.getElem?_map, hy] at e1
    cases e1
    rw [hv, ← eb]
    exact r3
  exact ⟨.ref s.heap.objs.size, upd H s.heap.objs.size (.lst (L.map (·.2.2))), I.laid (t' := tk) kp (Nat.le_refl _) (show ObjOk X.prog X.w _ _ _ (.lst (L.map (·.2.2))) from ⟨by rw [List.length_map]; omega, acc.toList, c, rv, by rw [Array.toArray_toList]; exact hl⟩), rfl, q _ (I.hok.fresh (Nat.le_refl _))⟩
end
end TR
end
section
set_option Elab.async false
set_option maxRecDepth 100000
set_option linter.all false
namespace TR
open PySem PySem.Spec PyProof.Rows L2 TM TX TK TB TP TH TU TW TI
theorem putQ_dd {Ra : Addr → Grid → Prop} {Rr : V → Grid → Prop} {L : List (List Key × Addr × V)} {l : List Grid} {b : Addr} {v : V} {g : Grid} (h : Paired (fun (p : List Key × Addr × V) x => p.1 = keyG x ∧ Ra p.2.1 x ∧ Rr p.2.2 x) L l) (ha : Ra b g) (hv : Rr v g) :
    Paired (fun (p : List Key × Addr × V) x => p.1 = keyG x ∧ Ra p.2.1 x ∧ Rr p.2.2 x) (putQ L (keyG g) b v) (ddS l g) := by
  have hany : (L.any fun p => decide (p.1 = keyG g)) = decide (g ∈ l) := by
    induction h with
    | nil => rfl
    | cons r t ih =>
      rename_i a c as bs
      rw [List.any_cons, ih]
      by_cases e : c = g
      · subst e
        rw [decide_eq_true r.1]
        simp
      · rw [decide_eq_false fun z => e (keyG_inj (r.1.symm.trans z)), Bool.false_or]
        have e2 : ¬ g = c := fun z => e z.symm
        exact decide_eq_decide.mpr ⟨fun z => List.mem_cons_of_mem _ z, fun z => (List.mem_cons.mp z).elim (fun q => absurd q e2) id⟩
  unfold putQ ddS
  rw [hany]
  by_cases hg : g ∈ l
  · rw [if_pos (by simpa using hg), if_pos hg]
    clear hany hg
    induction h with
    | nil => exact .nil
    | cons r t ih =>
      rename_i a c as bs
      refine .cons ?_ ih
      by_cases e : a.1 = keyG g
      · simp only [if_pos e]
        exact ⟨r.1, r.2.1, by rw [← keyG_inj (e.symm.trans r.1)]; exact hv⟩
      · simp only [if_neg e]
        exact r
  · rw [if_neg (by simpa using hg), if_neg hg]
    exact Paired.snoc h ⟨rfl, ha, hv⟩
theorem tray_upd {K : PySem.W.Frag} {D : Addr} {H : Hp} {D1 a : Addr} {x : Grid} {o u : HO} (t : TrayAt K D H a x) (h : H D1 = some o) (nt : ∀ u xs, o ≠ .frz u (.tup xs) ∧ o ≠ .tup xs) (ni : ∀ A e f, o ≠ .ins A e f) : TrayAt K D (upd H D1 u) a x := by
  obtain ⟨d1, a1, e1, e2⟩ := t
  refine ⟨d1, a1, ?_, TK.seq_but e2 h nt fun b o e ne => by rw [upd_ne ne]; exact e⟩
  rw [upd_ne fun z => by rw [z, h] at e1; exact ni _ _ _ (Option.some.inj e1)]
  exact e1
theorem seq_upd {K : PySem.W.Frag} {H : Hp} {D1 a : Addr} {xs : List V} {o u : HO} (t : SqT K H a xs) (h : H D1 = some o) (nt : ∀ u xs, o ≠ .frz u (.tup xs) ∧ o ≠ .tup xs) : SqT K (upd H D1 u) a xs :=
  TK.seq_but t h nt fun b o e ne => by rw [upd_ne ne]; exact e
theorem vals_of_pq {K : PySem.W.Frag} {D : Addr} {H : Hp} {Lq : List (List Key × Addr × V)} {gs : List Grid} (h : Paired (fun (q : List Key × Addr × V) x => q.1 = keyG x ∧ SqT K H q.2.1 (rowV x) ∧ ∃ a, q.2.2 = .ref a ∧ TrayAt K D H a x) Lq gs) : ∃ ps : List Addr, Lq.map (·.2.2) = ps.map V.ref ∧ Paired (fun a x => TrayAt K D H a x) ps gs := by
  induction h with
  | nil => exact ⟨[], rfl, .nil⟩
  | cons r t ih =>
    obtain ⟨ps, e, p⟩ := ih
    obtain ⟨_, _, a, ea, ta⟩ := r
    exact ⟨a :: ps, by rw [List.map_cons, List.map_cons, ea, e], .cons ta p⟩
theorem paired_mem {α β : Type} {R : α → β → Prop} {l : List α} {m : List β} (h : Paired R l m) : ∀ a ∈ l, ∃ b, R a b := by
  induction h with
  | nil => intro a ha; cases ha
  | cons r t ih =>
    intro a ha
    rcases List.mem_cons.mp ha with e | ha
    · exact ⟨_, e ▸ r⟩
    · exact ih a ha
section
variable {P : Program} {w_ : World} {K : PySem.W.Frag} {mg : Str → Option Value} {base : Heap} {C D O CP : Addr} {n : Nat}
/-- the tray by word c after N rounds -/
abbrev aftG (h w : Nat) (g : Grid) (ts : List (List Nat)) (N c : Nat) : Grid := rounds h w (ts.getD c []) N g
abbrev NTa : List Str := ["self", "rounds", "trays", "different", "number", "tray"]
theorem scTa : FnScope NTa ["self", "rounds"] (defScope sWordObserverTraysAfter) := ⟨rfl, rfl, rfl, by decide +kernel, rfl, by decide +kernel, by decide +kernel⟩
abbrev TraysL (K : PySem.W.Frag) (D : Addr) (H : Hp) (ps : List Addr) (gs : List Grid) : Prop := Paired (fun a x => TrayAt K D H a x) ps gs
def spTa (K : PySem.W.Frag) (C D O : Addr) : Sp := fun vs H Q _ => ∃ (p h w N : Nat) (g : Grid) (ts : List (List Nat)) (cs : List Nat) (obs : List Ob), vs = [.ref p, .int (N : Nat)] ∧ ObsAt K C D O H p g w ts cs obs ∧ VG h w g ∧ N ≤ 10 ^ 18 ∧
  (∀ c ∈ cs, c < ts.length) ∧ cs.length ≤ 1000 ∧ ∀ H' l ps, Same H H' → H l = none → H' l = some (.lst (ps.map V.ref)) → TraysL K D H' ps (dd (cs.map (aftG h w g ts N))) → Q (.ref l) H'
theorem ok_ta {f : Addr} {fd : FuncData} (F : Fun K "trays_after" "WordObserver.trays_after" sWordObserverTraysAfter f fd) (b : Binds K fd ["self", "rounds"] []) (L : SeeF P w_ K mg base n C D O CP) (mlst : mg "list" = none) : FnRn n P w_ K mg base CX0 8 f (spTa K C D O) := by
  obtain ⟨gCn, fdCn, GCn, kCn, bCn, mCn⟩ := L.fCn
  obtain ⟨gAr, GAr, kAr, mAr⟩ := L.fAr
  obtain ⟨pR, gR, fdR, PR, GR, bR⟩ := L.pRw
  have CO := L.co
  have CT := L.ct
  refine fn_n F b scTa (fun vs H Q E h => ?_) fun cdv A outer s H vs Q E hr h => ?_
  · obtain ⟨p, h, w, N, g, ts, cs, obs, rfl, _⟩ := h
    rfl
  · obtain ⟨p, h, w, N, g, ts, cs, obs, rfl, ⟨dx, ta, wa, ca, oa, ws, os, I⟩, hV, hN, hc, cs1000, k⟩ := h
    have nd := scTa.nd
    have r2 := hr.mono (show 2 ≤ 7 by decide)
    have r1 := hr.mono (show 1 ≤ 7 by decide)
    refine ⟨_, pssn_cut (PS.up (ps_expr (pe_call GCn r2 rfl mCn kCn bCn .nil pass0 (pa_cons (pv 1) (pa_cons (C8.pe_gc rfl L.mMR) pa_nil)))))
      (pssn_cut (psn_setLcF (i := 2) (own := [("number", 4)]) (g := gName 4) rfl nd rfl rfl (sw_true rfl rfl rfl (by decide +kernel)) (PI.up (pi_tup (pe_fld (pv 0) rfl))) (blkOk_by (N := NTa) (sc := defScope sWordObserverTraysAfter) (by decide +kernel)) (fun _ _ _ _ _ => pg_name (i := 4) nd rfl (.inl rfl))
        (fun _ _ _ _ _ => ptsn_nil)
        (fun _ _ _ _ _ => pen_call GAr hr rfl mAr kAr pass0 (pan_cons (PE.up (pe_fldK (K := K) (pv 0) rfl)) (pan_cons (PE.up (pe_ix (ix_tupK (K := K) rfl) (pe_fldK (K := K) (pv 0) rfl) (pv 4) (fun _ _ => rfl))) (pan_cons (PE.up (pv 1)) pan_nil)))))
      (pssn_cut (PS.up (ps_setDcQ (i := 3) (own := [("tray", 5)]) (g := gName 5) (hu_of hr) rfl nd rfl rfl (sw_trueD rfl rfl rfl (by decide +kernel)) (pi_list (pv 2)) (blkOk_by (N := NTa) (sc := defScope sWordObserverTraysAfter) (by decide +kernel)) (fun _ _ _ _ _ => pg_name (i := 5) nd rfl (.inl rfl))
        (fun _ _ _ _ _ => pe_prop (pv 5) CT.cl PR GR r2 bR .nil pass0 rfl) (fun _ _ _ _ _ => pv 5)))
      (pssn_one (PS.up (ps_ret (pe_callTy (cr_listVQ rfl) (by rfl) mlst (by decide +kernel) (pa_cons (pe_valQ (pv 3)) pa_nil))))))), ?_⟩
    refine ⟨fun σ H1 => σ = [some (.ref p), some (.int (N : Nat)), none, none, none, none] ∧ H1 = H, ?_, ?_⟩
    · exact ⟨_, rfl, N, 10 ^ 18, rfl, hN, rfl, rfl⟩
    rintro σ H1 ⟨rfl, rfl⟩
    refine ⟨fun σ H2 => ∃ l ps, σ = [some (.ref p), some (.int (N : Nat)), some (.ref l), none, none, none] ∧ Same H1 H2 ∧ H2 l = some (.lst (ps.map V.ref)) ∧ TraysL K D H2 ps (cs.map (aftG h w g ts N)), ?_, ?_⟩
    · refine ⟨_, rfl, p, O, dx, _, _, rfl, I.hp, CO.cl, CO.n3, rfl, ca, rfl, ⟨_, SqT.of I.ca_⟩, fun D1 hD1 => lc_tup (K := K) (a := ca) (xs := natV cs) (fun i H4 => ∃ ps, Same H1 H4 ∧ H4 D1 = some (.lst (ps.map V.ref)) ∧ TraysL K D H4 ps ((cs.take i).map (aftG h w g ts N)))
        ⟨[], same_new hD1, upd_same, .nil⟩ (fun i H4 _ ⟨_, s4, _⟩ => s4.tup (SqT.of I.ca_)) ?_ ?_⟩
      · rintro i x H4 hx ⟨ps, s4, hL, tl⟩
        obtain ⟨c, hcc, rfl⟩ := at_map hx
        have mc := List.mem_of_getElem? hcc
        have I4 := I.same s4
        have lt := hc c mc
        obtain ⟨aw, haw, W⟩ := paired_at I4.wd c (ts[c]) (List.getElem?_eq_getElem lt)
        have et : ts.getD c [] = ts[c] := by rw [List.getD_eq_getElem?_getD, List.getElem?_eq_getElem lt]; rfl
        refine ⟨rfl, _, rfl, p, O, dx, _, _, rfl, I4.hp, CO.cl, CO.n1, rfl, _, rfl, p, O, dx, _, _, rfl, I4.hp, CO.cl, CO.n2, rfl, _, rfl, wa, _, c, .ref aw, rfl, rfl, SqT.of I4.wa_, atI_nat (by rw [List.getElem?_map, haw]; rfl), _, rfl, ta, aw, h, w, N, g, ts[c], rfl, I4.tr, hV, W, hN, fun H5 r5 s5 t5 => ?_⟩
        have lps : ps.length = i := by
          have := Paired.length tl
          rw [List.length_map, List.length_take] at this
          have := (List.getElem?_eq_some_iff.mp hcc).1
          omega
        have hlt := (List.getElem?_eq_some_iff.mp hcc).1
        have sp : Same H1 (upd H5 D1 (.lst (ps.map V.ref ++ [V.ref r5]))) := same_put (s4.trans s5) hD1
        refine ⟨_, s5 _ _ hL, ?_, ps ++ [r5], sp, ?_, ?_⟩
        · rw [List.length_map, lps]
          show _ < 16777216
          omega
        · rw [upd_same, List.map_append]
          rfl
        · rw [List.take_succ, hcc, List.map_append]
          have up : ∀ {a : Addr} {x : Grid}, TrayAt K D H5 a x → TrayAt K D (upd H5 D1 (.lst (ps.map V.ref ++ [V.ref r5]))) a x := fun {a x} t => tray_upd t (s5 _ _ hL) (fun _ _ => ⟨by simp, by simp⟩) fun _ _ _ => by simp
          refine Paired.snoc (Paired.mapP tl fun a x t => up (t.same s5)) (up ?_)
          show TrayAt K D H5 r5 (rounds h w (ts.getD c []) N g)
          rw [et]
          exact t5
      · rintro H4 ⟨ps, s4, hL, tl⟩
        rw [List.length_map, List.take_length] at tl
        exact ⟨D1, ps, rfl, s4, hL, tl⟩
    rintro σ H2 ⟨l, ps, rfl, s2, hl, tl⟩
    refine ⟨fun σ H3 => ∃ d Lq, σ = [some (.ref p), some (.int (N : Nat)), some (.ref l), some (.ref d), none, none] ∧ Same H1 H3 ∧ H3 d = some (DictQ P w_ d Lq) ∧ Paired (fun (q : List Key × Addr × V) x => q.1 = keyG x ∧ SqT K H3 q.2.1 (rowV x) ∧ ∃ a, q.2.2 = .ref a ∧ TrayAt K D H3 a x) Lq (dd (cs.map (aftG h w g ts N))), ?_, ?_⟩
    · refine ⟨_, rfl, l, rfl, ⟨_, SqL.of hl⟩, fun D1 hD1 => dcQ_it (K := K) (P := P) (w_ := w_) (walk_list (K := K) (a := l) (xs := ps.map V.ref)) (fun i H4 => ∃ Lq, Same H2 H4 ∧ H4 D1 = some (DictQ P w_ D1 Lq) ∧ Paired (fun (q : List Key × Addr × V) x => q.1 = keyG x ∧ SqT K H4 q.2.1 (rowV x) ∧ ∃ a, q.2.2 = .ref a ∧ TrayAt K D H4 a x) Lq (dd ((cs.map (aftG h w g ts N)).take i)))
        ⟨[], same_new hD1, upd_same, .nil⟩ (fun i H4 _ ⟨_, s4, _⟩ => s4.seq (SqL.of hl)) ?_ ?_⟩
      · rintro i x H4 H5 hi ⟨Lq, s4, hd4, pq⟩ ⟨rfl, hx⟩
        obtain ⟨a, ha, rfl⟩ := at_map hx
        have hlen : ps.length = (cs.map (aftG h w g ts N)).length := Paired.length tl
        rw [List.length_map] at hi
        have hgi : (cs.map (aftG h w g ts N))[i]? = some (cs.map (aftG h w g ts N))[i] := List.getElem?_eq_getElem (by rw [← hlen]; exact hi)
        generalize (cs.map (aftG h w g ts N))[i] = x at hgi
        obtain ⟨a', ha', T0⟩ := paired_at tl i x hgi
        rw [ha] at ha'
        cases ha'
        have T4 := T0.same s4
        obtain ⟨d1, a1, e1, e2⟩ := id T4
        have lq : Lq.length ≤ 1000 := by
          rw [Paired.length pq]
          refine Nat.le_trans (dd_len _) ?_
          rw [List.length_take, List.length_map]
          omega
        refine ⟨rfl, _, rfl, a, d1, _, rfl, e1, a, d1, _, _, rfl, e1, rfl, _, rfl, Lq, keyG x, a1, rfl, ?_, hd4, ?_, ?_, putQ Lq (keyG x) a1 (.ref a), ?_, upd_same, ?_⟩
        · rw [keyG_V]
          exact e2
        · exact fun q hq => by
            obtain ⟨x', e1', e2', _⟩ := paired_mem pq q hq
            rw [e1', keyG_V]
            exact e2'
        · show _ < 16777216
          omega
        · exact same_put s4 hD1
        · rw [List.take_succ, hgi]
          show Paired _ _ (dd (_ ++ [x]))
          rw [dd_snoc]
          have nt : ∀ u xs, DictQ P w_ D1 Lq ≠ .frz u (.tup xs) ∧ DictQ P w_ D1 Lq ≠ .tup xs := fun _ _ => ⟨by unfold DictQ; simp, by unfold DictQ; simp⟩
          have ni : ∀ A e f, DictQ P w_ D1 Lq ≠ .ins A e f := fun _ _ _ => by unfold DictQ; simp
          have up1 : ∀ {b xs}, SqT K H5 b xs → SqT K (upd H5 D1 (DictQ P w_ D1 (putQ Lq (keyG x) a1 (V.ref a)))) b xs := fun t => seq_upd t hd4 nt
          have up2 : ∀ {b x'}, TrayAt K D H5 b x' → TrayAt K D (upd H5 D1 (DictQ P w_ D1 (putQ Lq (keyG x) a1 (V.ref a)))) b x' := fun t => tray_upd t hd4 nt ni
          generalize upd H5 D1 (DictQ P w_ D1 (putQ Lq (keyG x) a1 (V.ref a))) = H6 at up1 up2
          exact putQ_dd (Ra := fun b x => SqT K H6 b (rowV x)) (Rr := fun v x => ∃ a, v = V.ref a ∧ TrayAt K D H6 a x) (Paired.mapP pq fun q y ⟨z1, z2, c, z3, z4⟩ => ⟨z1, up1 z2, c, z3, up2 z4⟩) (up1 e2) ⟨a, rfl, up2 T4⟩
      · rintro H4 ⟨Lq, s4, hd4, pq⟩
        rw [List.length_map, Paired.length tl, List.take_length] at pq
        exact ⟨D1, Lq, rfl, s2.trans s4, hd4, pq⟩
    rintro σ H3 ⟨d, Lq, rfl, s3, hd3, pq⟩
    refine ⟨_, rfl, d, Lq, rfl, hd3, fun v hv => ⟨v, d, Lq, rfl, upd_same, (same_new hv) _ _ hd3, fun r hr_ => ?_⟩⟩
    have s5 := (same_new (o := valuesO v d) hv).trans (same_new (o := .lst (Lq.map (·.2.2))) hr_)
    obtain ⟨ps', ep, tp⟩ := vals_of_pq pq
    refine k _ r ps' (s3.trans s5) ?_ (by rw [upd_same, ep]) (Paired.mapP tp fun a x t => t.same s5)
    cases e : H1 r with
    | none => rfl
    | some x =>
      rw [(s3.trans (same_new (o := valuesO v d) hv)) _ _ e] at hr_
      cases hr_
end
end TR
end
section
set_option Elab.async false
set_option maxRecDepth 100000
set_option linter.all false
namespace TM
/-- the first of the rounds with most -/
def tellS (f : Nat → Nat) (p : Nat × Nat) (r : Nat) : Nat × Nat := if f r > p.2 then (r, f r) else p
def tellF (f : Nat → Nat) (n : Nat) : Nat × Nat := (List.range n).foldl (tellS f) (0, 0)
theorem tellF_succ (f : Nat → Nat) (n : Nat) : tellF f (n + 1) = tellS f (tellF f n) n := by
  unfold tellF
  rw [List.range_succ, List.foldl_append]
  rfl
theorem tell_spec (f : Nat → Nat) (pos : ∀ r, 1 ≤ f r) : ∀ n, 1 ≤ n → (tellF f n).1 < n ∧ f (tellF f n).1 = (tellF f n).2 ∧ (∀ r, r < n → f r ≤ (tellF f n).2) ∧ ∀ r, r < (tellF f n).1 → f r < (tellF f n).2 := by
  intro n hn
  induction n with
  | zero => omega
  | succ n ih =>
    rw [tellF_succ]
    rcases Nat.eq_zero_or_pos n with z | z
    · subst z
      have : tellF f 0 = (0, 0) := rfl
      rw [this]
      unfold tellS
      have := pos 0
      rw [if_pos (by show f 0 > 0; omega)]
      refine ⟨by omega, rfl, fun r hr => ?_, fun r hr => by omega⟩
      obtain rfl : r = 0 := by omega
      exact Nat.le_refl _
    · obtain ⟨i1, i2, i3, i4⟩ := ih z
      generalize tellF f n = p at i1 i2 i3 i4
      unfold tellS
      split
      · rename_i hg
        refine ⟨by show n < n + 1; omega, rfl, fun r hr => ?_, fun r hr => ?_⟩
        · rcases Nat.lt_or_ge r n with q | q
          · have := i3 r q
            show f r ≤ f n
            omega
          · obtain rfl : r = n := by omega
            exact Nat.le_refl _
        · have := i3 r hr
          show f r < f n
          omega
      · rename_i hg
        refine ⟨by omega, i2, fun r hr => ?_, i4⟩
        rcases Nat.lt_or_ge r n with q | q
        · exact i3 r q
        · obtain rfl : r = n := by omega
          omega
end TM
namespace TR
open PySem PySem.Spec PyProof.Rows L2 TM TX TK TB TP TH TU TW TI
/-- {tuple for x in xs}, item by item -/
theorem scq_it {J : It} {N : Nat} {G : Hp → Prop} {Y : Nat → Hp → V → Hp → Prop} {K : PySem.W.Frag} {P : Program} {w_ : World} {g : TG} {tt : TT} {te : TE} {vs : List Nat} {σ : L2.St} {H1 : Hp} {D : Addr} {Qd : Hp → Prop} (Wk : Walk J N G Y) (Pv : Nat → Hp → Prop) (h0 : Pv 0 (upd H1 D (SetO P w_ D []))) (hl : ∀ i H, i ≤ N → Pv i H → G H)
    (hs : ∀ i x H H', i < N → Pv i H → Y i H x H' → g x (wipe σ vs) H' fun σ2 H2 => wipe σ2 vs = wipe σ vs ∧ tt σ2 H2 fun b H3 => if b = true then te σ2 H3 fun y H4 => rAddQ K P w_ (.ref D) [y] H4 fun _ H5 => Pv (i + 1) H5 else Pv (i + 1) H3) (hd : ∀ H, Pv N H → Qd H) :
    ∃ W : Nat → Nat → Hp → Prop, (∃ m, W 0 m (upd H1 D (SetO P w_ D []))) ∧ ScQ K P w_ g tt te vs σ J D W Qd := by
  refine ⟨fun i m H => m = N - i ∧ i ≤ N ∧ Pv i H, ⟨N, by simp, Nat.zero_le _, h0⟩, ?_⟩
  rintro i m H ⟨rfl, hi, p⟩
  rcases Nat.lt_or_ge i N with q | q
  · refine .inr ⟨Wk.goes i H q (hl i H hi p), Pv (i + 1), fun H' p' => ⟨N - (i + 1), by omega, rfl, q, p'⟩, fun x H' y => ?_⟩
    exact hs i x H H' q p (Wk.yields i H x H' q (hl i H hi p) y)
  · have : i = N := by omega
    subst this
    exact .inl ⟨Wk.stops H (hl i H hi p), hd H p⟩
/-- the rows met so far as a set -/
def SetG (K : PySem.W.Frag) (P : Program) (w_ : World) (D1 : Addr) (H : Hp) (gs : List Grid) (Ls : List (Addr × List Key)) : Prop := H D1 = some (SetO P w_ D1 Ls) ∧ KeysAt K H Ls ∧ (Ls.map (·.2)).Nodup ∧ (∀ x, x ∈ Ls.map (·.2) ↔ x ∈ gs.map keyG) ∧ Ls.length ≤ gs.length
theorem SetG.nil {K : PySem.W.Frag} {P : Program} {w_ : World} {D1 : Addr} {H : Hp} : SetG K P w_ D1 (upd H D1 (SetO P w_ D1 [])) [] [] :=
  ⟨upd_same, fun _ h => (nomatch h), List.nodup_nil, fun _ => Iff.rfl, Nat.le_refl _⟩
theorem nd_keyG {gs : List Grid} (h : gs.Nodup) : (gs.map keyG).Nodup := by
  induction gs with
  | nil => exact List.nodup_nil
  | cons a r ih =>
    rw [List.nodup_cons] at h
    rw [List.map_cons, List.nodup_cons]
    refine ⟨fun z => ?_, ih h.2⟩
    obtain ⟨b, hb, e⟩ := List.mem_map.mp z
    rw [keyG_inj e] at hb
    exact h.1 hb
theorem SetG.len {K : PySem.W.Frag} {P : Program} {w_ : World} {D1 : Addr} {H : Hp} {gs : List Grid} {Ls : List (Addr × List Key)} (h : SetG K P w_ D1 H gs Ls) : Ls.length = (dd gs).length := by
  have := nd_len h.2.2.1 (nd_keyG (nd_dd gs)) fun x => by
    rw [h.2.2.2.1 x]
    constructor <;> intro z <;> obtain ⟨b, hb, e⟩ := List.mem_map.mp z
    · exact List.mem_map.mpr ⟨b, mem_dd.mpr hb, e⟩
    · exact List.mem_map.mpr ⟨b, mem_dd.mp hb, e⟩
  rwa [List.length_map, List.length_map] at this
/-- one more -/
theorem SetG.add {K : PySem.W.Frag} {P : Program} {w_ : World} {D1 b : Addr} {H : Hp} {gs : List Grid} {x : Grid} {Ls L' : List (Addr × List Key)} (h : SetG K P w_ D1 H gs Ls) (hb : SqT K H b (rowV x)) (c1 : keyG x ∈ Ls.map (·.2) → L' = Ls) (c2 : keyG x ∉ Ls.map (·.2) → L'.Perm ((b, keyG x) :: Ls)) :
    SetG K P w_ D1 (upd H D1 (SetO P w_ D1 L')) (gs ++ [x]) L' := by
  obtain ⟨h1, h2, h3, h4, h5⟩ := h
  have nt : ∀ u xs, SetO P w_ D1 Ls ≠ .frz u (.tup xs) ∧ SetO P w_ D1 Ls ≠ .tup xs := fun _ _ => ⟨by unfold SetO; simp, by unfold SetO; simp⟩
  have up : ∀ {c xs}, SqT K H c xs → SqT K (upd H D1 (SetO P w_ D1 L')) c xs := fun t => seq_upd t h1 nt
  by_cases q : keyG x ∈ Ls.map (·.2)
  · have e := c1 q
    subst e
    refine ⟨upd_same, fun p hp => up (h2 p hp), h3, fun y => ?_, by rw [List.length_append]; exact Nat.le_succ_of_le h5⟩
    rw [h4 y, List.map_append, List.mem_append]
    exact ⟨.inl, fun z => z.elim id fun z => by rw [List.mem_singleton.mp z]; exact (h4 _).mp q⟩
  · have pm := c2 q
    refine ⟨upd_same, fun p hp => up ?_, (pm.map (·.2)).nodup_iff.mpr (List.nodup_cons.mpr ⟨q, h3⟩), fun y => ?_, ?_⟩
    · rcases List.mem_cons.mp (pm.mem_iff.mp hp) with e | hp
      · subst e
        show SqT K H b ((keyG x).map kV)
        rw [keyG_V]
        exact hb
      · exact h2 p hp
    · rw [(pm.map (·.2)).mem_iff, List.map_cons, List.mem_cons, h4 y, List.map_append, List.mem_append, or_comm]
      exact or_congr Iff.rfl (by rw [List.map_cons, List.map_nil, List.mem_singleton])
    · rw [pm.length_eq, List.length_cons, List.length_append]
      exact Nat.succ_le_succ h5
theorem rep_trays {K : PySem.W.Frag} {D : Addr} {H : Hp} {ta h w : Nat} {g : Grid} {ts : List (List Nat)} (t : TrayAt K D H ta g) : ∀ {cs : List Nat}, Paired (fun a x => TrayAt K D H a x) (List.replicate cs.length ta) (cs.map fun c => rounds h w (ts.getD c []) 0 g)
  | [] => .nil
  | c :: r => .cons t (rep_trays t)
theorem flat_rep {α : Type} (n : Nat) (x : α) : (List.replicate n [x]).flatten = List.replicate n x := by
  induction n with
  | zero => rfl
  | succ n ih => rw [List.replicate_succ, List.flatten_cons, ih, List.replicate_succ]; rfl
section
variable {P : Program} {w_ : World} {K : PySem.W.Frag} {mg : Str → Option Value} {base : Heap} {C D O CP fRs : Addr} {n : Nat}
abbrev NTr : List Str := ["self", "limit", "words", "trays", "telling", "most", "rounds", "many", "number", "tray", "word"]
theorem scTr : FnScope NTr ["self", "limit"] (defScope sWordObserverTellingRound) := ⟨rfl, rfl, rfl, by decide +kernel, rfl, by decide +kernel, by decide +kernel⟩
abbrev cntG (h w : Nat) (g : Grid) (ts : List (List Nat)) (cs : List Nat) (N : Nat) : Nat := (dd (cs.map (aftG h w g ts N))).length
structure TelF (K : PySem.W.Frag) (mg : Str → Option Value) : Prop where
  ml : ∃ u, mg "MAX_LIMIT" = some u ∧ RelV (.int ((200 : Nat) : Int)) u
  rng : mg "range" = none
  len : mg "len" = none
  zip : mg "zip" = none
def spTr (K : PySem.W.Frag) (C D O : Addr) : Sp := fun vs H Q _ => ∃ (p h w N : Nat) (g : Grid) (ts : List (List Nat)) (cs : List Nat) (obs : List Ob), vs = [.ref p, .int (N : Nat)] ∧ ObsAt K C D O H p g w ts cs obs ∧ VG h w g ∧ N ≤ 200 ∧
  (∀ c ∈ cs, c < ts.length) ∧ cs.length ≤ 1000 ∧ ∀ H', Same H H' → Q (.int ((tellF (cntG h w g ts cs) (N + 1)).1 : Nat)) H'
theorem ok_tr {f : Addr} {fd : FuncData} (F : Fun K "telling_round" "WordObserver.telling_round" sWordObserverTellingRound f fd) (b : Binds K fd ["self", "limit"] []) (L : SeeF P w_ K mg base n C D O CP) (T : TelF K mg) (hDC : D ≠ C)
    (sf : PySem.W.selfFirst K D = true) (NO : NoOp K C Operator.RShift.info.2) (hs : PySem.W.findIn K (.ref D) (PySem.dunder Operator.RShift.info.2) = some (some (.ref fRs))) (hf : PySem.W.isFn K (.ref fRs) = true) (GRs : FnRn n P w_ K mg base CX0 5 fRs (spRs K C D)) : FnRn n P w_ K mg base CX0 6 f (spTr K C D O) := by
  obtain ⟨gCn, fdCn, GCn, kCn, bCn, mCn⟩ := L.fCn
  obtain ⟨pR, gR, fdR, PR, GR, bR⟩ := L.pRw
  have CO := L.co
  have CT := L.ct
  refine fn_n F b scTr (fun vs H Q E h => ?_) fun cdv A outer s H vs Q E hr h => ?_
  · obtain ⟨p, h, w, N, g, ts, cs, obs, rfl, _⟩ := h
    rfl
  · obtain ⟨p, h, w, N, g, ts, cs, obs, rfl, ⟨dx, ta, wa, ca, oa, ws, os, I⟩, hV, hN, hc, cs1000, k⟩ := h
    have nd := scTr.nd
    have r2 := hr.mono (show 2 ≤ 5 by decide)
    have r1 := hr.mono (show 1 ≤ 5 by decide)
    refine ⟨_, pssn_cut (PS.up (ps_expr (pe_call GCn r2 rfl mCn kCn bCn .nil pass0 (pa_cons (pv 1) (pa_cons (C8.pe_gc rfl T.ml) pa_nil)))))
      (pssn_cut (psn_setLcF (i := 2) (own := [("number", 8)]) (g := gName 8) rfl nd rfl rfl (sw_true rfl rfl rfl (by decide +kernel)) (PI.up (pi_tup (pe_fld (pv 0) rfl))) (blkOk_by (N := NTr) (sc := defScope sWordObserverTellingRound) (by decide +kernel)) (fun _ _ _ _ _ => pg_name (i := 8) nd rfl (.inl rfl))
        (fun _ _ _ _ _ => ptsn_nil) (fun _ _ _ _ _ => PE.up (pe_ix (ix_tupK (K := K) rfl) (pe_fldK (K := K) (pv 0) rfl) (pv 8) (fun _ _ => rfl))))
      (pssn_cut (PS.up (ps_set (i := 3) nd rfl (.inl rfl) (pe_op op_rep (pe_lst (pa_cons (pe_fld (pv 0) rfl) pa_nil)) (pe_callB call_len_seq (by rfl) T.len PySem.boot_len (pa_cons (pv 2) pa_nil)))))
      (pssn_cut (PS.up (ps_asg2 pe_int (pg_name (i := 4) nd rfl (.inl rfl)) (pg_name (i := 5) nd rfl (.inl rfl))))
      (pssn_cut (psn_for PassesOwn.never rfl (pi_range1 (by rfl) T.rng (pa_cons (pe_op op_add (pv 1) pe_int) pa_nil)) (pg_name (i := 6) nd rfl (.inl rfl))
        (pssn_cut (PS.up (ps_set (i := 7) nd rfl (.inl rfl) (pe_callB cr_lenQ (by rfl) T.len PySem.boot_len (pa_cons (pe_scQ (own := [("tray", 9)]) (g := gName 9) hr.units rfl nd (pi_list (pv 3)) (blkOk_by (N := NTr) (sc := defScope sWordObserverTellingRound) (by decide +kernel)) (fun _ _ _ _ _ => pg_name (i := 9) nd rfl (.inl rfl)) (fun _ _ _ _ _ => pts_nil) (fun _ _ _ _ _ => pe_prop (pv 9) CT.cl PR GR r2 bR .nil pass0 rfl)) pa_nil))))
        (pssn_cut (PS.up (ps_if (pt_cmpR op_gt (pv 7) (pv 5) (nomark _)) (pss_one (ps_par (i := 4) (j := 5) rfl nd rfl rfl (by decide) rfl rfl (pa_cons (pv 6) (pa_cons (pv 7) pa_nil)) rfl)) pss_nil))
        (pssn_one (psn_setLcF (i := 3) (own := [("tray", 9), ("word", 10)]) (g := gTup K 2 (gCons (gName 9) (gCons (gName 10) gNil))) rfl nd rfl rfl (sw_true rfl rfl rfl (by decide +kernel)) (PI.up (pi_zip (by rfl) T.zip (pa_cons (pv 3) (pa_cons (pv 2) pa_nil)))) (blkOk_by (N := NTr) (sc := defScope sWordObserverTellingRound) (by decide +kernel)) (fun _ _ _ _ _ => pg_tup rfl (pgs_cons (pg_name (i := 9) nd rfl (.inl rfl)) (pgs_cons (pg_name (i := 10) nd rfl (.inl rfl)) pgs_nil)))
          (fun _ _ _ _ _ => ptsn_nil) (fun _ _ _ _ _ => pen_op (op_twoN hDC sf NO hs hf GRs hr pass0) (PE.up (pv 9)) (PE.up (pv 10))))))))
      (pssn_one (PS.up (ps_ret (pv 4)))))))), ?_⟩
    refine ⟨fun σ H1 => σ = [some (.ref p), some (.int (N : Nat)), none, none, none, none, none, none, none, none, none] ∧ H1 = H, ?_, ?_⟩
    · exact ⟨_, rfl, N, 200, rfl, hN, rfl, rfl⟩
    rintro σ H1 ⟨rfl, rfl⟩
    -- the words
    refine ⟨fun σ H2 => ∃ l aws, σ = [some (.ref p), some (.int (N : Nat)), some (.ref l), none, none, none, none, none, none, none, none] ∧ Same H1 H2 ∧ H2 l = some (.lst (aws.map V.ref)) ∧ Paired (fun a c => WordAt C H2 a (ts.getD c [])) aws cs, ?_, ?_⟩
    · refine ⟨_, rfl, p, O, dx, _, _, rfl, I.hp, CO.cl, CO.n3, rfl, ca, rfl, ⟨_, SqT.of I.ca_⟩, fun D1 hD1 => lc_tup (K := K) (a := ca) (xs := natV cs) (fun i H4 => ∃ aws, Same H1 H4 ∧ H4 D1 = some (.lst (aws.map V.ref)) ∧ Paired (fun a c => WordAt C H4 a (ts.getD c [])) aws (cs.take i))
        ⟨[], same_new hD1, upd_same, .nil⟩ (fun i H4 _ ⟨_, s4, _⟩ => s4.tup (SqT.of I.ca_)) ?_ ?_⟩
      · rintro i x H4 hx ⟨aws, s4, hL, wl⟩
        obtain ⟨c, hcc, rfl⟩ := at_map hx
        have mc := List.mem_of_getElem? hcc
        have I4 := I.same s4
        have lt := hc c mc
        obtain ⟨aw, haw, W⟩ := paired_at I4.wd c (ts[c]) (List.getElem?_eq_getElem lt)
        have et : ts.getD c [] = ts[c] := by rw [List.getD_eq_getElem?_getD, List.getElem?_eq_getElem lt]; rfl
        have hlt := (List.getElem?_eq_some_iff.mp hcc).1
        have la : aws.length = i := by
          have := Paired.length wl
          rw [List.length_take] at this
          omega
        refine ⟨rfl, _, rfl, p, O, dx, _, _, rfl, I4.hp, CO.cl, CO.n2, rfl, _, rfl, wa, _, c, .ref aw, rfl, rfl, SqT.of I4.wa_, atI_nat (by rw [List.getElem?_map, haw]; rfl), _, hL, ?_, aws ++ [aw], same_put s4 hD1, ?_, ?_⟩
        · rw [List.length_map, la]
          show _ < 16777216
          omega
        · rw [upd_same, List.map_append]
          rfl
        · rw [List.take_succ, hcc]
          have up : ∀ {a : Addr} {t : List Nat}, WordAt C H4 a t → WordAt C (upd H4 D1 (.lst (aws.map V.ref ++ [V.ref aw]))) a t := fun {a t} ⟨d, e⟩ => ⟨d, by rw [upd_ne fun z => by rw [z, hL] at e; cases e]; exact e⟩
          exact Paired.snoc (Paired.mapP wl fun a c t => up t) (up (by rw [et]; exact W))
      · rintro H4 ⟨aws, s4, hL, wl⟩
        rw [List.length_map, List.take_length] at wl
        exact ⟨D1, aws, rfl, s4, hL, wl⟩
    rintro σ H2 ⟨l, aws, rfl, s2, hl, wl⟩
    have la : aws.length = cs.length := Paired.length wl
    -- the trays
    refine ⟨fun σ H3 => ∃ lt ps, σ = [some (.ref p), some (.int (N : Nat)), some (.ref l), some (.ref lt), none, none, none, none, none, none, none] ∧ Same H2 H3 ∧ H3 lt = some (.lst (ps.map V.ref)) ∧ TraysL K D H3 ps (cs.map (aftG h w g ts 0)), ?_, ?_⟩
    · have I2 := I.same s2
      refine ⟨_, rfl, p, O, dx, _, _, rfl, I2.hp, CO.cl, CO.n1, rfl, by show 1 ≤ sizeLine; decide, fun a ha => ?_⟩
      have s3 := same_new (o := .lst [V.ref ta]) ha
      refine ⟨_, rfl, l, _, rfl, .inl (SqL.of (s3 _ _ hl)), a, _, _, rfl, rfl, upd_same, ?_, ?_, ?_, fun lt hlt => ?_⟩
      · rw [List.length_map, la]
        omega
      · rw [List.length_map, la]
        omega
      · rw [List.length_map, la]
        show 1 * (((cs.length : Nat) : Int).toNat) ≤ 16777216
        omega
      have s4 := s3.trans (same_new (o := .lst (List.replicate ((((aws.map V.ref).length : Nat) : Int).toNat) [V.ref ta]).flatten) hlt)
      refine ⟨lt, List.replicate cs.length ta, rfl, s4, ?_, ?_⟩
      · rw [upd_same, List.length_map, la]
        refine congrArg some (congrArg HO.lst ?_)
        rw [Int.toNat_natCast, List.map_replicate]
        exact flat_rep _ _
      · have t4 := (I2.same s4).tr
        exact rep_trays t4
    rintro σ H3 ⟨lt, ps, rfl, s3, hlt, tl⟩
    refine ⟨fun σ H4 => σ = [some (.ref p), some (.int (N : Nat)), some (.ref l), some (.ref lt), some (.int 0), some (.int 0), none, none, none, none, none] ∧ H4 = H3, ?_, ?_⟩
    · exact ⟨rfl, rfl⟩
    rintro σ H4 ⟨rfl, rfl⟩
    have s03 := s2.trans s3
    refine ⟨fun σ H5 => ∃ v3 v5 v6 v7, σ = [some (.ref p), some (.int (N : Nat)), some (.ref l), v3, some (.int ((tellF (cntG h w g ts cs) (N + 1)).1 : Nat)), v5, v6, v7, none, none, none] ∧ Same H1 H5, ?_, ?_⟩
    · refine ⟨_, rfl, _, _, rfl, rfl, _, rfl, by omega, by omega, for_it (walk_range (lo := 0) (n := ((N : Int) + 1).toNat)) (fun i σ H5 => ∃ lt ps v6 v7, σ = [some (.ref p), some (.int (N : Nat)), some (.ref l), some (.ref lt), some (.int ((tellF (cntG h w g ts cs) i).1 : Nat)), some (.int ((tellF (cntG h w g ts cs) i).2 : Nat)), v6, v7, none, none, none] ∧ Same H4 H5 ∧ H5 lt = some (.lst (ps.map V.ref)) ∧ TraysL K D H5 ps (cs.map (aftG h w g ts i)))
        ⟨lt, ps, none, none, rfl, Same.refl _, hlt, tl⟩ (fun _ _ _ _ _ => True.intro) ?_ ?_⟩
      · rintro i x σ H6 H5 hi ⟨lt, ps, v6, v7, rfl, s5, hlt, tl⟩ ⟨rfl, rfl⟩
        have lps : ps.length = cs.length := by
          have := Paired.length tl
          rwa [List.length_map] at this
        -- how many
        refine ⟨fun σ H6 => σ = [some (.ref p), some (.int (N : Nat)), some (.ref l), some (.ref lt), some (.int ((tellF (cntG h w g ts cs) i).1 : Nat)), some (.int ((tellF (cntG h w g ts cs) i).2 : Nat)), some (.int (i : Nat)), some (.int (cntG h w g ts cs i : Nat)), none, none, none] ∧ Same H5 H6, ?_, ?_⟩
        · refine ⟨_, rfl, lt, rfl, ⟨_, SqL.of hlt⟩, fun D1 hD1 => scq_it (K := K) (P := P) (w_ := w_) (walk_list (K := K) (a := lt) (xs := ps.map V.ref)) (fun j H7 => ∃ Ls, Same H5 H7 ∧ SetG K P w_ D1 H7 ((cs.map (aftG h w g ts i)).take j) Ls)
            ⟨[], same_new hD1, SetG.nil⟩ (fun j H7 _ ⟨_, s7, _⟩ => s7.seq (SqL.of hlt)) ?_ ?_⟩
          · rintro j x H8 H7 hj ⟨Ls, s7, sg_⟩ ⟨rfl, hx⟩
            obtain ⟨a, ha, rfl⟩ := at_map hx
            have hjc := (List.getElem?_eq_some_iff.mp ha).1
            rw [lps] at hjc
            obtain ⟨x, hgi⟩ : ∃ x, (cs.map (aftG h w g ts i))[j]? = some x := ⟨_, List.getElem?_eq_getElem (l := cs.map (aftG h w g ts i)) (by rw [List.length_map]; exact hjc)⟩
            obtain ⟨a', ha', T0⟩ := paired_at tl j x hgi
            rw [ha] at ha'
            cases ha'
            have T7 := T0.same s7
            obtain ⟨d1, a1, e1, e2⟩ := id T7
            refine ⟨rfl, _, rfl, a, d1, _, rfl, e1, a, d1, _, _, rfl, e1, rfl, D1, a1, keyG x, Ls, rfl, rfl, sg_.1, sg_.2.1, by rw [keyG_V]; exact e2, ?_, fun L' c1 c2 => ⟨L', same_put s7 hD1, ?_⟩⟩
            · have := sg_.2.2.2.2
              rw [List.length_take] at this
              omega
            · rw [List.take_succ, hgi]
              exact sg_.add e2 c1 c2
          · rintro H7 ⟨Ls, s7, sg_⟩
            have e := sg_.len
            rw [List.length_map, Paired.length tl, List.take_length] at e
            refine ⟨D1, Ls, rfl, sg_.1, ?_, s7⟩
            rw [e]
            simp
        rintro σ H6 ⟨rfl, s6⟩
        -- more than most
        refine ⟨fun σ H7 => σ = [some (.ref p), some (.int (N : Nat)), some (.ref l), some (.ref lt), some (.int ((tellF (cntG h w g ts cs) (i + 1)).1 : Nat)), some (.int ((tellF (cntG h w g ts cs) (i + 1)).2 : Nat)), some (.int (i : Nat)), some (.int (cntG h w g ts cs i : Nat)), none, none, none] ∧ H7 = H6, ?_, ?_⟩
        · rw [tellF_succ]
          generalize tellF (cntG h w g ts cs) i = tp
          refine ⟨_, rfl, _, rfl, _, _, rfl, rfl, _, rfl, ?_⟩
          unfold tellS
          by_cases q : cntG h w g ts cs i > tp.2
          · rw [if_pos q]
            have e : decide (((cntG h w g ts cs i : Nat) : Int) > (tp.2 : Nat)) = true := decide_eq_true (by omega)
            rw [e]
            exact iteT ⟨_, rfl, _, rfl, _, _, rfl, rfl, rfl⟩
          · rw [if_neg q]
            have e : decide (((cntG h w g ts cs i : Nat) : Int) > (tp.2 : Nat)) = false := decide_eq_false (by omega)
            rw [e]
            exact iteF ⟨rfl, rfl⟩
        rintro σ H7 ⟨rfl, rfl⟩
        have hl7 := (s3.trans (s5.trans s6)) _ _ hl
        have wl7 := Paired.mapP wl fun a c z => z.same (s3.trans (s5.trans s6))
        have tl7 := Paired.mapP tl fun a x z => z.same s6
        refine ⟨_, rfl, _, rfl, lt, l, _, _, rfl, SqL.of (s6 _ _ hlt), SqL.of hl7, fun D1 hD1 => lc_it (walk_zip (K := K) (a := lt) (b := l) (xs := ps.map V.ref) (ys := aws.map V.ref) (n := cs.length) (by rw [List.length_map, List.length_map, lps, la, Nat.min_self])) (fun j H8 => ∃ qs, Same H7 H8 ∧ H8 D1 = some (.lst (qs.map V.ref)) ∧ TraysL K D H8 qs ((cs.take j).map (aftG h w g ts (i + 1))))
          ⟨[], same_new hD1, upd_same, .nil⟩ (fun j H8 _ ⟨_, s8, _⟩ => ⟨s8.seq (SqL.of (s6 _ _ hlt)), s8.seq (SqL.of hl7)⟩) ?_ ?_⟩
        · rintro j x H8 H9 hj ⟨qs, s8, hL, ql⟩ ⟨T_, x1, y1, rfl, hT, rfl, hx1, hy1⟩
          obtain ⟨a1, ha1, rfl⟩ := at_map hx1
          obtain ⟨a2, ha2, rfl⟩ := at_map hy1
          have sT := same_new (o := .tup [V.ref a1, V.ref a2]) hT
          have hTT : upd H8 T_ (.tup [V.ref a1, V.ref a2]) T_ = some (.tup [V.ref a1, V.ref a2]) := upd_same
          generalize upd H8 T_ (.tup [V.ref a1, V.ref a2]) = H9 at sT hTT
          obtain ⟨c, hcj⟩ : ∃ c, cs[j]? = some c := ⟨_, List.getElem?_eq_getElem hj⟩
          obtain ⟨a1', ha1', T1⟩ := paired_at tl7 j (aftG h w g ts i c) (by rw [List.getElem?_map, hcj]; rfl)
          rw [ha1] at ha1'
          cases ha1'
          obtain ⟨a2', ha2', W2⟩ := paired_at wl7 j c hcj
          rw [ha2] at ha2'
          cases ha2'
          have s89 := s8.trans sT
          have T9 := T1.same s89
          have W9 := W2.same s89
          obtain ⟨d1, b1, e1, _⟩ := id T9
          obtain ⟨d2, e2⟩ := id W9
          have V9 : VG h w (aftG h w g ts i c) := VG.rounds i hV
          have lqs : qs.length = j := by
            have := Paired.length ql
            rw [List.length_map, List.length_take] at this
            omega
          refine ⟨T_, _, rfl, SqT.of hTT, rfl, _, _, rfl, _, _, rfl, rfl, rfl, _, rfl, _, rfl, a1, d1, _, a2, d2, _, rfl, rfl, e1, e2, a1, a2, h, w, _, _, rfl, T9, V9, W9, fun H10 r10 s10 t10 => ?_⟩
          have hL10 := s10 _ _ (sT _ _ hL)
          have nD : H7 D1 = none := hD1
          refine ⟨_, hL10, ?_, qs ++ [r10], same_put (s89.trans s10) hD1, ?_, ?_⟩
          · rw [List.length_map, lqs]
            show _ < 16777216
            omega
          · rw [upd_same, List.map_append]
            rfl
          · rw [List.take_succ, hcj, List.map_append]
            have up : ∀ {a : Addr} {x : Grid}, TrayAt K D H10 a x → TrayAt K D (upd H10 D1 (.lst (qs.map V.ref ++ [V.ref r10]))) a x := fun {a x} t => tray_upd t hL10 (fun _ _ => ⟨by simp, by simp⟩) fun _ _ _ => by simp
            exact Paired.snoc (Paired.mapP ql fun a x t => up (t.same (sT.trans s10))) (up t10)
        · rintro H8 ⟨qs, s8, hL, ql⟩
          rw [List.take_length] at ql
          exact ⟨D1, qs, _, _, rfl, s5.trans (s6.trans s8), hL, ql⟩
      · rintro σ H5 ⟨lt, ps, v6, v7, rfl, s5, _⟩
        have e : ((N : Int) + 1).toNat = N + 1 := by omega
        rw [e]
        exact ⟨_, _, _, _, rfl, s03.trans s5⟩
    rintro σ H5 ⟨v3, v5, v6, v7, rfl, s5⟩
    exact ⟨_, rfl, k H5 s5⟩
end
end TR
end
section
set_option Elab.async false
set_option maxRecDepth 100000
set_option linter.all false
namespace TR
open PySem PySem.Spec PyProof.Rows L2 TM TX TK TB TP TH TU TW TI
theorem srt_congrW {l m : List Nat} (p : l.Perm m) : TP.srt l = TP.srt m := List.Perm.eq_of_pairwise (le := (· ≤ ·)) (fun a b _ _ h1 h2 => by omega) (srt_up _) (srt_up _) ((srt_perm _).trans (p.trans (srt_perm _).symm))
theorem mkv_new {A : List Nat} {m : Nat} {qa : Nat → Addr} {q : Addr} (h : m ∉ A) : putK (mkv A qa) (Sum.inr (S [m])) (V.ref q) = mkv (A ++ [m]) (fun x => if x = m then q else qa x) := by
  have hv : valV (mkv A qa) (Sum.inr (S [m]) : Key) = none := by
    exact valV_no (f := fun m => (Sum.inr (S [m]) : Key)) (v := fun m => V.ref (qa m)) fun x hx z => h (by rw [← key_inj z]; exact hx)
  rw [putK_new _ hv]
  unfold mkv
  rw [List.map_append]
  congr 1
  · refine List.map_congr_left fun x hx => ?_
    have : x ≠ m := fun z => h (by rw [← z]; exact hx)
    simp only [if_neg this]
  · simp
section
variable {P : Program} {w_ : World} {K : PySem.W.Frag} {mg : Str → Option Value} {base : Heap} {C D O CU CP fTa fCl pM gM : Addr} {fdM : FuncData} {n : Nat}
abbrev NSa : List Str := ["observer", "rounds", "trays", "first", "sure", "marble", "place", "tray"]
theorem scSa : FnScope NSa ["observer", "rounds"] (defScope sSurelyAt) := ⟨rfl, rfl, rfl, by decide +kernel, rfl, by decide +kernel, by decide +kernel⟩
/-- the marbles that lie at the same place in all of these -/
abbrev sureM (g0 : Grid) (gs : List Grid) (M : List Nat) : List Nat := M.filter fun m => gs.all fun x => decide (x.flatten.idxOf m = g0.flatten.idxOf m)
def spSa (K : PySem.W.Frag) (C D O : Addr) : Sp := fun vs H Q _ => ∃ (p h w N c0 : Nat) (g : Grid) (ts : List (List Nat)) (cs : List Nat) (obs : List Ob), vs = [.ref p, .int (N : Nat)] ∧ ObsAt K C D O H p g w ts cs obs ∧ VG h w g ∧ N ≤ 10 ^ 18 ∧
  (∀ c ∈ cs, c < ts.length) ∧ cs.length ≤ 1000 ∧ cs[0]? = some c0 ∧ ∀ H' e qa, Same H H' → H e = none → MdAt H' e w (fun m => (aftG h w g ts N c0).flatten.idxOf m) (sureM (aftG h w g ts N c0) (cs.map (aftG h w g ts N)) (srt (mb g.flatten))) qa → Q (.ref e) H'
theorem ok_sa {f : Addr} {fd : FuncData} (F : Fun K "surely_at" "surely_at" sSurelyAt f fd) (b : Binds K fd ["observer", "rounds"] []) (co : ClsO K mg O) (CT : ClsT K mg D) (MT : Meth K O "trays_after" fTa) (GT : FnRn n P w_ K mg base CX0 8 fTa (spTa K C D O))
    (PM : PropOf K D "marbles" pM gM) (GM : FnOk P w_ K mg base CX0 1 gM fdM ["self"] (spMb K D)) (bM : Binds K fdM ["self"] []) (CO : StX.CallO K D fCl) (GC : FnR P w_ K mg base (L2.CX P w_) 4 fCl (spCl K D CU)) (mall : mg "all" = none) : FnRn n P w_ K mg base CX0 9 f (spSa K C D O) := by
  refine fn_n F b scSa (fun vs H Q E h => ?_) fun cdv A outer s H vs Q E hr h => ?_
  · obtain ⟨p, h, w, N, c0, g, ts, cs, obs, rfl, _⟩ := h
    rfl
  · obtain ⟨p, h, w, N, c0, g, ts, cs, obs, rfl, I, hV, hN, hc, cs1000, hc0, k⟩ := h
    have nd := scSa.nd
    have r4 := hr.mono (show 4 ≤ 8 by decide)
    have r2 := hr.mono (show 2 ≤ 8 by decide)
    refine ⟨_, pssn_cut (psn_set (i := 2) nd rfl (.inl rfl) (pen_methR (pv 0) co.cl MT GT hr pass0 (pa_cons (pv 1) pa_nil)))
      (pssn_cut (PS.up (ps_set (i := 3) nd rfl (.inl rfl) (pe_ix ix_list (pv 2) pe_int (fun _ _ => rfl))))
      (pssn_cut (PS.up (ps_set (i := 4) nd rfl (.inl rfl) pe_dnewK))
      (pssn_cut (PS.up (ps_for PassesOwn.never rfl (pi_str (pe_prop (pv 3) CT.cl PM GM r2 bM .nil pass0 rfl)) (pg_name (i := 5) nd rfl (.inr rfl))
        (C8.pss_cut (ps_set (i := 6) nd rfl (.inr rfl) (pe_callO (pv 3) CO GC r4 passL (pa_cons (pv 5) pa_nil)))
        (pss_one (ps_if (pt_val (pe_callB (cr_all rfl) (by rfl) mall boot_all (pa_cons (pe_lc (own := [("tray", 7)]) (g := gName 7) (tt := tYes) rfl nd (pi_list (pv 2)) (blkOk_by (N := NSa) (sc := defScope sSurelyAt) (by decide +kernel)) (fun _ _ _ _ _ => pg_name (i := 7) nd rfl (.inl rfl))
          (fun _ _ _ _ _ => pts_nil) (fun _ _ _ _ _ => pe_cmpR (TQ.op_eqDK (K := K) rfl hr.units) (pe_callO (pv 7) CO GC r4 passL (pa_cons (pv 5) pa_nil)) (pv 6) (nomark _))) pa_nil))) (pss_one (ps_dput (hu_of hr) (pv 4) (pv 5) (pv 6) rfl)) pss_nil)))))
      (pssn_one (PS.up (ps_ret (pv 4))))))), ?_⟩
    have hcm : (cs.map (aftG h w g ts N)).head? = some (aftG h w g ts N c0) := by rw [List.head?_map, List.head?_eq_getElem?, hc0]; rfl
    have vg : ∀ x ∈ cs.map (aftG h w g ts N), VG h w x ∧ (mb x.flatten).Perm (mb g.flatten) := fun x hx => by
      obtain ⟨c, _, rfl⟩ := List.mem_map.mp hx
      exact ⟨VG.rounds N hV, mb_rounds hV N⟩
    have lgs : (cs.map (aftG h w g ts N)).length ≤ 1000 := by rw [List.length_map]; exact cs1000
    generalize hgs : cs.map (aftG h w g ts N) = gs at hcm vg lgs k
    have h0g : (dd gs)[0]? = some (aftG h w g ts N c0) := by
      cases gs with
      | nil => cases hcm
      | cons a r =>
        rw [List.head?_cons] at hcm
        cases hcm
        exact dd_head
    have g0m : aftG h w g ts N c0 ∈ gs := mem_dd.mp (List.mem_of_getElem? h0g)
    have alld : ∀ p : Grid → Bool, (dd gs).all p = gs.all p := fun p => by
      rw [Bool.eq_iff_iff, List.all_eq_true, List.all_eq_true]
      exact ⟨fun z x hx => z x (mem_dd.mpr hx), fun z x hx => z x (mem_dd.mp hx)⟩
    generalize aftG h w g ts N c0 = g0 at h0g g0m k
    have ldd := Nat.le_trans (dd_len gs) lgs
    have vgd : ∀ x ∈ dd gs, VG h w x ∧ (mb x.flatten).Perm (mb g.flatten) := fun x hx => vg x (mem_dd.mp hx)
    have esr : srt (mb g0.flatten) = srt (mb g.flatten) := srt_congrW (vg g0 g0m).2
    have hM26 : (srt (mb g.flatten)).length ≤ 26 := by rw [(srt_perm _).length_eq]; exact mb_26 hV
    have ndM : (srt (mb g.flatten)).Nodup := (srt_perm _).nodup_iff.mpr hV.nd
    -- the trays
    refine ⟨fun σ H1 => ∃ l ps, σ = [some (.ref p), some (.int (N : Nat)), some (.ref l), none, none, none, none, none] ∧ Same H H1 ∧ H1 l = some (.lst (ps.map V.ref)) ∧ TraysL K D H1 ps (dd gs), ?_, ?_⟩
    · obtain ⟨dx, ta, wa, ca, oa, ws, os, I0⟩ := id I
      refine ⟨_, rfl, p, dx, _, rfl, I0.hp, rfl, _, rfl, ?_⟩
      refine ⟨p, h, w, N, g, ts, cs, obs, rfl, I, hV, hN, hc, cs1000, fun H1 l ps s1 hl0 hl tl => ?_⟩
      rw [hgs] at tl
      exact ⟨l, ps, rfl, s1, hl, tl⟩
    rintro σ H1 ⟨l, ps, rfl, s1, hl, tl⟩
    obtain ⟨p0, hp0, T0⟩ := paired_at tl 0 g0 h0g
    have lps : ps.length = (dd gs).length := Paired.length tl
    refine ⟨fun σ H2 => σ = [some (.ref p), some (.int (N : Nat)), some (.ref l), some (.ref p0), none, none, none, none] ∧ H2 = H1, ?_, ?_⟩
    · exact ⟨_, rfl, l, _, 0, .ref p0, rfl, rfl, SqL.of hl, atI_nat (j := 0) (by rw [List.getElem?_map, hp0]; rfl), rfl, rfl⟩
    rintro σ H2 ⟨rfl, rfl⟩
    refine ⟨fun σ H3 => ∃ d, σ = [some (.ref p), some (.int (N : Nat)), some (.ref l), some (.ref p0), some (.ref d), none, none, none] ∧ Same H2 H3 ∧ H2 d = none ∧ H3 d = some (.dK []), ?_, ?_⟩
    · exact fun d hd => ⟨d, rfl, same_new hd, hd, upd_same⟩
    rintro σ H3 ⟨d, rfl, s3, fd2, hd3⟩
    have V0 := (vg g0 g0m).1
    refine ⟨fun σ H4 => ∃ v5 v6 qa, σ = [some (.ref p), some (.int (N : Nat)), some (.ref l), some (.ref p0), some (.ref d), v5, v6, none] ∧ But d H3 H4 ∧ MdAt H4 d w (fun m => g0.flatten.idxOf m) (sureM g0 gs (srt (mb g.flatten))) qa, ?_, ?_⟩
    · obtain ⟨d0, a0, e0, _⟩ := id (T0.same s3)
      refine ⟨_, rfl, p0, d0, _, rfl, e0, p0, h, w, g0, rfl, T0.same s3, V0, fun H4 s4 => ⟨_, rfl, ?_⟩⟩
      rw [esr]
      refine for_it (walk_str (z := S (srt (mb g.flatten)))) (fun i σ H5 => ∃ v5 v6 qa, σ = [some (.ref p), some (.int (N : Nat)), some (.ref l), some (.ref p0), some (.ref d), v5, v6, none] ∧ But d H3 H5 ∧ MdAt H5 d w (fun m => g0.flatten.idxOf m) (sureM g0 gs ((srt (mb g.flatten)).take i)) qa)
        ⟨none, none, fun _ => 0, rfl, But.same s4, s4 _ _ hd3, fun m hm => by simp [sureM] at hm⟩ (fun _ _ _ _ _ => True.intro) ?_ ?_
      · rintro i x σ H6 H5 hi ⟨v5, v6, qa, rfl, b5, M5⟩ ⟨rfl, m, hm, rfl⟩
        rw [S_at] at hm
        have mS := List.mem_of_getElem? hm
        have hmi := (List.getElem?_eq_some_iff.mp hm).1
        have mg : m ∈ mb g.flatten := mem_srt.mp mS
        have fd3 : ∀ {b o}, H3 b = some o → o ≠ .dK [] → H5 b = some o := fun {b o} e ne => b5 _ _ e fun z => ne (by rw [z, hd3] at e; exact (Option.some.inj e).symm)
        have tr5 : ∀ {a x}, TrayAt K D H3 a x → TrayAt K D H5 a x := fun {a x} t => by
          obtain ⟨d1, a1, e1, e2⟩ := t
          exact ⟨d1, a1, fd3 e1 (by simp), TK.seq_but e2 hd3 (fun _ _ => ⟨by simp, by simp⟩) b5⟩
        have T5 := tr5 (T0.same s3)
        have tl5 : TraysL K D H5 ps (dd gs) := Paired.mapP tl fun a x t => tr5 (t.same s3)
        have hl5 : H5 l = some (.lst (ps.map V.ref)) := fd3 (s3 _ _ hl) (by simp)
        have hd5 := M5.1
        generalize hcut : (srt (mb g.flatten)).take i = Mi at M5 hd5
        have tki : (srt (mb g.flatten)).take (i + 1) = Mi ++ [m] := by rw [List.take_succ, hm, ← hcut]; rfl
        rw [tki]
        have lMi : (sureM g0 gs Mi).length ≤ 26 := by
          refine Nat.le_trans (List.length_filter_le _ _) ?_
          rw [← hcut, List.length_take]
          omega
        have mMi : m ∉ Mi := by
          have ndt : (Mi ++ [m]).Nodup := by
            rw [← tki]
            exact ndM.sublist (List.take_sublist _ _)
          rw [List.nodup_append] at ndt
          exact fun z => ndt.2.2 m z m (List.mem_singleton.mpr rfl) rfl
        clear hcut tki
        -- its place
        refine ⟨fun σ H6 => ∃ q, σ = [some (.ref p), some (.int (N : Nat)), some (.ref l), some (.ref p0), some (.ref d), some (sg m), some (.ref q), none] ∧ Same H5 H6 ∧ H5 q = none ∧ PlcAt H6 q w g0 m, ?_, ?_⟩
        · obtain ⟨d1, a1, e1, _⟩ := id T5
          exact ⟨_, rfl, p0, rfl, _, rfl, ⟨d1, _, e1⟩, call_ok T5 V0 ((vg g0 g0m).2.mem_iff.mpr mg) fun H6 q s6 fq hq => ⟨q, rfl, s6, fq, hq⟩⟩
        rintro σ H6 ⟨q, rfl, s6, fq, hq⟩
        refine ⟨_, rfl, l, rfl, ⟨_, SqL.of (s6 _ _ hl5)⟩, fun D1 hD1 => lc_list (K := K) (a := l) (xs := ps.map V.ref) (fun j H7 => Same H6 H7 ∧ H7 D1 = some (.lst (((dd gs).take j).map fun x => V.bl (decide (x.flatten.idxOf m = g0.flatten.idxOf m)))))
          ⟨same_new hD1, upd_same⟩ (fun j H7 _ ⟨s7, _⟩ => s7.seq (SqL.of (s6 _ _ hl5))) ?_ ?_⟩
        · rintro j x H7 hx ⟨s7, hL⟩
          obtain ⟨a, ha, rfl⟩ := at_map hx
          have hj := (List.getElem?_eq_some_iff.mp ha).1
          rw [lps] at hj
          have hxj : (dd gs)[j]? = some (dd gs)[j] := List.getElem?_eq_getElem hj
          have hxm := List.mem_of_getElem? hxj
          obtain ⟨a', ha', Tx⟩ := paired_at tl5 j _ hxj
          rw [ha] at ha'
          cases ha'
          have Vx := vgd _ hxm
          have T7 := (Tx.same s6).same s7
          obtain ⟨d1, a1, e1, _⟩ := id T7
          have hq7 := s7 _ _ hq
          refine ⟨rfl, _, rfl, a, rfl, _, rfl, ⟨d1, _, e1⟩, call_ok T7 Vx.1 (Vx.2.mem_iff.mpr mg) fun H8 q8 s8 fq8 hq8 => ?_⟩
          refine ⟨_, rfl, plD w ((dd gs)[j].flatten.idxOf m), plD w (g0.flatten.idxOf m), pl_dp hq8, pl_dp (s8 _ _ hq7), pl_shaped _ _, pl_shaped _ _, ?_⟩
          rw [pl_eqv]
          have hL8 := s8 _ _ hL
          refine ⟨_, hL8, ?_, same_put (s7.trans s8) hD1, ?_⟩
          · rw [List.length_map, List.length_take]
            show _ < 16777216
            omega
          · rw [upd_same, List.take_succ, hxj, List.map_append]
            rfl
        · rintro H7 ⟨s7, hL⟩
          rw [List.length_map, lps, List.take_length] at hL
          refine ⟨D1, (dd gs).map fun x => decide (x.flatten.idxOf m = g0.flatten.idxOf m), rfl, SqL.of (by rw [List.map_map]; exact hL), ?_⟩
          rw [List.all_map]
          have ea : (dd gs).all (id ∘ fun x => decide (x.flatten.idxOf m = g0.flatten.idxOf m)) = gs.all fun x => decide (x.flatten.idxOf m = g0.flatten.idxOf m) := alld _
          rw [ea]
          have s57 := s6.trans s7
          have esm : sureM g0 gs (Mi ++ [m]) = sureM g0 gs Mi ++ (if (gs.all fun x => decide (x.flatten.idxOf m = g0.flatten.idxOf m)) = true then [m] else []) := by
            unfold sureM
            rw [List.filter_append]
            congr 1
            by_cases z : (gs.all fun x => decide (x.flatten.idxOf m = g0.flatten.idxOf m)) = true
            · rw [if_pos z]
              simp only [List.filter, z]
            · rw [if_neg z]
              simp only [List.filter, z]
          have b7 : But d H3 H7 := fun b o e ne => s57 _ _ (b5 _ _ e ne)
          cases hall : (gs.all fun x => decide (x.flatten.idxOf m = g0.flatten.idxOf m)) with
          | false =>
            rw [hall, if_neg Bool.false_ne_true, List.append_nil] at esm
            rw [esm]
            exact ⟨_, rfl, iteF ⟨_, _, qa, rfl, b7, M5.same s57⟩⟩
          | true =>
            rw [hall, if_pos rfl] at esm
            rw [esm]
            have hd7 := s57 _ _ hd5
            have fd : q ≠ d := fun z => by rw [z, hd5] at fq; cases fq
            have hqd : H7 q = some (.tup (plV w (g0.flatten.idxOf m))) := s7 _ _ hq
            refine ⟨_, rfl, iteT ⟨_, rfl, _, rfl, _, rfl, d, _, rfl, DPut.k (k := Sum.inr (S [m])) hd7 ?_, ?_⟩⟩
            · show (List.map _ _).length < 16777216
              rw [List.length_map]
              omega
            · have M7 := M5.same s57
              have mA : m ∉ sureM g0 gs Mi := fun z => mMi (List.mem_filter.mp z).1
              rw [mkv_new (q := q) mA]
              refine ⟨_, _, fun x => if x = m then q else qa x, rfl, fun b o e ne => by rw [upd_ne ne]; exact b7 _ _ e ne, upd_same, fun x hx => ?_⟩
              rcases List.mem_append.mp hx with hx | hx
              · have xm : x ≠ m := fun z => mA (z ▸ hx)
                show upd _ _ _ (if x = m then q else qa x) = _
                rw [if_neg xm, upd_ne fun z => by have := M7.2 x hx; rw [z, hd7] at this; cases this]
                exact M7.2 x hx
              · obtain rfl := List.mem_singleton.mp hx
                show upd _ _ _ (if x = x then q else qa x) = _
                rw [if_pos rfl, upd_ne fd]
                exact hqd
      · rintro σ H5 ⟨v5, v6, qa, rfl, b5, M5⟩
        have e : (S (srt (mb g.flatten))).cps.size = (srt (mb g.flatten)).length := S_len _
        rw [e, List.take_length] at M5
        exact ⟨v5, v6, qa, rfl, b5, M5⟩
    rintro σ H4 ⟨v5, v6, qa, rfl, b4, M4⟩
    refine ⟨_, rfl, k H4 d qa (fun b o e => b4 _ _ (s3 _ _ (s1 _ _ e)) ?_) ?_ M4⟩
    · rintro rfl
      rw [s1 _ _ e] at fd2
      cases fd2
    · cases e : H d with
      | none => rfl
      | some o =>
        rw [s1 _ _ e] at fd2
        cases fd2
end
end TR
end
section
set_option Elab.async false
set_option maxRecDepth 100000
set_option linter.all false
namespace TR
open PySem PySem.Spec PyProof.Rows L2 TM TX TK TB TP TH TU TW TI
structure SeenF (P : Program) (w_ : World) (K : PySem.W.Frag) (mg : Str → Option Value) (base : Heap) (n : Nat) (C D O CU : Addr) (a : Addr) (ns : List Int) : Prop where
  co : ClsO K mg O
  ct : ClsT K mg D
  len : mg "len" = none
  fTk : ∃ g fd, FnOk P w_ K mg base CX0 1 g fd ["_law_row", "_law_many"] (spTk K a ns) ∧ PySem.W.keepIn K (.ref g) = true ∧ Binds K fd ["_law_row", "_law_many"] [] ∧ mg "_law_taken" = some (.ref g)
  fGr : ∃ g fd, FnOk P w_ K mg base CX0 2 g fd ["_law_row", "_law_many"] (spGr K a ns) ∧ PySem.W.keepIn K (.ref g) = true ∧ Binds K fd ["_law_row", "_law_many"] [] ∧ mg "_law_great" = some (.ref g)
  fAr : ∃ g, FnRn n P w_ K mg base CX0 7 g (spAr K C D) ∧ PySem.W.keepIn K (.ref g) = true ∧ mg "after_rounds" = some (.ref g)
  mSm : ∃ g, Meth K O "see_marble" g ∧ FnRn n P w_ K mg base CX0 9 g (spOm K C D O)
  mSr : ∃ g, Meth K O "see_row" g ∧ FnRn n P w_ K mg base CX0 8 g (spOr K C D O)
  pCa : ∃ p g fd, PropOf K O "candidates" p g ∧ FnOk P w_ K mg base CX0 1 g fd ["self"] (spOc K C D O) ∧ Binds K fd ["self"] []
  pRw : ∃ p g fd, PropOf K D "rows" p g ∧ FnOk P w_ K mg base CX0 1 g fd ["self"] (getSp D "_rows") ∧ Binds K fd ["self"] []
  pHt : ∃ p g fd, PropOf K D "height" p g ∧ FnOk P w_ K mg base CX0 1 g fd ["self"] (spHt K D) ∧ Binds K fd ["self"] []
  pMb : ∃ p g fd, PropOf K D "marbles" p g ∧ FnOk P w_ K mg base CX0 1 g fd ["self"] (spMb K D) ∧ Binds K fd ["self"] []
  cal : ∃ g, StX.CallO K D g ∧ FnR P w_ K mg base (L2.CX P w_) 4 g (spCl K D CU)
section
variable {X : Cx} {n : Nat}
theorem pen_callOW {CX : CXT} {k : Nat} {C : Addr} {sp : Sp} {E : XK} {e fe : Expr} {es : List Expr} {tf : TE} {t : TA} {pos : Pos} {g : Addr} (hf : PEn n X fe tf) (c : StX.CallO X.K C g) (F : FnR X.prog X.w X.K X.mg X.base CX k g sp) (hr : Room k X.A) (hx : Passes CX X E) (ha : PAn n X (e :: es) t)
    (ht : eval (.Call fe (e :: es) [] pos) X.env = (do callWith pos (← eval fe X.env) [] (backTo pos (starEach (e :: es) X.env)) (backToKw pos (keywordEach [] X.env))) := by rfl)
    (he : starEach (e :: es) X.env = (false, eval e X.env) :: starEach es X.env := by rfl) (hpl : (backTo pos (starEach es X.env)).any (·.1) = false := by rfl) : PEn n X (.Call fe (e :: es) [] pos) (tCallO C sp E tf t) := by
  intro pins s σ H Q hn I h
  refine Call_ (thnN hn (hf pins s σ H _ hn I h) fun u s1 hn1 ⟨y, H1, I1, ry, a, ey, q⟩ => ?_) ht
  subst ey
  obtain rfl : u = Value.ref a := ry
  refine StX.callO_with (thn (ha pos pins s1 σ H1 _ hn1 I1 q) fun us s2 ⟨vs, H2, I2, r, hi, q2⟩ => ?_) he hpl
  obtain ⟨ox, od, J, hd⟩ := StX.insC_at I2 (.inr hi)
  exact ⟨⟨C, ox, od, J, hd⟩, StX.run_callO c F hr hx I2 (.inr hi) r q2⟩
end
/-- a test, a word between it and what follows -/
def tCutT (t : TT) : TT := fun σ H Q => ∃ R : Bool → Hp → Prop, t σ H R ∧ ∀ b H1, R b H1 → Q b H1
theorem ptn_cut {X : Cx} {n : Nat} {e : Expr} {t : TT} (h : PTn n X e t) : PTn n X e (tCutT t) := fun pins s σ H Q hn I ⟨R, hr, k⟩ => thn (h pins s σ H R hn I hr) fun b s1 ⟨H1, I1, q⟩ => ⟨H1, I1, k b H1 q⟩
def natD (l : List Nat) : List PyData := l.map fun n => PyData.int (n : Nat)
theorem nat_dp {K : PySem.W.Frag} {H : Hp} : ∀ l : List Nat, DpAll K H (natV l) (natD l)
  | [] => .nil
  | _ :: r => .cons (.int _) (nat_dp r)
theorem nat_lay : ∀ l : List Nat, PyData.canLayAll0 (natD l) = true
  | [] => rfl
  | c :: r => by
    show (PyData.canLay0 (.int _) && PyData.canLayAll0 (natD r)) = true
    rw [nat_lay r]
    rfl
theorem nat_depth : ∀ l : List Nat, PyData.depthAll (natD l) = 0
  | [] => rfl
  | c :: r => by
    show max (PyData.depth (.int _)) (PyData.depthAll (natD r)) = 0
    rw [nat_depth r]
    rfl
theorem nat_shaped (l : List Nat) : SeqAt.shaped (.list (natD l)) = true := by
  unfold SeqAt.shaped
  rw [show PyData.canLay0 (.list (natD l)) = PyData.canLayAll0 (natD l) from rfl, nat_lay l]
  rw [show PyData.depth (.list (natD l)) = PyData.depthAll (natD l) + 1 from rfl, nat_depth]
  rfl
theorem nat_refl (l : List Nat) : PyData.eqv (.list (natD l)) (.list (natD l)) = true := SeqAt.eqv_refl _ (nat_lay l)
theorem nat_inV {k : Nat} : ∀ {l : List Nat}, k ∈ l → inV (.int (k : Nat)) (natV l) = true := fun {l} h => by
  unfold inV natV
  rw [List.any_map]
  refine List.any_eq_true.mpr ⟨k, h, ?_⟩
  show eqV (.int (k : Nat)) (.int (k : Nat)) = true
  unfold eqV
  simp
theorem nat_flat (l : List Nat) : (natV l).all flatV = true := by
  unfold natV
  rw [List.all_map]
  exact List.all_eq_true.mpr fun _ _ => rfl
/-- all but two things are kept -/
def But2 (r p : Addr) (H H' : Hp) : Prop := ∀ b o, H b = some o → b ≠ r → b ≠ p → H' b = some o
theorem tray_butW {K : PySem.W.Frag} {D p r : Addr} {H H' : Hp} {g : Grid} {xs : List V} (h : TrayAt K D H p g) (hr : H r = some (.lst xs)) (b : But r H H') : TrayAt K D H' p g := by
  obtain ⟨dx, a, h1, h2⟩ := h
  have ne : p ≠ r := fun e => by
    rw [e, hr] at h1
    cases h1
  refine ⟨dx, a, b _ _ h1 ne, ?_⟩
  rcases h2 with (h2 | ⟨u, h2⟩) | h2
  · exact .inl (.inl (b _ _ h2 fun e => by rw [e, hr] at h2; cases h2))
  · exact .inl (.inr ⟨u, b _ _ h2 fun e => by rw [e, hr] at h2; cases h2⟩)
  · exact .inr h2
theorem word_butW {C p r : Addr} {H H' : Hp} {t : List Nat} {xs : List V} (h : WordAt C H p t) (hr : H r = some (.lst xs)) (b : But r H H') : WordAt C H' p t := by
  obtain ⟨dx, h1⟩ := h
  exact ⟨dx, b _ _ h1 fun e => by rw [e, hr] at h1; cases h1⟩
/-- what a turn keeps -/
structure IsC (K : PySem.W.Frag) (C D O a : Addr) (ns : List Int) (r p ta wl dl : Addr) (ws : List Addr) (g : Grid) (w : Nat) (ts : List (List Nat)) (cs : List Nat) (obs : List Ob) (H : Hp) : Prop where
  R : RowAt K a ns H r
  I : ObsAt K C D O H p g w ts cs obs
  T : TrayAt K D H ta g
  hwl : H wl = some (.lst (ws.map V.ref))
  wd : Paired (fun a t => WordAt C H a t) ws ts
  hdl : H dl = some (.lst (natV cs))
theorem IsC.same {K : PySem.W.Frag} {C D O a : Addr} {ns : List Int} {r p ta wl dl : Addr} {ws : List Addr} {g : Grid} {w : Nat} {ts : List (List Nat)} {cs : List Nat} {obs : List Ob} {H H' : Hp} (c : IsC K C D O a ns r p ta wl dl ws g w ts cs obs H) (s : Same H H') : IsC K C D O a ns r p ta wl dl ws g w ts cs obs H' :=
  ⟨c.R.same s, c.I.same s, c.T.same s, s _ _ c.hwl, Paired.mapP c.wd fun a t x => x.same s, s _ _ c.hdl⟩
theorem IsC.but {K : PySem.W.Frag} {C D O a : Addr} {ns : List Int} {r p ta wl dl : Addr} {ws : List Addr} {g : Grid} {w : Nat} {ts : List (List Nat)} {cs : List Nat} {obs : List Ob} {H H' : Hp} (c : IsC K C D O a ns r p ta wl dl ws g w ts cs obs H) (b : But r H H') (R : RowAt K a ns H' r) (n1 : wl ≠ r) (n2 : dl ≠ r) : IsC K C D O a ns r p ta wl dl ws g w ts cs obs H' := by
  obtain ⟨_, _, _, hr, _⟩ := c.R
  exact ⟨R, c.I.but hr b, tray_butW c.T hr b, b _ _ c.hwl n1, Paired.mapP c.wd fun a t x => word_butW x hr b, b _ _ c.hdl n2⟩
theorem row_ins {K : PySem.W.Frag} {a r p O dx : Addr} {ns : List Int} {fs : List (Str × V)} {H H' : Hp} (R : RowAt K a ns H r) (hp : H p = some (.ins O dx fs)) (b : But p H H') : RowAt K a ns H' r := by
  obtain ⟨i, s, q, hr, i0, hS⟩ := R
  refine ⟨i, s, q, b _ _ hr (fun z => by rw [z, hp] at hr; cases hr), i0, ?_⟩
  rcases hS with (h | ⟨u, h⟩) | h
  · exact .inl (.inl (b _ _ h fun e => by rw [e, hp] at h; cases h))
  · exact .inl (.inr ⟨u, b _ _ h fun e => by rw [e, hp] at h; cases h⟩)
  · exact .inr h
section
variable {P : Program} {w_ : World} {K : PySem.W.Frag} {mg : Str → Option Value} {base : Heap} {C D O CU a : Addr} {ns : List Int} {n : Nat}
abbrev NIs : List Str := ["_law_row", "_law_observer", "_law_tray_here", "_law_words", "_law_hidden", "_law_due", "_law_rounds", "_law_truth", "_law_marble", "_law_left", "_law_count", "_law_line", "_law_k"]
theorem scIs : FnScope NIs ["_law_row", "_law_observer", "_law_tray_here", "_law_words", "_law_hidden", "_law_due"] (defScope sLawIsSeen) := ⟨rfl, rfl, rfl, by decide +kernel, rfl, by decide +kernel, by decide +kernel⟩
def spIs (K : PySem.W.Frag) (C D O a : Addr) (ns : List Int) : Sp := fun vs H Q _ => ∃ (r p ta wl dl h w hid : Nat) (ws : List Addr) (g : Grid) (ts : List (List Nat)) (cs : List Nat) (obs : List Ob), vs = [.ref r, .ref p, .ref ta, .ref wl, .int (hid : Nat), .ref dl] ∧ RowAt K a ns H r ∧ ObsAt K C D O H p g w ts cs obs ∧ TrayAt K D H ta g ∧ VG h w g ∧
  H wl = some (.lst (ws.map V.ref)) ∧ Paired (fun a t => WordAt C H a t) ws ts ∧ hid ∈ cs ∧ (∀ c ∈ cs, c < ts.length) ∧ cs.length ≤ 1000 ∧ obs.length ≤ 900 ∧ H dl = some (.lst (natV cs)) ∧ wl ≠ r ∧
  ∀ H' l o, RowAt K a ns H' r → ObsAt K C D O H' p g w ts (remO h w g ts cs o) (obs ++ [o]) → okOb h w g o → hid ∈ remO h w g ts cs o → H' l = some (.lst (natV (remO h w g ts cs o))) → But2 r p H H' → Q (.ref l) H'
theorem ok_is {f : Addr} {fd : FuncData} (F : Fun K "_law_is_seen" "_law_is_seen" sLawIsSeen f fd) (b : Binds K fd ["_law_row", "_law_observer", "_law_tray_here", "_law_words", "_law_hidden", "_law_due"] []) (L : SeenF P w_ K mg base n C D O CU a ns) : FnRn n P w_ K mg base CX0 10 f (spIs K C D O a ns) := by
  obtain ⟨gTk, fdTk, GTk, kTk, bTk, mTk⟩ := L.fTk
  obtain ⟨gGr, fdGr, GGr, kGr, bGr, mGr⟩ := L.fGr
  obtain ⟨gAr, GAr, kAr, mAr⟩ := L.fAr
  obtain ⟨gSm, MSm, GSm⟩ := L.mSm
  obtain ⟨gSr, MSr, GSr⟩ := L.mSr
  obtain ⟨pC, gC, fdC, PC, GC, bC⟩ := L.pCa
  obtain ⟨pR, gR, fdR, PR, GR, bR⟩ := L.pRw
  obtain ⟨pH, gH, fdH, PH, GH, bH⟩ := L.pHt
  obtain ⟨pM, gM, fdM, PM, GM, bM⟩ := L.pMb
  obtain ⟨gCl, CAL, GCl⟩ := L.cal
  have co := L.co
  have CT := L.ct
  refine fn_n F b scIs (fun vs H Q E h => ?_) fun cdv A outer s H vs Q E hr h => ?_
  · obtain ⟨r, p, ta, wl, dl, h, w, hid, ws, g, ts, cs, obs, rfl, _⟩ := h
    rfl
  · obtain ⟨r, p, ta, wl, dl, h, w, hid, ws, g, ts, cs, obs, rfl, R, I, T0, hV, hwl, wd, hcs, hc, cs1000, l900, hdl, wlr, k⟩ := h
    have nd := scIs.nd
    have r8 := hr.mono (show 8 ≤ 9 by decide)
    have r7 := hr.mono (show 7 ≤ 9 by decide)
    have r4 := hr.mono (show 4 ≤ 9 by decide)
    have r2 := hr.mono (show 2 ≤ 9 by decide)
    have r1 := hr.mono (show 1 ≤ 9 by decide)
    refine ⟨_, pssn_cut (PS.up (ps_set (i := 6) nd rfl (.inr rfl) (pe_ix ix_list (pe_lst (pa_cons (pe_call GTk r1 rfl mTk kTk bTk .nil pass0 (pa_cons (pv 0) (pa_cons pe_int pa_nil))) (pa_cons (pe_call GGr r2 rfl mGr kGr bGr .nil pass0 (pa_cons (pv 0) (pa_cons (pe_op op_pow pe_int pe_int) pa_nil))) pa_nil))) (pe_call GTk r1 rfl mTk kTk bTk .nil pass0 (pa_cons (pv 0) (pa_cons pe_int pa_nil))) (fun _ _ => rfl))))
      (pssn_cut (psn_set (i := 7) nd rfl (.inr rfl) (pen_call GAr r7 rfl mAr kAr pass0 (pan_cons (PE.up (pv 2)) (pan_cons (PE.up (pe_ix ix_list (pv 3) (pv 4) (fun _ _ => rfl))) (pan_cons (PE.up (pv 6)) pan_nil)))))
      (pssn_cut (psn_if (ptn_cut (PT.up (PW.pt (pw_and (pt_cmpR op_ne (pe_prop (pv 2) CT.cl PM GM r2 bM .nil pass0 rfl) pe_str (nomark _)) (pw_and1 (pt_cmpR op_eq (pe_call GTk r1 rfl mTk kTk bTk .nil pass0 (pa_cons (pv 0) (pa_cons pe_int pa_nil))) pe_int (nomark _)))))))
          (pssn_cut (PS.up (ps_set (i := 8) nd rfl (.inr rfl) (pe_ix ix_str (pe_prop (pv 2) CT.cl PM GM r2 bM .nil pass0 rfl) (pe_call GTk r1 rfl mTk kTk bTk .nil pass0 (pa_cons (pv 0) (pa_cons (pe_callB call_len_str (by rfl) L.len PySem.boot_len (pa_cons (pe_prop (pv 2) CT.cl PM GM r2 bM .nil pass0 rfl) pa_nil)) pa_nil))) (fun _ _ => rfl))))
          (pssn_cut (psn_setLcF (i := 9) (own := [("_law_k", 12)]) (g := gName 12) rfl nd rfl rfl (sw_true rfl rfl rfl (by decide +kernel)) (PI.up (pi_list (pv 5))) (blkOk_by (N := NIs) (sc := defScope sLawIsSeen) (by decide +kernel)) (fun _ _ _ _ _ => pg_name (i := 12) nd rfl (.inl rfl))
            (fun _ _ _ _ _ => ptsn_one (ptn_cmpR (TQ.op_eqDK (K := K) rfl hr.units) (pen_callOW (pen_call GAr r7 rfl mAr kAr pass0 (pan_cons (PE.up (pv 2)) (pan_cons (PE.up (pe_ix (TA.ix_listK (K := K) rfl) (pv 3) (pv 12) (fun _ _ => rfl))) (pan_cons (PE.up (pv 6)) pan_nil)))) CAL GCl r4 passL (pan_cons (PE.up (pv 8)) pan_nil)) (PE.up (pe_callO (pv 7) CAL GCl r4 passL (pa_cons (pv 8) pa_nil))) (nomark _)))
            (fun _ _ _ _ _ => PE.up (pv 12)))
          (pssn_one (psn_set (i := 10) nd rfl (.inl rfl) (pen_methR (pv 1) co.cl MSm GSm hr pass0 (pa_cons (pv 6) (pa_cons (pv 8) (pa_cons (pe_callO (pv 7) CAL GCl r4 passL (pa_cons (pv 8) pa_nil)) pa_nil))))))))
          (pssn_cut (PS.up (ps_set (i := 11) nd rfl (.inr rfl) (pe_call GTk r1 rfl mTk kTk bTk .nil pass0 (pa_cons (pv 0) (pa_cons (pe_prop (pv 2) CT.cl PH GH r2 bH .nil pass0 rfl) pa_nil)))))
          (pssn_cut (psn_setLcF (i := 9) (own := [("_law_k", 12)]) (g := gName 12) rfl nd rfl rfl (sw_true rfl rfl rfl (by decide +kernel)) (PI.up (pi_list (pv 5))) (blkOk_by (N := NIs) (sc := defScope sLawIsSeen) (by decide +kernel)) (fun _ _ _ _ _ => pg_name (i := 12) nd rfl (.inl rfl))
            (fun _ _ _ _ _ => ptsn_one (ptn_cmpR op_eq (pen_ix (ix_tupK (K := K) rfl) (pen_prop (pen_call GAr r7 rfl mAr kAr pass0 (pan_cons (PE.up (pv 2)) (pan_cons (PE.up (pe_ix (TA.ix_listK (K := K) rfl) (pv 3) (pv 12) (fun _ _ => rfl))) (pan_cons (PE.up (pv 6)) pan_nil)))) CT.cl PR GR r2 bR .nil pass0 rfl) (PE.up (pv 11)) (fun _ _ => rfl)) (PE.up (pe_ix (ix_tupK (K := K) rfl) (pe_prop (pv 7) CT.cl PR GR r2 bR .nil pass0 rfl) (pv 11) (fun _ _ => rfl))) (nomark _)))
            (fun _ _ _ _ _ => PE.up (pv 12)))
          (pssn_one (psn_set (i := 10) nd rfl (.inl rfl) (pen_methR (pv 1) co.cl MSr GSr r8 pass0 (pa_cons (pv 6) (pa_cons (pv 11) (pa_cons (pe_ix ix_tup (pe_prop (pv 7) CT.cl PR GR r2 bR .nil pass0 rfl) (pv 11) (fun _ _ => rfl)) pa_nil)))))))))
      (pssn_one (PS.up (ps_ret (pe_ifExp (PW.pt (pw_and (pt_cmpR op_eq (pv 10) (pe_callB call_len_seq (by rfl) L.len PySem.boot_len (pa_cons (pv 9) pa_nil)) (nomark _)) (pw_and (pt_cmpR (op_eqD hr.units) (pe_prop (pv 1) co.cl PC GC r2 bC .nil pass0 rfl) (pv 9) (nomark _)) (pw_and1 (pt_cmpR op_in_seq (pv 4) (pv 9) (by rfl)))))) (pv 9) pe_non)))))), ?_⟩
    have c0 : IsC K C D O a ns r p ta wl dl ws g w ts cs obs H := ⟨R, I, T0, hwl, wd, hdl⟩
    have hne : cs ≠ [] := fun z => by rw [z] at hcs; cases hcs
    have dlr : dl ≠ r := by
      rintro rfl
      obtain ⟨_, _, _, hr_, _⟩ := id R
      rw [hdl] at hr_
      cases cs with
      | nil => exact hne rfl
      | cons x xs =>
        injection hr_ with e
        injection e with e
        injection e with e _
        cases e
    clear R I T0 hwl wd hdl
    -- the rounds
    refine ⟨fun σ H1 => ∃ N : Nat, σ = [some (.ref r), some (.ref p), some (.ref ta), some (.ref wl), some (.int (hid : Nat)), some (.ref dl), some (.int (N : Nat)), none, none, none, none, none, none] ∧ N ≤ 10 ^ 18 ∧ IsC K C D O a ns r p ta wl dl ws g w ts cs obs H1 ∧ But r H H1, ?_, ?_⟩
    · refine ⟨_, rfl, r, 6, rfl, c0.R, by decide, by decide, fun H1 i hi R1 b1 => ?_⟩
      have c1 := c0.but b1 R1 wlr dlr
      refine ⟨_, rfl, _, _, rfl, rfl, ⟨by decide, by decide, by decide⟩, r, (10 : Int) ^ (18 : Int).toNat, rfl, R1, by decide, fun H2 y hy R2 b2 => ?_⟩
      have c2 := c1.but b2 R2 wlr dlr
      refine ⟨by show 2 ≤ sizeLine; decide, fun l hl => ?_⟩
      have s3 := same_new (o := .lst [V.int (i : Nat), V.int (y : Nat)]) hl
      have hl3 : upd H2 l (.lst [V.int (i : Nat), V.int (y : Nat)]) l = some (.lst [V.int (i : Nat), V.int (y : Nat)]) := upd_same
      have lr := R2.ne hl
      refine ⟨_, rfl, r, 2, rfl, R2.same s3, by decide, by decide, fun H4 j hj R4 b4 => ?_⟩
      have c4 := (c2.same s3).but b4 R4 wlr dlr
      have hl4 := b4 _ _ hl3 lr
      have b04 : But r H H4 := ((b1.trans b2).trans (But.same s3)).trans b4
      have hj2 : j = 0 ∨ j = 1 := by omega
      rcases hj2 with rfl | rfl
      · exact ⟨l, _, _, .int (i : Nat), rfl, rfl, SqL.of hl4, rfl, i, rfl, by omega, c4, b04⟩
      · refine ⟨l, _, _, .int (y : Nat), rfl, rfl, SqL.of hl4, rfl, y, rfl, ?_, c4, b04⟩
        have : (10 : Int) ^ (18 : Int).toNat = 1000000000000000000 := by decide
        omega
    rintro σ H1 ⟨N, rfl, hN, c1, b1⟩
    clear c0
    -- the truth
    have hlt := hc hid hcs
    have et : ts.getD hid [] = ts[hid] := by rw [List.getD_eq_getElem?_getD, List.getElem?_eq_getElem hlt]; rfl
    refine ⟨fun σ H2 => ∃ rt, σ = [some (.ref r), some (.ref p), some (.ref ta), some (.ref wl), some (.int (hid : Nat)), some (.ref dl), some (.int (N : Nat)), some (.ref rt), none, none, none, none, none] ∧ IsC K C D O a ns r p ta wl dl ws g w ts cs obs H2 ∧ But r H H2 ∧ TrayAt K D H2 rt (aftG h w g ts N hid), ?_, ?_⟩
    · obtain ⟨aw, haw, W⟩ := paired_at c1.wd hid (ts[hid]) (List.getElem?_eq_getElem hlt)
      refine ⟨_, rfl, _, rfl, _, rfl, wl, _, hid, .ref aw, rfl, rfl, SqL.of c1.hwl, atI_nat (by rw [List.getElem?_map, haw]; rfl), _, rfl, ta, aw, h, w, N, g, ts[hid], rfl, c1.T, hV, W, hN, fun H2 rt s2 tt => ?_⟩
      refine ⟨rt, rfl, c1.same s2, b1.trans (But.same s2), ?_⟩
      show TrayAt K D H2 rt (rounds h w (ts.getD hid []) N g)
      rw [et]
      exact tt
    rintro σ H2 ⟨rt, rfl, c2, b2, tt⟩
    clear c1 b1 H1
    have VN : VG h w (aftG h w g ts N hid) := VG.rounds N hV
    refine ⟨fun σ H3 => ∃ v8 l o v11, σ = [some (.ref r), some (.ref p), some (.ref ta), some (.ref wl), some (.int (hid : Nat)), some (.ref dl), some (.int (N : Nat)), some (.ref rt), v8, some (.ref l), some (.int ((remO h w g ts cs o).length : Nat)), v11, none] ∧ RowAt K a ns H3 r ∧ ObsAt K C D O H3 p g w ts (remO h w g ts cs o) (obs ++ [o]) ∧ okOb h w g o ∧ hid ∈ remO h w g ts cs o ∧ H3 l = some (.lst (natV (remO h w g ts cs o))) ∧ But2 r p H H3, ?_, ?_⟩
    · refine ⟨fun b H3 => IsC K C D O a ns r p ta wl dl ws g w ts cs obs H3 ∧ But r H H3 ∧ TrayAt K D H3 rt (aftG h w g ts N hid) ∧ (b = true → srt (mb g.flatten) ≠ []), ?_, ?_⟩
      · obtain ⟨d1, a1, e1, _⟩ := id c2.T
        refine ⟨_, rfl, ta, d1, _, rfl, e1, ta, h, w, g, rfl, c2.T, hV, fun H3 s3 => ⟨rfl, _, rfl, ?_⟩⟩
        have c3 := c2.same s3
        have b3 := b2.trans (But.same s3)
        have t3 := tt.same s3
        cases hz : decide (V.str (S (srt (mb g.flatten))) = V.str (Str.ofString "")) with
        | true => exact iteF ⟨c3, b3, t3, fun z => by cases z⟩
        | false =>
          refine iteT ⟨_, rfl, r, 2, rfl, c3.R, by decide, by decide, fun H4 j hj R4 b4 => ⟨rfl, _, rfl, c3.but b4 R4 wlr dlr, b3.trans b4, ?_, fun _ z => ?_⟩⟩
          · obtain ⟨_, _, _, hr_, _⟩ := id c3.R
            exact tray_butW t3 hr_ b4
          · rw [z] at hz
            exact absurd hz (by decide)
      rintro b H3 ⟨c3, b3, t3, hM⟩
      cases b with
      | true =>
        refine iteT ?_
        have hM := hM rfl
        -- a marble
        refine ⟨fun σ H4 => ∃ m, σ = [some (.ref r), some (.ref p), some (.ref ta), some (.ref wl), some (.int (hid : Nat)), some (.ref dl), some (.int (N : Nat)), some (.ref rt), some (sg m), none, none, none, none] ∧ m ∈ mb g.flatten ∧ IsC K C D O a ns r p ta wl dl ws g w ts cs obs H4 ∧ But r H H4 ∧ TrayAt K D H4 rt (aftG h w g ts N hid), ?_, ?_⟩
        · obtain ⟨d1, a1, e1, _⟩ := id c3.T
          refine ⟨_, rfl, ta, d1, _, rfl, e1, ta, h, w, g, rfl, c3.T, hV, fun H4 s4 => ?_⟩
          have c4 := c3.same s4
          refine ⟨_, rfl, _, rfl, ta, d1, _, rfl, s4 _ _ e1, ta, h, w, g, rfl, c4.T, hV, fun H5 s5 => ?_⟩
          have c5 := c4.same s5
          have l26 : (srt (mb g.flatten)).length ≤ 26 := by rw [(srt_perm _).length_eq]; exact mb_26 hV
          have l1 : 1 ≤ (srt (mb g.flatten)).length := by
            rcases Nat.eq_zero_or_pos (srt (mb g.flatten)).length with z | z
            · exact absurd (List.eq_nil_of_length_eq_zero z) hM
            · exact z
          have eS : (S (srt (mb g.flatten))).length = (srt (mb g.flatten)).length := S_len _
          refine ⟨_, rfl, ?_, r, _, rfl, c5.R, ?_, ?_, fun H6 j hj R6 b6 => ?_⟩
          · rw [eS]
            show _ ≤ 16777216
            omega
          · rw [eS]
            omega
          · rw [eS]
            omega
          rw [eS] at hj
          have c6 := c5.but b6 R6 wlr dlr
          obtain ⟨_, _, _, hr_, _⟩ := id c5.R
          have hjl : j < (srt (mb g.flatten)).length := by omega
          refine ⟨_, _, (srt (mb g.flatten))[j], rfl, rfl, ?_, atI_nat ?_, _, rfl, mem_srt.mp (List.getElem_mem hjl), c6, (b3.trans (But.same (s4.trans s5))).trans b6, tray_butW ((t3.same s4).same s5) hr_ b6⟩
          · rw [eS]
            show _ ≤ 16777216
            omega
          · rw [S_list]
            exact List.getElem?_eq_getElem hjl
        rintro σ H4 ⟨m, rfl, hm, c4, b4, t4⟩
        clear c3 b3 t3 H3
        -- the words that are left
        refine ⟨fun σ H5 => ∃ l, σ = [some (.ref r), some (.ref p), some (.ref ta), some (.ref wl), some (.int (hid : Nat)), some (.ref dl), some (.int (N : Nat)), some (.ref rt), some (sg m), some (.ref l), none, none, none] ∧ Same H4 H5 ∧ H4 l = none ∧ H5 l = some (.lst (natV (remM h w g ts N m (lieAt h w g ts N m hid) cs))), ?_, ?_⟩
        · refine ⟨_, rfl, dl, rfl, ⟨_, SqL.of c4.hdl⟩, fun D1 hD1 => lc_list (K := K) (a := dl) (xs := natV cs) (fun i H5 => Same H4 H5 ∧ H5 D1 = some (.lst (natV (remM h w g ts N m (lieAt h w g ts N m hid) (cs.take i)))))
            ⟨same_new hD1, upd_same⟩ (fun i H5 _ ⟨s5, _⟩ => s5.seq (SqL.of c4.hdl)) ?_ ?_⟩
          · rintro i x H5 hx ⟨s5, hL⟩
            obtain ⟨c, hcc, rfl⟩ := at_map hx
            have mc := List.mem_of_getElem? hcc
            have c5 := c4.same s5
            have lt := hc c mc
            obtain ⟨aw, haw, W⟩ := paired_at c5.wd c (ts[c]) (List.getElem?_eq_getElem lt)
            have et' : ts.getD c [] = ts[c] := by rw [List.getD_eq_getElem?_getD, List.getElem?_eq_getElem lt]; rfl
            refine ⟨rfl, _, rfl, _, rfl, _, rfl, wl, _, c, .ref aw, rfl, rfl, SqL.of c5.hwl, atI_nat (by rw [List.getElem?_map, haw]; rfl), _, rfl, ta, aw, h, w, N, g, ts[c], rfl, c5.T, hV, W, hN, fun H6 r6 s6 t6 => ?_⟩
            obtain ⟨d6, a6, e6, _⟩ := id t6
            refine ⟨r6, rfl, _, rfl, ⟨d6, _, e6⟩, call_ok t6 (VG.rounds N hV) ((mb_rounds hV N).mem_iff.mpr hm) fun H7 q7 s7 fq7 hq7 => ?_⟩
            have t7 := ((t4.same s5).same s6).same s7
            obtain ⟨d7, a7, e7, _⟩ := id t7
            refine ⟨_, rfl, rt, rfl, _, rfl, ⟨d7, _, e7⟩, call_ok t7 VN ((mb_rounds hV N).mem_iff.mpr hm) fun H8 q8 s8 fq8 hq8 => ?_⟩
            refine ⟨plD w ((rounds h w ts[c] N g).flatten.idxOf m), plD w (lieAt h w g ts N m hid), pl_dp (s8 _ _ hq7), pl_dp hq8, pl_shaped _ _, pl_shaped _ _, _, rfl, ?_⟩
            rw [pl_eqv]
            have s58 := s6.trans (s7.trans s8)
            have hL8 := s58 _ _ hL
            have tk : remM h w g ts N m (lieAt h w g ts N m hid) (cs.take (i + 1)) = remM h w g ts N m (lieAt h w g ts N m hid) (cs.take i) ++ (if decide ((rounds h w ts[c] N g).flatten.idxOf m = lieAt h w g ts N m hid) = true then [c] else []) := by
              unfold remM
              rw [List.take_succ, hcc, List.filter_append]
              congr 1
              show ([c] : List Nat).filter _ = _
              have e1 : decide (lieAt h w g ts N m c = lieAt h w g ts N m hid) = decide ((rounds h w ts[c] N g).flatten.idxOf m = lieAt h w g ts N m hid) := by
                unfold lieAt
                rw [et']
              by_cases z : decide ((rounds h w ts[c] N g).flatten.idxOf m = lieAt h w g ts N m hid) = true
              · rw [if_pos z]
                rw [← e1] at z
                simp only [List.filter, z]
              · rw [if_neg z]
                rw [← e1] at z
                simp only [List.filter, z]
            have ilt := (List.getElem?_eq_some_iff.mp hcc).1
            cases z : decide ((rounds h w ts[c] N g).flatten.idxOf m = lieAt h w g ts N m hid) with
            | true =>
              rw [z, if_pos rfl] at tk
              refine iteT ⟨_, rfl, _, hL8, ?_, same_put (s5.trans s58) hD1, ?_⟩
              · rw [List.length_map]
                have := List.length_filter_le (fun c => decide (lieAt h w g ts N m c = lieAt h w g ts N m hid)) (cs.take i)
                rw [List.length_take] at this
                show _ < 16777216
                unfold remM
                omega
              · rw [upd_same, tk]
                unfold natV
                rw [List.map_append]
                rfl
            | false =>
              rw [z, if_neg Bool.false_ne_true, List.append_nil] at tk
              exact iteF ⟨s5.trans s58, by rw [tk]; exact hL8⟩
          · rintro H5 ⟨s5, hL⟩
            rw [List.length_map, List.take_length] at hL
            exact ⟨D1, rfl, s5, hD1, hL⟩
        rintro σ H5 ⟨l, rfl, s5, fl, hl5⟩
        have c5 := c4.same s5
        have t5 := t4.same s5
        have hho : hid ∈ remM h w g ts N m (lieAt h w g ts N m hid) cs := List.mem_filter.mpr ⟨hcs, decide_eq_true rfl⟩
        have hmN : m ∈ mb (aftG h w g ts N hid).flatten := (mb_rounds hV N).mem_iff.mpr hm
        have hk : lieAt h w g ts N m hid < h * w := by
          rw [← flat_len VN.rc]
          exact (idx_at (mem_mb.mp hmN).1).1
        obtain ⟨dx, ta', wa, ca, oa, ws', os, I5⟩ := id c5.I
        obtain ⟨d5, a5, e5, _⟩ := id t5
        refine ⟨_, rfl, p, dx, _, rfl, I5.hp, rfl, _, rfl, _, rfl, _, rfl, rt, rfl, _, rfl, ⟨d5, _, e5⟩, call_ok t5 VN hmN fun H6 q s6 fq hq => ?_⟩
        have c6 := c5.same s6
        refine ⟨p, h, w, N, m, lieAt h w g ts N m hid, q, g, ts, cs, obs, rfl, c6.I, hV, hN, hm, hq, hk, hc, cs1000, List.ne_nil_of_mem hho, by omega, fun H7 I7 b7 => ?_⟩
        obtain ⟨dx6, ta6, wa6, ca6, oa6, ws6, os6, I6'⟩ := id c6.I
        have hl6 := s6 _ _ hl5
        have lp : l ≠ p := fun z => by rw [z, I6'.hp] at hl6; cases hl6
        refine ⟨_, l, .mb N m (lieAt h w g ts N m hid), _, rfl, row_ins c6.R I6'.hp b7, I7, ?_, hho, b7 _ _ hl6 lp, fun b o e n1 n2 => b7 _ _ (s6 _ _ (s5 _ _ (b4 _ _ e n1))) n2⟩
        exact ⟨hN, hm, hk⟩
      | false =>
        refine iteF ?_
        -- a row
        refine ⟨fun σ H4 => ∃ j, σ = [some (.ref r), some (.ref p), some (.ref ta), some (.ref wl), some (.int (hid : Nat)), some (.ref dl), some (.int (N : Nat)), some (.ref rt), none, none, none, some (.int (j : Nat)), none] ∧ j < h ∧ IsC K C D O a ns r p ta wl dl ws g w ts cs obs H4 ∧ But r H H4 ∧ TrayAt K D H4 rt (aftG h w g ts N hid), ?_, ?_⟩
        · obtain ⟨d1, a1, e1, _⟩ := id c3.T
          have := hV.n1
          have := hV.n8
          refine ⟨_, rfl, _, rfl, ta, d1, _, rfl, e1, ta, h, w, g, rfl, c3.T, hV, r, (h : Nat), rfl, c3.R, by omega, by omega, fun H4 j hj R4 b4 => ?_⟩
          obtain ⟨_, _, _, hr_, _⟩ := id c3.R
          exact ⟨j, rfl, by omega, c3.but b4 R4 wlr dlr, b3.trans b4, tray_butW t3 hr_ b4⟩
        rintro σ H4 ⟨j, rfl, hj, c4, b4, t4⟩
        clear c3 b3 t3 H3
        have row_at : ∀ c, c < ts.length → ∃ rr, (aftG h w g ts N c)[j]? = some rr := fun c _ => ⟨_, List.getElem?_eq_getElem (l := aftG h w g ts N c) (by rw [(VG.rounds (t := ts.getD c []) N hV).rc.1]; exact hj)⟩
        obtain ⟨ru, hru⟩ := row_at hid hlt
        have eru : rowAt h w g ts N j hid = ru := by
          unfold rowAt
          rw [List.getD_eq_getElem?_getD, hru]
          rfl
        refine ⟨fun σ H5 => ∃ l, σ = [some (.ref r), some (.ref p), some (.ref ta), some (.ref wl), some (.int (hid : Nat)), some (.ref dl), some (.int (N : Nat)), some (.ref rt), none, some (.ref l), none, some (.int (j : Nat)), none] ∧ Same H4 H5 ∧ H4 l = none ∧ H5 l = some (.lst (natV (remR h w g ts N j ru cs))), ?_, ?_⟩
        · refine ⟨_, rfl, dl, rfl, ⟨_, SqL.of c4.hdl⟩, fun D1 hD1 => lc_list (K := K) (a := dl) (xs := natV cs) (fun i H5 => Same H4 H5 ∧ H5 D1 = some (.lst (natV (remR h w g ts N j ru (cs.take i)))))
            ⟨same_new hD1, upd_same⟩ (fun i H5 _ ⟨s5, _⟩ => s5.seq (SqL.of c4.hdl)) ?_ ?_⟩
          · rintro i x H5 hx ⟨s5, hL⟩
            obtain ⟨c, hcc, rfl⟩ := at_map hx
            have mc := List.mem_of_getElem? hcc
            have c5 := c4.same s5
            have lt := hc c mc
            obtain ⟨aw, haw, W⟩ := paired_at c5.wd c (ts[c]) (List.getElem?_eq_getElem lt)
            have et' : ts.getD c [] = ts[c] := by rw [List.getD_eq_getElem?_getD, List.getElem?_eq_getElem lt]; rfl
            obtain ⟨rr, hrr⟩ := row_at c lt
            have hrr' : (rounds h w ts[c] N g)[j]? = some rr := by
              rw [← et']
              exact hrr
            refine ⟨rfl, _, rfl, _, rfl, _, rfl, wl, _, c, .ref aw, rfl, rfl, SqL.of c5.hwl, atI_nat (by rw [List.getElem?_map, haw]; rfl), _, rfl, ta, aw, h, w, N, g, ts[c], rfl, c5.T, hV, W, hN, fun H6 r6 s6 t6 => ?_⟩
            obtain ⟨d6, a6, e6, f6⟩ := id t6
            refine ⟨r6, d6, _, rfl, e6, r6, d6, _, _, rfl, e6, rfl, _, rfl, a6, _, j, .str (S rr), rfl, rfl, f6, atI_nat (by rw [List.getElem?_map, hrr']; rfl), ?_⟩
            have t7 := (t4.same s5).same s6
            obtain ⟨d7, a7, e7, f7⟩ := id t7
            refine ⟨_, rfl, rt, d7, _, rfl, e7, rt, d7, _, _, rfl, e7, rfl, _, rfl, a7, _, j, .str (S ru), rfl, rfl, f7, atI_nat (by rw [List.getElem?_map, hru]; rfl), rfl, _, rfl, ?_⟩
            have er : rowAt h w g ts N j c = rr := by
              unfold rowAt
              rw [List.getD_eq_getElem?_getD, hrr]
              rfl
            have tk : remR h w g ts N j ru (cs.take (i + 1)) = remR h w g ts N j ru (cs.take i) ++ (if decide (rr = ru) = true then [c] else []) := by
              unfold remR
              rw [List.take_succ, hcc, List.filter_append]
              congr 1
              show ([c] : List Nat).filter _ = _
              by_cases z : decide (rr = ru) = true
              · rw [if_pos z]
                simp only [List.filter, er, z]
              · rw [if_neg z]
                simp only [List.filter, er, z]
            have ilt := (List.getElem?_eq_some_iff.mp hcc).1
            have ed : decide (V.str (S rr) = V.str (S ru)) = decide (rr = ru) := decide_eq_decide.mpr ⟨fun z => S_inj (V.str.inj z), fun z => by rw [z]⟩
            rw [ed]
            have hL6 := s6 _ _ hL
            cases z : decide (rr = ru) with
            | true =>
              rw [z, if_pos rfl] at tk
              refine iteT ⟨_, rfl, _, hL6, ?_, same_put (s5.trans s6) hD1, ?_⟩
              · rw [List.length_map]
                have := List.length_filter_le (fun c => decide (rowAt h w g ts N j c = ru)) (cs.take i)
                rw [List.length_take] at this
                show _ < 16777216
                unfold remR
                omega
              · rw [upd_same, tk]
                unfold natV
                rw [List.map_append]
                rfl
            | false =>
              rw [z, if_neg Bool.false_ne_true, List.append_nil] at tk
              exact iteF ⟨s5.trans s6, by rw [tk]; exact hL6⟩
          · rintro H5 ⟨s5, hL⟩
            rw [List.length_map, List.take_length] at hL
            exact ⟨D1, rfl, s5, hD1, hL⟩
        rintro σ H6 ⟨l, rfl, s5, fl, hl5⟩
        have c6 := c4.same s5
        have t6 := t4.same s5
        have hho : hid ∈ remR h w g ts N j ru cs := List.mem_filter.mpr ⟨hcs, decide_eq_true eru⟩
        obtain ⟨dx6, ta6, wa6, ca6, oa6, ws6, os6, I6'⟩ := id c6.I
        obtain ⟨d5, a5, e5, f5⟩ := id t6
        refine ⟨_, rfl, p, dx6, _, rfl, I6'.hp, rfl, _, rfl, _, rfl, _, rfl, rt, d5, _, rfl, e5, rt, d5, _, _, rfl, e5, rfl, _, rfl, a5, _, j, .str (S ru), rfl, rfl, f5, atI_nat (by rw [List.getElem?_map, hru]; rfl), ?_⟩
        refine ⟨p, h, w, N, j, ru, g, ts, cs, obs, rfl, c6.I, hV, hN, hj, hc, cs1000, List.ne_nil_of_mem hho, by omega, fun H7 I7 b7 => ?_⟩
        have hl6 := hl5
        have lp : l ≠ p := fun z => by rw [z, I6'.hp] at hl6; cases hl6
        refine ⟨_, l, .rw N j ru, _, rfl, row_ins c6.R I6'.hp b7, I7, ?_, hho, b7 _ _ hl6 lp, fun b o e n1 n2 => b7 _ _ (s5 _ _ (b4 _ _ e n1)) n2⟩
        refine ⟨hN, hj, fun c hc => ?_⟩
        exact VN.ok ru (List.mem_of_getElem? hru) c hc
    rintro σ H3 ⟨v8, l, o, v11, rfl, R3, I3, ok, hho, hl3, bb⟩
    have e1 : decide (V.int ((remO h w g ts cs o).length : Nat) = V.int ((natV (remO h w g ts cs o)).length : Nat)) = true := decide_eq_true (by rw [List.length_map])
    refine ⟨_, rfl, _, rfl, l, _, rfl, .inl (SqL.of hl3), rfl, _, rfl, ?_⟩
    rw [e1]
    refine iteT ?_
    obtain ⟨dx, ta', wa, ca, oa, ws', os, I3'⟩ := id I3
    refine ⟨_, rfl, p, dx, _, rfl, I3'.hp, p, w, g, ts, _, _, rfl, I3, fun H4 l2 s4 _ hl4 => ⟨_, rfl, .list (natD (remO h w g ts cs o)), .list (natD (remO h w g ts cs o)), .lst (SqL.of hl4) (nat_dp _), .lst (SqL.of (s4 _ _ hl3)) (nat_dp _), nat_shaped _, nat_shaped _, ?_⟩⟩
    rw [nat_refl]
    refine ⟨true, rfl, iteT ⟨_, rfl, _, rfl, l, _, rfl, .inl (SqL.of (s4 _ _ hl3)), rfl, nat_flat _, ?_⟩⟩
    rw [nat_inV hho]
    refine ⟨true, rfl, iteT ⟨_, rfl, ?_⟩⟩
    exact k H4 l o (R3.same s4) (I3.same s4) ok hho (s4 _ _ hl3) fun b x e n1 n2 => s4 _ _ (bb b x e n1 n2)
end
end TR
end
section
set_option Elab.async false
set_option maxRecDepth 100000
set_option linter.all false
namespace TR
open PySem PySem.Spec PyProof.Rows L2 TM TX TK TB TP TH TU TW TI
theorem relab_free {env : Env} {x : Str} : ∀ {names : List (Str × NameKind)}, names.lookup x = some .cell ∨ names.lookup x = some .free →
    (names.map fun (n, k) => if (k == NameKind.free && env.scope.kind == .function && env.kindOf n == some .cell) then (n, NameKind.cell) else (n, k)).lookup x = some .cell ∨
    (names.map fun (n, k) => if (k == NameKind.free && env.scope.kind == .function && env.kindOf n == some .cell) then (n, NameKind.cell) else (n, k)).lookup x = some .free
  | [], h => by simp at h
  | (n, k) :: r, h => by
    have ih := @relab_free env x r
    cases hx : x == n with
    | true =>
      simp only [List.lookup_cons, hx] at h
      simp only [List.map_cons]
      by_cases hc : (k == NameKind.free && env.scope.kind == .function && env.kindOf n == some .cell) = true
      · rw [if_pos hc]
        simp only [List.lookup_cons, hx]
        exact .inl (by first | rfl | trivial)
      · rw [if_neg hc]
        simp only [List.lookup_cons, hx]
        exact h
    | false =>
      simp only [List.lookup_cons, hx] at h
      simp only [List.map_cons]
      by_cases hc : (k == NameKind.free && env.scope.kind == .function && env.kindOf n == some .cell) = true
      · rw [if_pos hc]
        simp only [List.lookup_cons, hx]
        exact ih h
      · rw [if_neg hc]
        simp only [List.lookup_cons, hx]
        exact ih h
/-- the names of a block that stands in a block -/
theorem blkOk_in {N : List Str} {s1 s2 : Scope} {env : Env} {own : List (Str × Nat)} (h : blkC N s1 s2 own = true) : BlkOk N (relabel s1 env) s2 own := by
  have B := blkOk_by h
  exact ⟨B.kind, B.uniq, B.ix, fun y hy e => relab_free (B.free y hy e), B.own⟩
theorem pi_listK {X : Cx} {K : PySem.W.Frag} {tg l : Expr} {tl : TE} (hl : PE X l tl) (hK : X.K = K := by rfl) : PI X tg l (iList K tl) := by
  subst hK
  exact pi_list hl
section
variable {X : Cx} {n : Nat}
def rEqE (K : PySem.W.Frag) : R2 := fun x y H Q => ∃ a b xs, x = .ref a ∧ y = .ref b ∧ SqL K H a xs ∧ SqL K H b [] ∧ Q (.bl xs.isEmpty) H
theorem op_eqE {K : PySem.W.Frag} (hK : X.K = K) (hu : X.A.units + 64 < cLine) : OpR X (compareOp .Eq) (rEqE K) := by
  subst hK
  intro pins s σ H x y v u Q I rx ry h
  obtain ⟨a, b, xs, rfl, rfl, ha, hb, q⟩ := h
  cases xs with
  | nil => exact op_eqD hu pins s σ H _ _ v u Q I rx ry ⟨.list [], .list [], .lst ha .nil, .lst hb .nil, rfl, rfl, q⟩
  | cons z zs =>
    obtain rfl : v = Value.ref a := rx
    obtain rfl : u = Value.ref b := ry
    obtain ⟨ia, ra, pa, _⟩ := I.list ha
    obtain ⟨ib, rb, pb, _⟩ := I.list hb
    have l1 := ra.length
    have l2 := rb.length
    refine PySem.SeqAt.RcAt.lists_lengths pa.isList pb.isList ?_ (by omega) _ _ _ _ ⟨.bl false, H, I, rfl, q⟩
    rw [List.size_toArray, List.size_toArray, ← l1, ← l2]
    rfl
theorem pen_bmN {o e : Expr} {es : List Expr} {to : TE} {t : TA} {name : Str} {apos cpos : Pos} {T id : String} {r : V → List V → Hp → VK → Prop} (pa : PlainAttrs T) (slot : Slot T name id) (hty : typeOf (.builtin id) = pure (.type "method_descriptor")) (hm : MtR X id r) (ho : PEn n X o to) (ha : PAn n X (e :: es) t)
    (hbase : attributeBase o name X.env (eval o X.env) = eval o X.env := by rfl)
    (hfew : ((backTo cpos (starEach (e :: es) X.env)).all (fun x => !x.1) && (backToKw cpos (keywordEach [] X.env)).all (fun x => x.1.isSome)
      && decide ((e :: es).length + ([] : List Keyword).length + (if ([] : List Keyword).isEmpty then 0 else 1) < 30)) = true := by rfl)
    (hline : (apos.endLine == cpos.line) = true := by rfl) (hs : starEach (e :: es) X.env = (false, eval e X.env) :: starEach es X.env := by rfl) (hplain : (backTo cpos (starEach es X.env)).any (·.1) = false := by rfl) :
    PEn n X (.Call (.Attribute o name apos) (e :: es) [] cpos) (tBM X.K T r to t) := by
  intro pins s σ H Q hn I h
  refine wpAny_Call_method_late hbase hfew hline rfl (thnN hn (ho pins s σ H _ hn I h) fun v s1 hn1 ⟨x, H1, I1, r1, ty, q1⟩ => ?_)
  obtain ⟨h1, h2⟩ := tyV_is I1 r1 ty
  refine ⟨T, id, pa, slot, hty, h1, h2, ?_⟩
  have hA := ha cpos pins s1 σ H1 _ hn1 I1 q1
  rw [hs] at hA ⊢
  refine Calls.callWith_builtin (by show (false || (backTo cpos (starEach es X.env)).any (·.1)) = false; rw [hplain] <;> rfl) (Calls.evalArgs_plain ?_)
  exact thn hA fun us s2 ⟨vs, H2, I2, r2, q2⟩ => hm pins s2 σ H2 x vs v us Q I2 r1 r2 q2
/-- a dict == a dict, the same keys, values that are alike -/
def rEqDD (K : PySem.W.Frag) : R2 := fun x y H Q => ∃ a b ks ls, x = .ref a ∧ y = .ref b ∧ H a = some (.dK ks) ∧ H b = some (.dK ls) ∧ ks.length = ls.length ∧ (∀ p ∈ ks, ∃ z d, valV ls p.1 = some z ∧ Dp K H p.2 d ∧ Dp K H z d ∧ dWell d) ∧ Q (.bl true) H
theorem op_eqDD (hu : X.A.units + 64 < cLine) : OpR X (compareOp .Eq) (rEqDD X.K) := by
  intro pins s σ H x y v u Q I rx ry h
  obtain ⟨a, b, ks, ls, rfl, rfl, ea, eb, hlen, hp, q⟩ := h
  obtain rfl : v = Value.ref a := rx
  obtain rfl : u = Value.ref b := ry
  obtain ⟨_, ya, va, ra, da⟩ := (show ObjOk X.prog X.w H s.heap a (.dK ks) from I.hok a _ ea)
  obtain ⟨_, yb, vb, rb, db⟩ := (show ObjOk X.prog X.w H s.heap b (.dK ls) from I.hok b _ eb)
  have hl : va.length = vb.length := by rw [← ra.length, ← rb.length]; exact hlen
  exact PySem.W.keq_eq (knd := mixKind X.prog X.w) (r := true) ya yb da db (by omega) (fun _ => hits_data I (by show X.A.units + 1 + 60 < cLine; omega) rb ra hp) (fin_bl I q (by simp [hl]))
end
theorem op_neDKW {X : Cx} {K : PySem.W.Frag} (h : X.K = K) (hu : X.A.units + 64 < cLine) : OpR X (compareOp .NotEq) (rNeD K) := by
  subst h
  exact op_neD hu
end TR
end
section
set_option Elab.async false
set_option maxRecDepth 100000
set_option linter.all false
namespace TR
open PySem PySem.Spec PyProof.Rows L2 TM TX TK TB TP TH TU TW TI
structure AnsF (P : Program) (w_ : World) (K : PySem.W.Frag) (mg : Str → Option Value) (base : Heap) (n : Nat) (C D O CU : Addr) (a : Addr) (ns : List Int) : Prop where
  s : SeenF P w_ K mg base n C D O CU a ns
  rng : mg "range" = none
  set_ : mg "set" = none
  max_ : mg "max" = none
  dict_ : mg "dict" = none
  list_ : mg "list" = none
  mTa : ∃ g, Meth K O "trays_after" g ∧ FnRn n P w_ K mg base CX0 8 g (spTa K C D O)
  mTr : ∃ g, Meth K O "telling_round" g ∧ FnRn n P w_ K mg base CX0 6 g (spTr K C D O)
  fSa : ∃ g, FnRn n P w_ K mg base CX0 9 g (spSa K C D O) ∧ PySem.W.keepIn K (.ref g) = true ∧ mg "surely_at" = some (.ref g)
  eq : ∃ g, PySem.W.findIn K (.ref D) "__eq__" = some (some (.ref g)) ∧ PySem.W.isFn K (.ref g) = true ∧ FnR P w_ K mg base CX0 1 g (spTe K D)
theorem md_eqW {K : PySem.W.Frag} {H : Hp} {a b : Addr} {w : Nat} {pos : Nat → Nat} {M : List Nat} {qa qa' : Nat → Addr} {Q : VK} (h1 : MdAt H a w pos M qa) (h2 : MdAt H b w pos M qa') (k : Q (.bl true) H) : rEqDD K (.ref a) (.ref b) H Q := by
  refine ⟨a, b, mkv M qa, mkv M qa', rfl, rfl, h1.1, h2.1, by simp [mkv], fun p hp => ?_, k⟩
  obtain ⟨m, hm, rfl⟩ := List.mem_map.mp hp
  exact ⟨_, plD w (pos m), valV_at (f := fun m => (Sum.inr (S [m]) : Key)) (v := fun m => V.ref (qa' m)) hm fun x _ z => key_inj z, pl_dp (h1.2 m hm), pl_dp (h2.2 m hm), pl_well _ _⟩
def letD (t : List Nat) : List PyData := t.map fun c => PyData.str ⟨#[c]⟩
theorem let_dp {K : PySem.W.Frag} {H : Hp} : ∀ t : List Nat, DpAll K H (t.map sg) (letD t)
  | [] => .nil
  | c :: r => .cons (.str _) (let_dp r)
theorem let_lay : ∀ t : List Nat, (∀ c ∈ t, c < 128) → PyData.canLayAll0 (letD t) = true
  | [], _ => rfl
  | c :: r, h => by
    have := let_lay r fun x hx => h x (List.mem_cons_of_mem _ hx)
    have h2 := h c List.mem_cons_self
    show (PyData.strOk (⟨#[c]⟩ : Str) && PyData.canLayAll0 (letD r)) = true
    rw [this, Bool.and_true]
    unfold PyData.strOk
    simp
    omega
theorem let_depth : ∀ t : List Nat, PyData.depthAll (letD t) = 0
  | [] => rfl
  | c :: r => by
    have := let_depth r
    show max (PyData.depth (.str _)) (PyData.depthAll (letD r)) = 0
    rw [this]
    rfl
theorem letl_shaped {t : List Nat} (h : ∀ c ∈ t, c < 128) : SeqAt.shaped (.list (letD t)) = true := by
  unfold SeqAt.shaped
  rw [show PyData.canLay0 (.list (letD t)) = PyData.canLayAll0 (letD t) from rfl, let_lay t h]
  rw [show PyData.depth (.list (letD t)) = PyData.depthAll (letD t) + 1 from rfl, let_depth]
  rfl
theorem let_refl {t : List Nat} (h : ∀ c ∈ t, c < 128) : PyData.eqv (.list (letD t)) (.list (letD t)) = true := SeqAt.eqv_refl _ (let_lay t h)
theorem eqV_same (i : Int) : eqV (.int i) (.int i) = true := by unfold eqV; simp
theorem eqV_diff {i j : Int} (h : i ≠ j) : eqV (.int i) (.int j) = false := by unfold eqV; simp [h]
section
variable {P : Program} {w_ : World} {K : PySem.W.Frag} {mg : Str → Option Value} {base : Heap} {C D O CU a : Addr} {ns : List Int} {n : Nat}
abbrev NAa : List Str := ["_law_row", "_law_observer", "_law_tray_here", "_law_words", "_law_due", "_law_rounds", "_law_counts", "_law_number", "_law_some", "_law_sure", "_law_told", "_law_k", "_law_marble", "_law_one"]
theorem scAa : FnScope NAa ["_law_row", "_law_observer", "_law_tray_here", "_law_words", "_law_due"] (defScope sLawAreAnswers) := ⟨rfl, rfl, rfl, by decide +kernel, rfl, by decide +kernel, by decide +kernel⟩
def spAa (K : PySem.W.Frag) (C D O a : Addr) (ns : List Int) : Sp := fun vs H Q _ => ∃ (r p ta wl dl h w : Nat) (ws : List Addr) (g : Grid) (ts : List (List Nat)) (cs : List Nat) (obs : List Ob), vs = [.ref r, .ref p, .ref ta, .ref wl, .ref dl] ∧ IsC K C D O a ns r p ta wl dl ws g w ts cs obs H ∧ VG h w g ∧
  cs ≠ [] ∧ (∀ c ∈ cs, c < ts.length) ∧ cs.length ≤ 1000 ∧ wl ≠ r ∧ dl ≠ r ∧ ∀ H', IsC K C D O a ns r p ta wl dl ws g w ts cs obs H' → But r H H' → Q (.bl true) H'
theorem ok_aa {f : Addr} {fd : FuncData} (F : Fun K "_law_are_answers" "_law_are_answers" sLawAreAnswers f fd) (b : Binds K fd ["_law_row", "_law_observer", "_law_tray_here", "_law_words", "_law_due"] []) (L : AnsF P w_ K mg base n C D O CU a ns) : FnRn n P w_ K mg base CX0 10 f (spAa K C D O a ns) := by
  obtain ⟨gTk, fdTk, GTk, kTk, bTk, mTk⟩ := L.s.fTk
  obtain ⟨gAr, GAr, kAr, mAr⟩ := L.s.fAr
  obtain ⟨pR, gR, fdR, PR, GR, bR⟩ := L.s.pRw
  obtain ⟨pM, gM, fdM, PM, GM, bM⟩ := L.s.pMb
  obtain ⟨gCl, CAL, GCl⟩ := L.s.cal
  obtain ⟨gTa, MTa, GTa⟩ := L.mTa
  obtain ⟨gTr, MTr, GTr⟩ := L.mTr
  obtain ⟨gSa, GSa, kSa, mSa⟩ := L.fSa
  obtain ⟨gTe, hE, iE, GTe⟩ := L.eq
  have co := L.s.co
  have CT := L.s.ct
  refine fn_n F b scAa (fun vs H Q E h => ?_) fun cdv A outer s H vs Q E hr h => ?_
  · obtain ⟨r, p, ta, wl, dl, h, w, ws, g, ts, cs, obs, rfl, _⟩ := h
    rfl
  · obtain ⟨r, p, ta, wl, dl, h, w, ws, g, ts, cs, obs, rfl, c0, hV, hne, hc, cs1000, wlr, dlr, k⟩ := h
    have nd := scAa.nd
    have r8 := hr.mono (show 8 ≤ 9 by decide)
    have r7 := hr.mono (show 7 ≤ 9 by decide)
    have r6 := hr.mono (show 6 ≤ 9 by decide)
    have r4 := hr.mono (show 4 ≤ 9 by decide)
    have r2 := hr.mono (show 2 ≤ 9 by decide)
    have r1 := hr.mono (show 1 ≤ 9 by decide)
    refine ⟨_, pssn_cut (PS.up (ps_asg (pe_tup (pa_cons (pe_call GTk r1 rfl mTk kTk bTk .nil pass0 (pa_cons (pv 0) (pa_cons pe_int pa_nil))) (pa_cons (pe_lst pa_nil) pa_nil))) (pg_tup (by rfl) (pgs_cons (pg_name (i := 5) nd rfl (.inr rfl)) (pgs_cons (pg_name (i := 6) nd rfl (.inl rfl)) pgs_nil)))))
      (pssn_cut (psn_for PassesOwn.never rfl (pi_range1 (by rfl) L.rng (pa_cons pe_int pa_nil)) (pg_name (i := 7) nd rfl (.inr rfl))
        (pssn_cut (psn_expr (pen_bmN PySem.F.plainAttrs_list PySem.F.slot_list_append PySem.F.type_list_append mt_append (PE.up (pv 6)) (pan_cons (pen_callB cr_lenQ (by rfl) L.s.len PySem.boot_len (pan_cons (pen_callTy (cr_setL hr.units rfl) (by rfl) L.set_ (by decide +kernel) (pan_cons
            (pen_lcF (own := [("_law_k", 11)]) (g := gName 11) rfl nd (PI.up (pi_list (pv 4))) (blkOk_by (N := NAa) (sc := defScope sLawAreAnswers) (by decide +kernel)) (fun _ _ _ _ _ => pg_name (i := 11) nd rfl (.inl rfl)) (fun _ _ _ _ _ => ptsn_nil)
              (fun _ _ _ _ _ => pen_prop (pen_call GAr r7 rfl mAr kAr pass0 (pan_cons (PE.up (pv 2)) (pan_cons (PE.up (pe_ix (TA.ix_listK (K := K) rfl) (pv 3) (pv 11) (fun _ _ => rfl))) (pan_cons (PE.up (pv 7)) pan_nil)))) CT.cl PR GR r2 bR .nil pass0 rfl)) pan_nil)) pan_nil)) pan_nil)))
        (pssn_one (psn_if (ptn_cmpR op_ne (pen_callB call_len_seq (by rfl) L.s.len PySem.boot_len (pan_cons (pen_methR (pv 1) co.cl MTa GTa r8 pass0 (pa_cons (pv 7) pa_nil)) pan_nil)) (PE.up (pe_ix ix_list (pv 6) (pe_un un_neg pe_int) (fun _ _ => rfl))) (nomark _)) (PSs.up pss_never) (PSs.up pss_nil)))))
      (pssn_cut (psn_if (ptn_cmpR op_ne (pen_methR (pv 1) co.cl MTr GTr r6 pass0 (pa_cons pe_int pa_nil)) (PE.up (pe_bm PySem.F.plainAttrs_list PySem.F.slot_list_index PySem.F.type_list_index mt_index (pv 6) (pa_cons (pe_callB (cr_max rfl) (by rfl) L.max_ boot_max (pa_cons (pv 6) pa_nil)) pa_nil))) (nomark _)) (PSs.up pss_never) (PSs.up pss_nil))
      (pssn_cut (psn_set (i := 8) nd rfl (.inr rfl) (pen_lcF (own := [("_law_k", 11)]) (g := gName 11) rfl nd (PI.up (pi_list (pv 4))) (blkOk_by (N := NAa) (sc := defScope sLawAreAnswers) (by decide +kernel)) (fun _ _ _ _ _ => pg_name (i := 11) nd rfl (.inl rfl)) (fun _ _ _ _ _ => ptsn_nil)
          (fun _ _ _ _ _ => pen_call GAr r7 rfl mAr kAr pass0 (pan_cons (PE.up (pv 2)) (pan_cons (PE.up (pe_ix (TA.ix_listK (K := K) rfl) (pv 3) (pv 11) (fun _ _ => rfl))) (pan_cons (PE.up (pv 5)) pan_nil))))))
      (pssn_cut (psn_if (ptn_not (ptn_cmpR (op_cmpOwn (op := .Eq) (fun _ _ => rfl) hE iE GTe r1 pass0) (pen_ix ix_list (pen_methR (pv 1) co.cl MTa GTa r8 pass0 (pa_cons (pv 5) pa_nil)) (PE.up pe_int) (fun _ _ => rfl)) (PE.up (pe_ix ix_list (pv 8) pe_int (fun _ _ => rfl))) (nomark _))) (PSs.up pss_never) (PSs.up pss_nil))
      (pssn_cut (psn_setLcF (i := 9) (own := [("_law_marble", 12)]) (g := gName 12) rfl nd rfl rfl (sw_true rfl rfl rfl (by decide +kernel)) (PI.up (pi_str (pe_prop (pv 2) CT.cl PM GM r2 bM .nil pass0 rfl))) (blkOk_by (N := NAa) (sc := defScope sLawAreAnswers) (by decide +kernel)) (fun _ _ _ _ _ => pg_name (i := 12) nd rfl (.inr rfl))
          (fun _ _ _ _ _ => ptsn_one (PT.up (pt_cmpR (op_eqE (K := K) rfl hr.units) (pe_lc (own := [("_law_one", 13)]) (g := gName 13) rfl nd (pi_listK (K := K) (pv 8)) (blkOk_in (N := NAa) (by decide +kernel)) (fun _ _ _ _ _ => pg_name (i := 13) nd rfl (.inl rfl))
            (fun _ _ _ _ _ => pts_one (pt_cmpR (op_neDKW (K := K) rfl hr.units) (pe_callO (pv 13) CAL GCl r4 passL (pa_cons (pv 12) pa_nil)) (pe_callO (pe_ix (TA.ix_listK (K := K) rfl) (pv 8) pe_int (fun _ _ => rfl)) CAL GCl r4 passL (pa_cons (pv 12) pa_nil)) (nomark _))) (fun _ _ _ _ _ => pv 13)) (pe_lst pa_nil) (nomark _))))
          (fun _ _ _ _ _ => PE.up (pv 12)))
      (pssn_cut (psn_set (i := 10) nd rfl (.inl rfl) (pen_call GSa hr rfl mSa kSa pass0 (pan_cons (PE.up (pv 1)) (pan_cons (PE.up (pv 5)) pan_nil))))
      (pssn_one (PS.up (ps_ret (pe_and (pe_cmpR (op_eqDD hr.units) (pv 10) (pe_callTy (call_dictP rfl) (by rfl) L.dict_ (by decide +kernel) (pa_cons (pe_lc (own := [("_law_marble", 12)]) (g := gName 12) (tt := tYes) rfl nd (pi_list (pv 9)) (blkOk_by (N := NAa) (sc := defScope sLawAreAnswers) (by decide +kernel)) (fun _ _ _ _ _ => pg_name (i := 12) nd rfl (.inl rfl)) (fun _ _ _ _ _ => pts_nil)
          (fun _ _ _ _ _ => pe_tup (pa_cons (pv 12) (pa_cons (pe_callO (pe_ix (TA.ix_listK (K := K) rfl) (pv 8) pe_int (fun _ _ => rfl)) CAL GCl r4 passL (pa_cons (pv 12) pa_nil)) pa_nil)))) pa_nil)) (nomark _))
        (pe_one (pe_cmpR (op_eqD hr.units) (pe_callTy (call_listD rfl) (by rfl) L.list_ (by decide +kernel) (pa_cons (pv 10) pa_nil)) (pv 9) (nomark _))))))))))))), ?_⟩
    -- the rounds, an empty list
    refine ⟨fun σ H2 => ∃ (N lc : Nat) (H1 : Hp), σ = [some (.ref r), some (.ref p), some (.ref ta), some (.ref wl), some (.ref dl), some (.int (N : Nat)), some (.ref lc), none, none, none, none, none, none, none] ∧ N ≤ 10 ^ 18 ∧ IsC K C D O a ns r p ta wl dl ws g w ts cs obs H1 ∧ But r H H1 ∧ H1 lc = none ∧ Same H1 H2 ∧ H2 lc = some (.lst []), ?_, ?_⟩
    · refine ⟨_, rfl, r, 9, rfl, c0.R, by decide, by decide, fun H1 N hN R1 b1 => ⟨by show 0 ≤ sizeLine; decide, fun lc hlc => ⟨by show 2 ≤ sizeLine; decide, fun t ht => ?_⟩⟩⟩
      have s2 := same_new (o := .lst []) hlc
      have s3 := same_new (o := .tup [V.int (N : Nat), V.ref lc]) ht
      exact ⟨t, _, rfl, SqT.of upd_same, rfl, _, _, rfl, _, _, rfl, rfl, N, lc, H1, rfl, by omega, c0.but b1 R1 wlr dlr, b1, hlc, s2.trans s3, s3 _ _ upd_same⟩
    rintro σ H2 ⟨N, lc, H1, rfl, hN, c1, b1, flc, s2, hlc2⟩
    clear c0
    -- the counts
    refine ⟨fun σ H3 => ∃ v7, σ = [some (.ref r), some (.ref p), some (.ref ta), some (.ref wl), some (.ref dl), some (.int (N : Nat)), some (.ref lc), v7, none, none, none, none, none, none] ∧ Same H1 H3 ∧ H3 lc = some (.lst (natV ((List.range 4).map (cntG h w g ts cs)))), ?_, ?_⟩
    · refine ⟨4, rfl, by decide, by decide, for_it (walk_range (lo := 0) (n := (4 : Int).toNat)) (fun i σ H3 => ∃ v7, σ = [some (.ref r), some (.ref p), some (.ref ta), some (.ref wl), some (.ref dl), some (.int (N : Nat)), some (.ref lc), v7, none, none, none, none, none, none] ∧ Same H1 H3 ∧ H3 lc = some (.lst (natV ((List.range i).map (cntG h w g ts cs)))))
        ⟨none, rfl, s2, hlc2⟩ (fun _ _ _ _ _ => True.intro) ?_ fun σ H3 z => z⟩
      rintro i x σ H4 H3 hi ⟨v7, rfl, s3, hlc⟩ ⟨rfl, rfl⟩
      have hi4 : i < 4 := hi
      have e0 : (fun i : Nat => V.int (0 + (i : Int))) i = V.int (i : Nat) := by show V.int (0 + (i : Int)) = _; rw [Int.zero_add]
      rw [e0]
      have c3 := c1.same s3
      refine ⟨fun σ H4 => σ = [some (.ref r), some (.ref p), some (.ref ta), some (.ref wl), some (.ref dl), some (.int (N : Nat)), some (.ref lc), some (.int (i : Nat)), none, none, none, none, none, none] ∧ Same H1 H4 ∧ H4 lc = some (.lst (natV ((List.range (i + 1)).map (cntG h w g ts cs)))), ?_, ?_⟩
      · refine ⟨_, rfl, .inl ⟨rfl, _, SqL.of hlc⟩, _, rfl, dl, rfl, ⟨_, SqL.of c3.hdl⟩, fun D1 hD1 => lc_list (K := K) (a := dl) (xs := natV cs) (fun j H4 => ∃ ks : List (Addr × List Key), Same H3 H4 ∧ H4 D1 = some (.lst (ks.map fun q => V.ref q.1)) ∧ KeysAt K H4 ks ∧ ks.map (·.2) = (cs.take j).map fun c => keyG (aftG h w g ts i c))
          ⟨[], same_new hD1, upd_same, fun q hq => (nomatch hq), rfl⟩ (fun j H4 _ ⟨_, s4, _⟩ => s4.seq (SqL.of c3.hdl)) ?_ ?_⟩
        · rintro j x H4 hx ⟨ks, s4, hL, hK, ek⟩
          obtain ⟨c, hcc, rfl⟩ := at_map hx
          have mc := List.mem_of_getElem? hcc
          have c4 := c3.same s4
          have lt := hc c mc
          obtain ⟨aw, haw, W⟩ := paired_at c4.wd c (ts[c]) (List.getElem?_eq_getElem lt)
          have et' : ts.getD c [] = ts[c] := by rw [List.getD_eq_getElem?_getD, List.getElem?_eq_getElem lt]; rfl
          refine ⟨rfl, _, rfl, _, rfl, _, rfl, wl, _, c, .ref aw, rfl, rfl, SqL.of c4.hwl, atI_nat (by rw [List.getElem?_map, haw]; rfl), _, rfl, ta, aw, h, w, i, g, ts[c], rfl, c4.T, hV, W, by omega, fun H5 r5 s5 t5 => ?_⟩
          obtain ⟨d5, a5, e5, f5⟩ := id t5
          have hL5 := s5 _ _ hL
          have lks : ks.length = j := by
            have e := congrArg List.length ek
            rw [List.length_map, List.length_map, List.length_take] at e
            have := (List.getElem?_eq_some_iff.mp hcc).1
            omega
          have hjl := (List.getElem?_eq_some_iff.mp hcc).1
          have up : ∀ {b xs}, SqT K H5 b xs → SqT K (upd H5 D1 (.lst (ks.map (fun q => V.ref q.1) ++ [V.ref a5]))) b xs := fun t => seq_upd t hL5 fun _ _ => ⟨by simp, by simp⟩
          refine ⟨r5, d5, _, rfl, e5, r5, d5, _, _, rfl, e5, rfl, _, hL5, ?_, ks ++ [(a5, keyG (aftG h w g ts i c))], same_put (s4.trans s5) hD1, ?_, ?_, ?_⟩
          · rw [List.length_map, lks]
            show _ < 16777216
            omega
          · rw [upd_same, List.map_append]
            rfl
          · intro q hq
            rcases List.mem_append.mp hq with hq | hq
            · exact up (s5.tup (hK q hq))
            · rw [List.mem_singleton.mp hq]
              show SqT K _ a5 ((keyG (aftG h w g ts i c)).map kV)
              rw [keyG_V]
              unfold aftG
              rw [et']
              exact up f5
          · rw [List.map_append, ek, List.take_succ, hcc, List.map_append]
            rfl
        · rintro H4 ⟨ks, s4, hL, hK, ek⟩
          rw [List.length_map, List.take_length] at ek
          have lks : ks.length ≤ 1000 := by
            have e := congrArg List.length ek
            rw [List.length_map, List.length_map] at e
            omega
          refine ⟨D1, ks, rfl, SqL.of hL, hK, by omega, fun a2 L2_ fa nd2 mem2 => ?_⟩
          have s5 := same_new (o := SetO P w_ a2 L2_) fa
          have eL : L2_.length = cntG h w g ts cs i := by
            have := nd_len nd2 (nd_keyG (nd_dd (cs.map (aftG h w g ts i)))) fun x => by
              rw [mem2 x, ek]
              constructor <;> intro z <;> obtain ⟨b, hb, e⟩ := List.mem_map.mp z
              · exact List.mem_map.mpr ⟨_, mem_dd.mpr (List.mem_map.mpr ⟨b, hb, rfl⟩), e⟩
              · obtain ⟨c, hc', e2⟩ := List.mem_map.mp (mem_dd.mp hb)
                exact List.mem_map.mpr ⟨c, hc', by rw [e2]; exact e⟩
            rwa [List.length_map, List.length_map] at this
          have hlc5 := s5 _ _ (s4 _ _ hlc)
          refine ⟨a2, L2_, rfl, upd_same, lc, _, _, rfl, rfl, hlc5, ?_, rfl, ?_, ?_⟩
          · rw [List.length_map, List.length_map, List.length_range]
            show _ < 16777216
            omega
          · exact same_put (s3.trans (s4.trans s5)) flc
          · rw [upd_same, eL, List.range_succ, List.map_append]
            unfold natV
            rw [List.map_append]
            rfl
      rintro σ H4 ⟨rfl, s4, hlc4⟩
      have c4 := c1.same s4
      obtain ⟨dx, ta', wa, ca, oa, ws', os, I4⟩ := id c4.I
      refine ⟨_, rfl, p, dx, _, rfl, I4.hp, rfl, _, rfl, p, h, w, i, g, ts, cs, obs, rfl, c4.I, hV, by omega, hc, cs1000, fun H5 l ps s5 _ hl tl => ?_⟩
      have hlc5 := s5 _ _ hlc4
      have e5 : natV ((List.range (i + 1)).map (cntG h w g ts cs)) = natV ((List.range i).map (cntG h w g ts cs)) ++ [V.int (cntG h w g ts cs i : Nat)] := by
        rw [List.range_succ, List.map_append]
        unfold natV
        rw [List.map_append]
        rfl
      have lps : (ps.map V.ref).length = cntG h w g ts cs i := by rw [List.length_map]; exact Paired.length tl
      refine ⟨l, _, rfl, .inl (SqL.of hl), _, rfl, _, rfl, lc, _, -1, _, rfl, rfl, SqL.of hlc5, by rw [e5]; exact atI_last _ _, rfl, _, rfl, ?_⟩
      rw [lps, decide_eq_true rfl]
      exact iteF ⟨_, rfl, s4.trans s5, hlc5⟩
    rintro σ H3 ⟨v7, rfl, s3, hlc3⟩
    clear hlc2 s2 H2
    have c3 := c1.same s3
    obtain ⟨c0, hc0⟩ : ∃ c0, cs[0]? = some c0 := by
      cases cs with
      | nil => exact absurd rfl hne
      | cons x _ => exact ⟨x, rfl⟩
    have h0g : ∀ N, (dd (cs.map (aftG h w g ts N)))[0]? = some (aftG h w g ts N c0) := fun N => by
      cases cs with
      | nil => exact absurd rfl hne
      | cons x _ =>
        cases hc0
        exact dd_head
    have pos : ∀ N, 1 ≤ cntG h w g ts cs N := fun N => (List.getElem?_eq_some_iff.mp (h0g N)).1
    -- the telling round
    refine ⟨fun σ H4 => σ = [some (.ref r), some (.ref p), some (.ref ta), some (.ref wl), some (.ref dl), some (.int (N : Nat)), some (.ref lc), v7, none, none, none, none, none, none] ∧ Same H1 H4, ?_, ?_⟩
    · obtain ⟨dx, ta', wa, ca, oa, ws', os, I3⟩ := id c3.I
      refine ⟨_, rfl, p, dx, _, rfl, I3.hp, rfl, p, h, w, 3, g, ts, cs, obs, rfl, c3.I, hV, by decide, hc, cs1000, fun H4 s4 => ?_⟩
      have hlc4 := s4 _ _ hlc3
      have ens : natV ((List.range 4).map (cntG h w g ts cs)) = ((List.range 4).map fun i => ((cntG h w g ts cs i : Nat) : Int)).map V.int := by
        unfold natV
        rw [List.map_map, List.map_map]
        rfl
      rw [ens] at hlc4
      obtain ⟨t1, t2, t3, t4⟩ := tell_spec (cntG h w g ts cs) pos 4 (by decide)
      refine ⟨_, rfl, .inl ⟨rfl, _, SqL.of hlc4⟩, _, rfl, lc, _, rfl, SqL.of hlc4, by simp, fun m hm hmax => ?_⟩
      have em : m = ((tellF (cntG h w g ts cs) 4).2 : Nat) := by
        obtain ⟨i, hi, e⟩ := List.mem_map.mp hm
        have h1 := t3 i (List.mem_range.mp hi)
        have h2 := hmax _ (List.mem_map.mpr ⟨_, List.mem_range.mpr t1, rfl⟩)
        rw [t2] at h2
        omega
      refine ⟨lc, _, .int m, (tellF (cntG h w g ts cs) 4).1, .int (cntG h w g ts cs (tellF (cntG h w g ts cs) 4).1 : Nat), rfl, rfl, SqL.of hlc4, rfl, ?_, ?_, ?_, ?_, ?_⟩
      · rw [List.all_map]
        exact List.all_eq_true.mpr fun _ _ => rfl
      · rw [List.map_map, List.getElem?_map, List.getElem?_range t1]
        rfl
      · rw [em, t2]
        exact eqV_same _
      · intro i z' hi hz
        rw [List.map_map, List.getElem?_map, List.getElem?_range (Nat.lt_trans hi t1)] at hz
        cases hz
        have := t4 i hi
        rw [em]
        exact eqV_diff (by show ((cntG h w g ts cs i : Nat) : Int) ≠ _; omega)
      · refine ⟨rfl, _, rfl, ?_⟩
        rw [decide_eq_true rfl]
        exact iteF ⟨rfl, s3.trans s4⟩
    rintro σ H4 ⟨rfl, s4⟩
    clear hlc3 s3 c3 H3
    have c4 := c1.same s4
    have hlt := hc c0 (List.mem_of_getElem? hc0)
    have VN : ∀ c, VG h w (aftG h w g ts N c) := fun c => VG.rounds N hV
    -- some
    refine ⟨fun σ H5 => ∃ ls ps, σ = [some (.ref r), some (.ref p), some (.ref ta), some (.ref wl), some (.ref dl), some (.int (N : Nat)), some (.ref lc), v7, some (.ref ls), none, none, none, none, none] ∧ Same H1 H5 ∧ H5 ls = some (.lst (ps.map V.ref)) ∧ TraysL K D H5 ps (cs.map (aftG h w g ts N)), ?_, ?_⟩
    · refine ⟨_, rfl, dl, rfl, ⟨_, SqL.of c4.hdl⟩, fun D1 hD1 => lc_list (K := K) (a := dl) (xs := natV cs) (fun i H5 => ∃ ps, Same H4 H5 ∧ H5 D1 = some (.lst (ps.map V.ref)) ∧ TraysL K D H5 ps ((cs.take i).map (aftG h w g ts N)))
        ⟨[], same_new hD1, upd_same, .nil⟩ (fun i H5 _ ⟨_, s5, _⟩ => s5.seq (SqL.of c4.hdl)) ?_ ?_⟩
      · rintro i x H5 hx ⟨ps, s5, hL, tl⟩
        obtain ⟨c, hcc, rfl⟩ := at_map hx
        have mc := List.mem_of_getElem? hcc
        have c5 := c4.same s5
        have lt := hc c mc
        obtain ⟨aw, haw, W⟩ := paired_at c5.wd c (ts[c]) (List.getElem?_eq_getElem lt)
        have et' : ts.getD c [] = ts[c] := by rw [List.getD_eq_getElem?_getD, List.getElem?_eq_getElem lt]; rfl
        refine ⟨rfl, _, rfl, _, rfl, _, rfl, wl, _, c, .ref aw, rfl, rfl, SqL.of c5.hwl, atI_nat (by rw [List.getElem?_map, haw]; rfl), _, rfl, ta, aw, h, w, N, g, ts[c], rfl, c5.T, hV, W, hN, fun H6 r6 s6 t6 => ?_⟩
        have hL6 := s6 _ _ hL
        have lps : ps.length = i := by
          have := Paired.length tl
          rw [List.length_map, List.length_take] at this
          have := (List.getElem?_eq_some_iff.mp hcc).1
          omega
        have hlt := (List.getElem?_eq_some_iff.mp hcc).1
        refine ⟨_, hL6, ?_, ps ++ [r6], same_put (s5.trans s6) hD1, ?_, ?_⟩
        · rw [List.length_map, lps]
          show _ < 16777216
          omega
        · rw [upd_same, List.map_append]
          rfl
        · rw [List.take_succ, hcc, List.map_append]
          have up : ∀ {a : Addr} {x : Grid}, TrayAt K D H6 a x → TrayAt K D (upd H6 D1 (.lst (ps.map V.ref ++ [V.ref r6]))) a x := fun {a x} t => tray_upd t hL6 (fun _ _ => ⟨by simp, by simp⟩) fun _ _ _ => by simp
          refine Paired.snoc (Paired.mapP tl fun a x t => up (t.same s6)) (up ?_)
          show TrayAt K D H6 r6 (rounds h w (ts.getD c []) N g)
          rw [et']
          exact t6
      · rintro H5 ⟨ps, s5, hL, tl⟩
        rw [List.length_map, List.take_length] at tl
        exact ⟨D1, ps, rfl, s4.trans s5, hL, tl⟩
    rintro σ H5 ⟨ls, ps, rfl, s5, hls, tl⟩
    clear c4 s4 H4
    have hg0 : (cs.map (aftG h w g ts N))[0]? = some (aftG h w g ts N c0) := by rw [List.getElem?_map, hc0]; rfl
    obtain ⟨p0, hp0, T0⟩ := paired_at tl 0 _ hg0
    have lgs : (cs.map (aftG h w g ts N)).length ≤ 1000 := by rw [List.length_map]; exact cs1000
    have vgs : ∀ x ∈ cs.map (aftG h w g ts N), VG h w x ∧ (mb x.flatten).Perm (mb g.flatten) := fun x hx => by
      obtain ⟨c, _, rfl⟩ := List.mem_map.mp hx
      exact ⟨VN c, mb_rounds hV N⟩
    have lps : ps.length = (cs.map (aftG h w g ts N)).length := Paired.length tl
    -- the first tray there can be
    refine ⟨fun σ H6 => σ = [some (.ref r), some (.ref p), some (.ref ta), some (.ref wl), some (.ref dl), some (.int (N : Nat)), some (.ref lc), v7, some (.ref ls), none, none, none, none, none] ∧ Same H5 H6, ?_, ?_⟩
    · have c5 := c1.same s5
      obtain ⟨dx, ta', wa, ca, oa, ws', os, I5⟩ := id c5.I
      refine ⟨_, rfl, p, dx, _, rfl, I5.hp, rfl, _, rfl, p, h, w, N, g, ts, cs, obs, rfl, c5.I, hV, hN, hc, cs1000, fun H6 l qs s6 _ hl tq => ?_⟩
      obtain ⟨q0, hq0, Tq⟩ := paired_at tq 0 _ (h0g N)
      have T6 := T0.same s6
      obtain ⟨d6, a6, e6, _⟩ := id Tq
      obtain ⟨d7, a7, e7, _⟩ := id T6
      refine ⟨l, _, 0, .ref q0, rfl, rfl, SqL.of hl, atI_nat (j := 0) (by rw [List.getElem?_map, hq0]; rfl), _, rfl, ls, _, 0, .ref p0, rfl, rfl, SqL.of (s6 _ _ hls), atI_nat (j := 0) (by rw [List.getElem?_map, hp0]; rfl), ?_⟩
      refine ⟨q0, d6, _, rfl, e6, .inl ⟨p0, d7, _, rfl, e7⟩, q0, p0, h, w, h, w, _, _, rfl, Tq, T6, VN c0, VN c0, _, rfl, ?_⟩
      rw [decide_eq_true rfl]
      exact iteF ⟨rfl, s6⟩
    rintro σ H6 ⟨rfl, s6⟩
    have T6 := T0.same s6
    have tl6 := Paired.mapP tl fun a x t => t.same s6
    have hls6 := s6 _ _ hls
    have s16 := s5.trans s6
    clear T0 tl hls s6 s5 H5
    generalize hgs : cs.map (aftG h w g ts N) = gs at hg0 lgs vgs lps tl6
    have g0m := List.mem_of_getElem? hg0
    have V0 := VN c0
    generalize hg0' : aftG h w g ts N c0 = g0 at hg0 T6 g0m V0
    have lM : (srt (mb g.flatten)).length ≤ 26 := by rw [(srt_perm _).length_eq]; exact mb_26 hV
    have ndM : (srt (mb g.flatten)).Nodup := (srt_perm _).nodup_iff.mpr hV.nd
    -- sure
    refine ⟨fun σ H7 => ∃ lu, σ = [some (.ref r), some (.ref p), some (.ref ta), some (.ref wl), some (.ref dl), some (.int (N : Nat)), some (.ref lc), v7, some (.ref ls), some (.ref lu), none, none, none, none] ∧ Same H6 H7 ∧ H7 lu = some (.lst ((sureM g0 gs (srt (mb g.flatten))).map sg)), ?_, ?_⟩
    · have c6 := c1.same s16
      obtain ⟨d1, a1, e1, _⟩ := id c6.T
      refine ⟨_, rfl, ta, d1, _, rfl, e1, ta, h, w, g, rfl, c6.T, hV, fun H7 s7 => ⟨_, rfl, fun D1 hD1 => lc_it (walk_str (z := S (srt (mb g.flatten)))) (fun i H8 => Same H6 H8 ∧ H8 D1 = some (.lst ((sureM g0 gs ((srt (mb g.flatten)).take i)).map sg)))
        ⟨s7.trans (same_new hD1), upd_same⟩ (fun _ _ _ _ => True.intro) ?_ ?_⟩⟩
      · rintro i x H9 H8 hi ⟨s8, hL⟩ ⟨rfl, m, hm, rfl⟩
        rw [S_at] at hm
        have mS := List.mem_of_getElem? hm
        have mg : m ∈ mb g.flatten := mem_srt.mp mS
        have hls8 := s8 _ _ hls6
        refine ⟨rfl, _, rfl, ls, rfl, ⟨_, SqL.of hls8⟩, fun D2 hD2 => lc_list (K := K) (a := ls) (xs := ps.map V.ref) (fun j H9 => ∃ zs : List V, Same H8 H9 ∧ H9 D2 = some (.lst zs) ∧ zs.length ≤ j ∧ zs.isEmpty = (gs.take j).all fun x => decide (x.flatten.idxOf m = g0.flatten.idxOf m))
          ⟨[], same_new hD2, upd_same, Nat.le_refl _, rfl⟩ (fun j H9 _ ⟨_, s9, _⟩ => s9.seq (SqL.of hls8)) ?_ ?_⟩
        · rintro j x H9 hx ⟨zs, s9, hL2, lzs, ez⟩
          obtain ⟨b1_, hb1, rfl⟩ := at_map hx
          have hj := (List.getElem?_eq_some_iff.mp hb1).1
          rw [lps] at hj
          have hxj : gs[j]? = some gs[j] := List.getElem?_eq_getElem hj
          have hxm := List.mem_of_getElem? hxj
          obtain ⟨a', ha', Tx⟩ := paired_at tl6 j _ hxj
          rw [hb1] at ha'
          cases ha'
          have Vx := vgs _ hxm
          have s69 := s8.trans s9
          have T9 := Tx.same s69
          obtain ⟨d9, a9, e9, _⟩ := id T9
          refine ⟨rfl, _, rfl, b1_, rfl, _, rfl, ⟨d9, _, e9⟩, call_ok T9 Vx.1 (Vx.2.mem_iff.mpr mg) fun H10 q10 s10 fq10 hq10 => ?_⟩
          have T10 := (T6.same s69).same s10
          obtain ⟨d10, a10, e10, _⟩ := id T10
          refine ⟨_, rfl, ls, _, 0, .ref p0, rfl, rfl, SqL.of (s10 _ _ (s9 _ _ hls8)), atI_nat (j := 0) (by rw [List.getElem?_map, hp0]; rfl), p0, rfl, _, rfl, ⟨d10, _, e10⟩, call_ok T10 V0 ((vgs _ g0m).2.mem_iff.mpr mg) fun H11 q11 s11 fq11 hq11 => ?_⟩
          refine ⟨plD w (gs[j].flatten.idxOf m), plD w (g0.flatten.idxOf m), pl_dp (s11 _ _ hq10), pl_dp hq11, pl_shaped _ _, pl_shaped _ _, _, rfl, ?_⟩
          rw [pl_eqv]
          have s911 := s10.trans s11
          have hL11 := s911 _ _ hL2
          have etk : ((gs.take (j + 1)).all fun x => decide (x.flatten.idxOf m = g0.flatten.idxOf m)) = (((gs.take j).all fun x => decide (x.flatten.idxOf m = g0.flatten.idxOf m)) && decide (gs[j].flatten.idxOf m = g0.flatten.idxOf m)) := by
            rw [List.take_succ, hxj, List.all_append]
            simp
          rw [etk, ← ez]
          cases hz : decide (gs[j].flatten.idxOf m = g0.flatten.idxOf m) with
          | true =>
            rw [Bool.and_true]
            exact iteF ⟨zs, s9.trans s911, hL11, Nat.le_succ_of_le lzs, rfl⟩
          | false =>
            rw [Bool.and_false]
            refine iteT ⟨_, rfl, zs, hL11, ?_, zs ++ [V.ref b1_], same_put (s9.trans s911) hD2, upd_same, ?_, ?_⟩
            · show _ < 16777216
              omega
            · rw [List.length_append]
              exact Nat.succ_le_succ lzs
            · cases zs <;> rfl
        · rintro H9 ⟨zs, s9, hL2, lzs, ez⟩
          rw [List.length_map, lps, List.take_length] at ez
          refine ⟨by show 0 ≤ sizeLine; decide, fun nl hnl => ?_⟩
          have s10 := same_new (o := .lst []) hnl
          have s810 := s9.trans s10
          refine ⟨D2, nl, zs, rfl, rfl, SqL.of (s10 _ _ hL2), SqL.of upd_same, _, rfl, ?_⟩
          have esm : sureM g0 gs ((srt (mb g.flatten)).take (i + 1)) = sureM g0 gs ((srt (mb g.flatten)).take i) ++ (if (gs.all fun x => decide (x.flatten.idxOf m = g0.flatten.idxOf m)) = true then [m] else []) := by
            unfold sureM
            rw [List.take_succ, hm, List.filter_append]
            congr 1
            show ([m] : List Nat).filter _ = _
            by_cases z : (gs.all fun x => decide (x.flatten.idxOf m = g0.flatten.idxOf m)) = true
            · rw [if_pos z]
              simp only [List.filter, z]
            · rw [if_neg z]
              simp only [List.filter, z]
          rw [ez]
          have hL10 := s810 _ _ hL
          cases hall : (gs.all fun x => decide (x.flatten.idxOf m = g0.flatten.idxOf m)) with
          | false =>
            rw [hall, if_neg Bool.false_ne_true, List.append_nil] at esm
            rw [esm]
            exact iteF ⟨s8.trans s810, hL10⟩
          | true =>
            rw [hall, if_pos rfl] at esm
            rw [esm]
            refine iteT ⟨_, rfl, _, hL10, ?_, ?_, ?_⟩
            · rw [List.length_map]
              have := List.length_filter_le (fun m => gs.all fun x => decide (x.flatten.idxOf m = g0.flatten.idxOf m)) ((srt (mb g.flatten)).take i)
              rw [List.length_take] at this
              show _ < 16777216
              unfold sureM
              omega
            · exact same_put (s8.trans s810) (s7.free hD1)
            · rw [upd_same, List.map_append]
              rfl
      · rintro H8 ⟨s8, hL⟩
        have e : (S (srt (mb g.flatten))).cps.size = (srt (mb g.flatten)).length := S_len _
        rw [e, List.take_length] at hL
        exact ⟨D1, rfl, s8, hL⟩
    rintro σ H7 ⟨lu, rfl, s7, hlu⟩
    have c7 := c1.same (s16.trans s7)
    -- what is told
    refine ⟨fun σ H8 => ∃ e qa, σ = [some (.ref r), some (.ref p), some (.ref ta), some (.ref wl), some (.ref dl), some (.int (N : Nat)), some (.ref lc), v7, some (.ref ls), some (.ref lu), some (.ref e), none, none, none] ∧ Same H7 H8 ∧ MdAt H8 e w (fun m => g0.flatten.idxOf m) (sureM g0 gs (srt (mb g.flatten))) qa, ?_, ?_⟩
    · refine ⟨_, rfl, _, rfl, p, h, w, N, c0, g, ts, cs, obs, rfl, c7.I, hV, hN, hc, cs1000, hc0, fun H8 e qa s8 _ M8 => ⟨e, qa, rfl, s8, ?_⟩⟩
      rw [hgs, hg0'] at M8
      exact M8
    rintro σ H8 ⟨e, qa, rfl, s8, M8⟩
    have lU : (sureM g0 gs (srt (mb g.flatten))).length ≤ 26 := Nat.le_trans (List.length_filter_le _ _) lM
    have ndU : (sureM g0 gs (srt (mb g.flatten))).Nodup := ndM.sublist List.filter_sublist
    have memU : ∀ m ∈ sureM g0 gs (srt (mb g.flatten)), m ∈ mb g.flatten := fun m hm => mem_srt.mp (List.mem_filter.mp hm).1
    generalize sureM g0 gs (srt (mb g.flatten)) = U at hlu M8 lU ndU memU
    have hlu8 := s8 _ _ hlu
    have s68 := s7.trans s8
    have hls8 := s68 _ _ hls6
    have T8 := T6.same s68
    refine ⟨_, rfl, _, rfl, lu, rfl, ⟨_, SqL.of hlu8⟩, fun D1 hD1 => lc_list (K := K) (a := lu) (xs := U.map sg) (fun i H9 => ∃ ps_ qn, Same H8 H9 ∧ PdAt H9 D1 w (fun m => g0.flatten.idxOf m) (U.take i) ps_ qn)
      ⟨fun _ => 0, fun _ => 0, same_new hD1, upd_same, fun m hm => (nomatch hm)⟩ (fun i H9 _ ⟨_, _, s9, _⟩ => s9.seq (SqL.of hlu8)) ?_ ?_⟩
    · rintro i x H9 hx ⟨ps_, qn, s9, P9⟩
      obtain ⟨m, hm, rfl⟩ := at_map hx
      have mU := List.mem_of_getElem? hm
      have T9 := T8.same s9
      obtain ⟨d9, a9, e9, _⟩ := id T9
      refine ⟨rfl, _, rfl, _, rfl, ls, _, 0, .ref p0, rfl, rfl, SqL.of (s9 _ _ hls8), atI_nat (j := 0) (by rw [List.getElem?_map, hp0]; rfl), p0, rfl, _, rfl, ⟨d9, _, e9⟩, call_ok T9 V0 ((vgs _ g0m).2.mem_iff.mpr (memU m mU)) fun H10 q10 s10 fq10 hq10 => ⟨by show 2 ≤ sizeLine; decide, fun T_ hT => ?_⟩⟩
      have st := same_new (o := .tup [sg m, V.ref q10]) hT
      have hq10' : H10 q10 = some (.tup (plV w (g0.flatten.idxOf m))) := hq10
      have P10 := P9.same s10
      obtain ⟨ps', qn', z1, z2⟩ := pd_step (T := T_) (q2 := q10) ndU hm hD1 (P10.same st) ((s9.trans s10).trans st) upd_same (by rw [upd_ne (ne_of_none hq10' hT)]; exact hq10')
      refine ⟨_, (P10.same st).1, ?_, ps', qn', z1, z2⟩
      rw [List.length_map, List.length_take]
      show _ < 16777216
      omega
    · rintro H9 ⟨ps_, qn, s9, P9⟩
      rw [List.length_map, List.take_length] at P9
      obtain ⟨da, das, dkv, d1, d2, d3, d4⟩ := pd_dict (K := K) (Q := fun x H' => ∃ e2 qa2, x = .ref e2 ∧ Same H9 H' ∧ MdAt H' e2 w (fun m => g0.flatten.idxOf m) U qa2) P9 ndU fun H10 e2 qa2 s10 _ M10 => ⟨e2, qa2, rfl, s10, M10⟩
      refine ⟨da, das, dkv, d1, d2, d3, fun e2 he2 => ?_⟩
      obtain ⟨e2', qa2, ee, s10, M10⟩ := d4 e2 he2
      cases ee
      have M9 := (M8.same s9).same s10
      refine md_eqW M9 M10 ⟨true, rfl, iteT ?_⟩
      refine ⟨_, rfl, e, _, rfl, .inl M9.1, fun z hz => ?_⟩
      have s11 := same_new (o := .lst ((mkv U qa).map fun kv => kV kv.1)) hz
      have ekv : (mkv U qa).map (fun kv => kV kv.1) = U.map sg := by
        unfold mkv
        rw [List.map_map]
        rfl
      have lt128 : ∀ c ∈ U, c < 128 := fun c hc => by
        have := (mb_let hV c (memU c hc)).2
        omega
      have s7e := (s9.trans s10).trans s11
      refine ⟨_, rfl, .list (letD U), .list (letD U), .lst (SqL.of (by rw [← ekv]; exact upd_same)) (let_dp _), .lst (SqL.of (s7e _ _ hlu8)) (let_dp _), letl_shaped lt128, letl_shaped lt128, ?_⟩
      rw [let_refl lt128]
      have s1e := s16.trans (s68.trans s7e)
      exact k _ (c1.same s1e) (b1.trans (But.same s1e))
end
end TR
end
section
set_option Elab.async false
set_option maxRecDepth 100000
set_option linter.all false
namespace ClX
open PySem PySem.Spec PyProof.Rows L2 TM TK TB TP TH TU TW TR
section
variable {X : Cx} {CX : CXT} {n k : Nat}
/-- C.m(e, ..), m a class method, where tokens are out -/
theorem pen_cmeth {C p g : Addr} {mc : Value} {sp : Sp} {E : XK} {o e : Expr} {es : List Expr} {m : Str} {pos apos : Pos} {ta : TE} {t : TA} {pl : Sem Bool} (he : PE X o ta) (r : CRead X.K C mc) (c : CMet X.K C mc m p g) (F : FnRn n X.prog X.w X.K X.mg X.base CX k g sp) (hr : Room k X.A) (hx : Passes CX X E) (ha : PA X (e :: es) t)
    (hst : starEach (e :: es) X.env = (false, eval e X.env) :: starEach es X.env := by rfl) (hpl : (backTo pos (starEach es X.env)).any (·.1) = false := by rfl)
    (ht : eval (.Call (.Attribute o m apos) (e :: es) [] pos) X.env = (do
      let ov ← eval o X.env
      standAt apos.atName
      let (f, first) ← holding [ov] (getMethod ov m pl)
      callWith pos f first (backTo pos (starEach (e :: es) X.env)) (backToKw pos (keywordEach [] X.env))) := by rfl) :
    PEn n X (.Call (.Attribute o m apos) (e :: es) [] pos) (tCMeth C sp E ta t) := by
  intro pins s σ H Q hn I h
  refine PySem.W.methodCall_KW (pl := pl) (thnN hn (he.run pins s σ H _ I h) fun u s1 hn1 ⟨x, H1, I1, rx, ex, q⟩ => ?_) ht
  subst ex
  obtain rfl : u = Value.ref C := rx
  have got : wpAny (model X.prog X.w) X.A (getMethod (.ref C) m pl) (fun fs s2 => fs = (Value.ref s1.heap.objs.size, []) ∧ L2.Inv X ((s1.heap.objs.size, PySem.W.methodObj (.ref g) (.ref C)) :: pins) σ H1 s2) (fun _ _ => False) s1 := getmethcm_ok I1 r c fun s2 I2 => ⟨rfl, I2⟩
  refine thnFN hn1 got fun fs s2 hn2 ⟨ef, I2⟩ => ?_
  subst ef
  refine callwith_cm I2 (base_none I1 (Nat.le_refl _)) c.fi (thnN hn2 (ha.run pos _ s2 σ H1 _ I2 q) fun us s3 hn3 ⟨vs, H2, I3, rv, q2⟩ => ⟨⟨pin_at I3, I3.kIn⟩, ?_⟩) hst hpl
  have z : wpAny (model X.prog X.w) X.A (call (.ref s1.heap.objs.size) us) (EP X ((s1.heap.objs.size, PySem.W.methodObj (.ref g) (.ref C)) :: pins) σ Q) X.xe s3 :=
    wpAny_call (PySem.W.method_call (pin_at I3) (run_fnRn (us := .ref C :: us) (vs := .ref C :: vs) hn3 F hr hx I3 (.cons rfl rv) q2))
  exact thn z fun _ _ y => unpinE y
end
end ClX
namespace TR
open PySem PySem.Spec PyProof.Rows L2 TM TX TK TB TP TH TU TW TI
/-- observations as data -/
def obD (w : Nat) : Ob → PyData
  | .mb N m k => .tuple [.str (Str.ofString "see_marble"), .int (N : Nat), .str ⟨#[m]⟩, plD w k]
  | .rw N i u => .tuple [.str (Str.ofString "see_row"), .int (N : Nat), .int (i : Nat), .str (S u)]
def okD : Ob → Prop
  | .mb _ m _ => m < 128
  | .rw _ _ u => ∀ c ∈ u, c < 128
theorem obs_lay {w : Nat} : ∀ {obs : List Ob}, (∀ o ∈ obs, okD o) → PyData.canLayAll0 (obs.map (obD w)) = true
  | [], _ => rfl
  | o :: r, h => by
    have ih := obs_lay (w := w) (obs := r) fun x hx => h x (List.mem_cons_of_mem _ hx)
    have h0 := h o List.mem_cons_self
    show (PyData.canLay0 (obD w o) && PyData.canLayAll0 (r.map (obD w))) = true
    rw [ih, Bool.and_true]
    cases o with
    | mb N m k =>
      have h0 : m < 128 := h0
      show (PyData.strOk (Str.ofString "see_marble") && (true && (PyData.strOk (⟨#[m]⟩ : Str) && (PyData.canLay0 (plD w k) && true)))) = true
      have e : PyData.strOk (⟨#[m]⟩ : Str) = true := by
        unfold PyData.strOk
        simp
        omega
      have e2 : PyData.strOk (Str.ofString "see_marble") = true := by decide +kernel
      rw [e, e2]
      rfl
    | rw N i u =>
      have h0 : ∀ c ∈ u, c < 128 := h0
      show (PyData.strOk (Str.ofString "see_row") && (true && (true && (PyData.strOk (S u) && true)))) = true
      have e : PyData.strOk (S u) = true := by
        unfold PyData.strOk
        rw [← Array.all_toList, S_list]
        exact List.all_eq_true.mpr fun c hc => decide_eq_true (by have := h0 c hc; omega)
      have e2 : PyData.strOk (Str.ofString "see_row") = true := by decide +kernel
      rw [e, e2]
      rfl
theorem obs_depth {w : Nat} : ∀ obs : List Ob, PyData.depthAll (obs.map (obD w)) ≤ 2
  | [] => by show 0 ≤ 2; decide
  | o :: r => by
    have ih := obs_depth (w := w) r
    show max (PyData.depth (obD w o)) (PyData.depthAll (r.map (obD w))) ≤ 2
    refine Nat.max_le.mpr ⟨?_, ih⟩
    cases o with
    | mb N m k =>
      show 2 ≤ 2
      decide
    | rw N i u =>
      show 1 ≤ 2
      decide
theorem obs_shaped {w : Nat} {obs : List Ob} (h : ∀ o ∈ obs, okD o) : SeqAt.shaped (.list (obs.map (obD w))) = true := by
  unfold SeqAt.shaped
  rw [show PyData.canLay0 (.list (obs.map (obD w))) = PyData.canLayAll0 (obs.map (obD w)) from rfl, obs_lay h, Bool.true_and]
  rw [show PyData.depth (.list (obs.map (obD w))) = PyData.depthAll (obs.map (obD w)) + 1 from rfl]
  have := obs_depth (w := w) obs
  exact decide_eq_true (by omega)
theorem obs_refl {w : Nat} {obs : List Ob} (h : ∀ o ∈ obs, okD o) : PyData.eqv (.list (obs.map (obD w))) (.list (obs.map (obD w))) = true := SeqAt.eqv_refl _ (obs_lay h)
theorem obs_dp {K : PySem.W.Frag} {H : Hp} {w : Nat} {os : List Addr} {obs : List Ob} (h : Paired (fun a o => ObAt H w a o) os obs) : DpAll K H (os.map V.ref) (obs.map (obD w)) := by
  induction h with
  | nil => exact .nil
  | cons r t ih =>
    rename_i a o as os
    refine .cons ?_ ih
    cases o with
    | mb N m k =>
      obtain ⟨q, h1, h2⟩ := r
      exact .tup (SqT.of h1) (.cons (.str _) (.cons (.int _) (.cons (.str _) (.cons (pl_dp h2) .nil))))
    | rw N i u => exact .tup (SqT.of r) (.cons (.str _) (.cons (.int _) (.cons (.int _) (.cons (.str _) .nil))))
theorem okD_of {h w : Nat} {g : Grid} (hV : VG h w g) {o : Ob} (ok : okOb h w g o) : okD o := by
  cases o with
  | mb N m k =>
    have := (mb_let hV m ok.2.1).2
    show m < 128
    omega
  | rw N i u =>
    intro c hc
    rcases ok.2.2 c hc with h | h
    · omega
    · omega
theorem tray_b2 {K : PySem.W.Frag} {D O t r p dx : Addr} {g : Grid} {H H' : Hp} {xs : List V} {fs : List (Str × V)} (T : TrayAt K D H t g) (hr : H r = some (.lst xs)) (hp : H p = some (.ins O dx fs)) (nDO : D ≠ O) (b : But2 r p H H') : TrayAt K D H' t g := by
  obtain ⟨d, a, h1, h2⟩ := T
  refine ⟨d, a, b _ _ h1 (fun z => by rw [z, hr] at h1; cases h1) (fun z => by rw [z, hp] at h1; injection h1 with h1; injection h1 with h1; exact nDO h1.symm), ?_⟩
  rcases h2 with (h2 | ⟨u, h2⟩) | h2
  · exact .inl (.inl (b _ _ h2 (fun z => by rw [z, hr] at h2; cases h2) fun z => by rw [z, hp] at h2; cases h2))
  · exact .inl (.inr ⟨u, b _ _ h2 (fun z => by rw [z, hr] at h2; cases h2) fun z => by rw [z, hp] at h2; cases h2⟩)
  · exact .inr h2
theorem word_b2 {C O t r p dx : Addr} {u : List Nat} {H H' : Hp} {xs : List V} {fs : List (Str × V)} (W : WordAt C H t u) (hr : H r = some (.lst xs)) (hp : H p = some (.ins O dx fs)) (nCO : C ≠ O) (b : But2 r p H H') : WordAt C H' t u := by
  obtain ⟨d, h1⟩ := W
  exact ⟨d, b _ _ h1 (fun z => by rw [z, hr] at h1; cases h1) (fun z => by rw [z, hp] at h1; injection h1 with h1; injection h1 with h1; exact nCO h1.symm)⟩
structure LwF (P : Program) (w_ : World) (K : PySem.W.Frag) (mg : Str → Option Value) (base : Heap) (n : Nat) (C D O CU : Addr) (a : Addr) (ns : List Int) : Prop where
  s : SeenF P w_ K mg base n C D O CU a ns
  nDO : D ≠ O
  nCO : C ≠ O
  rng : mg "range" = none
  list_ : mg "list" = none
  mgC : mg "Word" = some (.ref C)
  fRw : ∃ g fd, FnOk P w_ K mg base CX0 2 g fd ["_law_row", "_law_most"] (spRw K a ns) ∧ PySem.W.keepIn K (.ref g) = true ∧ Binds K fd ["_law_row", "_law_most"] [] ∧ mg "_law_rows" = some (.ref g)
  fTx : ∃ g fd, FnOk P w_ K mg base CX0 2 g fd ["_law_row", "_law_most"] (spTx K a ns) ∧ PySem.W.keepIn K (.ref g) = true ∧ Binds K fd ["_law_row", "_law_most"] [] ∧ mg "_law_text" = some (.ref g)
  fTy : ∃ g fd, FnOk P w_ K mg base CX0 6 g fd ["_law_rows_here"] (spTry K D) ∧ PySem.W.keepIn K (.ref g) = true ∧ Binds K fd ["_law_rows_here"] [] ∧ mg "_law_tray" = some (.ref g)
  mkW : ∃ g fd, Mk K C g ∧ FnOk P w_ K mg base CX0 3 g fd ["self", "text"] (spWi C) ∧ Binds K fd ["self", "text"] []
  mkO : ∃ g, Mk K O g ∧ FnR P w_ K mg base CX0 1 g (fun vs H Q E => ∃ xs rest, vs = xs ++ rest ∧ xs.length = (["self", "tray"] : List Str).length ∧ rest.length ≤ sizeLine ∧ ∀ p, H p = Option.none → spOi K C D O (xs ++ [V.ref p]) (upd H p (.tup rest)) Q E)
  fIs : ∃ g, FnRn n P w_ K mg base CX0 10 g (spIs K C D O a ns) ∧ PySem.W.keepIn K (.ref g) = true ∧ mg "_law_is_seen" = some (.ref g)
  fAa : ∃ g, FnRn n P w_ K mg base CX0 10 g (spAa K C D O a ns) ∧ PySem.W.keepIn K (.ref g) = true ∧ mg "_law_are_answers" = some (.ref g)
  fg : ∃ mc p g, ClX.CRead K O mc ∧ ClX.CMet K O mc "from_log" p g ∧ FnRn n P w_ K mg base CX0 10 g (spFg K C D O)
  pOb : ∃ p g fd, PropOf K O "observations" p g ∧ FnOk P w_ K mg base CX0 1 g fd ["self"] (spOo K C D O) ∧ Binds K fd ["self"] []
theorem row_seqb {K : PySem.W.Frag} {a r : Addr} {ns : List Int} {H H' : Hp} (R : RowAt K a ns H r) (b : But r H H') : SqL K H' a (ns.map V.int) := by
  obtain ⟨i, d, e, h, _, q⟩ := R
  have hne : ∀ {u : HO}, H a = some u → (∀ xs, u = .lst xs → xs ≠ [.ref a, .int i, .int d, .int e]) → a ≠ r := fun hu hn e' => by
    subst e'
    exact hn _ (Option.some.inj (hu.symm.trans h)) rfl
  rcases q with (q | ⟨u, q⟩) | q
  · exact .inl (.inl (b _ _ q (hne q fun xs e => by
      cases e
      intro z
      cases ns with
      | nil => simp at z
      | cons n r => simp at z)))
  · exact .inl (.inr ⟨u, b _ _ q (hne q fun xs e => by cases e)⟩)
  · exact .inr q
section
variable {P : Program} {w_ : World} {K : PySem.W.Frag} {mg : Str → Option Value} {base : Heap} {C D O CU : Addr} {n : Nat}
abbrev NLw : List Str := ["_law_script", "_law_row", "_law_turn", "_law_tray_here", "_law_words", "_law_hidden", "_law_due", "_law_observer", "_law_again", "_law_other", "_law_k"]
theorem scLw : FnScope NLw ["_law_script"] (defScope sLaw) := ⟨rfl, rfl, rfl, by decide +kernel, rfl, by decide +kernel, by decide +kernel⟩
def spLaw (K : PySem.W.Frag) : Sp := fun vs H Q _ => ∃ (a : Addr) (ns : List Int), vs = [.ref a] ∧ SqL K H a (ns.map V.int) ∧ ∀ H', Q (.bl true) H'
theorem ok_law17 {f : Addr} {fd : FuncData} (F : Fun K "law" "law" sLaw f fd) (b : Binds K fd ["_law_script"] []) (J_ : ∀ a ns, LwF P w_ K mg base n C D O CU a ns) : FnRn n P w_ K mg base CX0 11 f (spLaw K) := by
  refine fn_n F b scLw (fun vs H Q E h => ?_) fun cdv A outer s H vs Q E hr h => ?_
  · obtain ⟨a, ns, rfl, _⟩ := h
    rfl
  · obtain ⟨a, ns, rfl, hS, k⟩ := h
    have J := J_ a ns
    obtain ⟨gRw, fdRw, GRw, kRw, bRw, mRw⟩ := J.fRw
    obtain ⟨gTx, fdTx, GTx, kTx, bTx, mTx⟩ := J.fTx
    obtain ⟨gTy, fdTy, GTy, kTy, bTy, mTy⟩ := J.fTy
    obtain ⟨gTk, fdTk, GTk, kTk, bTk, mTk⟩ := J.s.fTk
    obtain ⟨gWi, fdWi, MW, GWi, bWi⟩ := J.mkW
    obtain ⟨gOi, MO, GOi⟩ := J.mkO
    obtain ⟨gIs, GIs, kIs, mIs⟩ := J.fIs
    obtain ⟨gAa, GAa, kAa, mAa⟩ := J.fAa
    obtain ⟨mcO, pFg, gFg, CRO, CMO, GFg⟩ := J.fg
    obtain ⟨pC, gC, fdC, PC, GC, bC⟩ := J.s.pCa
    obtain ⟨pOb, gOb, fdOb, POb, GOb, bOb⟩ := J.pOb
    have co := J.s.co
    have nd := scLw.nd
    have r6 := hr.mono (show 6 ≤ 10 by decide)
    have r4 := hr.mono (show 4 ≤ 10 by decide)
    have r2 := hr.mono (show 2 ≤ 10 by decide)
    have r1 := hr.mono (show 1 ≤ 10 by decide)
    refine ⟨_, pssn_cut (PS.up (ps_set (i := 1) nd rfl (.inr rfl) (pe_lst (pa_cons (pv 0) (pa_cons pe_int (pa_cons pe_int (pa_cons pe_int pa_nil)))))))
      (pssn_cut (psn_for PassesOwn.never rfl (pi_range1 (by rfl) J.rng (pa_cons pe_int pa_nil)) (pg_name (i := 2) nd rfl (.inl rfl))
        (pssn_cut (PS.up (ps_par (i := 3) (j := 4) rfl nd rfl rfl (by decide) rfl rfl (pa_cons (pe_call GTy r6 rfl mTy kTy bTy .nil pass0 (pa_cons (pe_call GRw r2 rfl mRw kRw bRw .nil pass0 (pa_cons (pv 1) (pa_cons pe_int pa_nil))) pa_nil))
            (pa_cons (pe_lc (own := [("_law_k", 10)]) (g := gName 10) (tt := tYes) rfl nd (pi_range1 (by rfl) J.rng (pa_cons pe_int pa_nil)) (blkOk_by (N := NLw) (sc := defScope sLaw) (by decide +kernel)) (fun _ _ _ _ _ => pg_name (i := 10) nd rfl (.inl rfl)) (fun _ _ _ _ _ => pts_nil)
              (fun _ _ _ _ _ => pe_make MW GWi r4 rfl J.mgC bWi .nil pass0 (pa_cons (pe_call GTx r2 rfl mTx kTx bTx .nil pass0 (pa_cons (pv 1) (pa_cons pe_int pa_nil))) pa_nil))) pa_nil)) (by rfl)))
        (pssn_cut (PS.up (ps_par (i := 5) (j := 6) rfl nd rfl rfl (by decide) rfl rfl (pa_cons (pe_call GTk r1 rfl mTk kTk bTk .nil pass0 (pa_cons (pv 1) (pa_cons pe_int pa_nil))) (pa_cons (pe_listRg rfl (by rfl) J.list_ (prg_1 (by rfl) J.rng pe_int)) pa_nil)) (by rfl)))
        (pssn_cut (PS.up (ps_set (i := 7) nd rfl (.inl rfl) (StX.pe_makeR MO GOi r2 (by rfl) co.mgO pass0 (pa_cons (pv 3) (pa_cons (pe_ix ix_list (pv 4) pe_int (fun _ _ => rfl)) (pa_cons (pe_ix ix_list (pv 4) pe_int (fun _ _ => rfl)) (pa_cons (pe_ix ix_list (pv 4) pe_int (fun _ _ => rfl)) (pa_cons (pe_ix ix_list (pv 4) pe_int (fun _ _ => rfl)) (pa_cons (pe_ix ix_list (pv 4) pe_int (fun _ _ => rfl)) pa_nil)))))))))
        (pssn_cut (psn_for PassesOwn.never rfl (pi_range1 (by rfl) J.rng (pa_cons pe_int pa_nil)) (pg_name (i := 8) nd rfl (.inl rfl))
          (pssn_cut (psn_set (i := 6) nd rfl (.inl rfl) (pen_call GIs hr rfl mIs kIs pass0 (pan_cons (PE.up (pv 1)) (pan_cons (PE.up (pv 7)) (pan_cons (PE.up (pv 3)) (pan_cons (PE.up (pv 4)) (pan_cons (PE.up (pv 5)) (pan_cons (PE.up (pv 6)) pan_nil))))))))
          (pssn_one (PS.up (ps_if (pt_cmpR op_isN (pv 6) pe_non (nomark _)) pss_never pss_nil)))))
        (pssn_cut (psn_if (ptn_not (ptn_val (pen_call GAa hr rfl mAa kAa pass0 (pan_cons (PE.up (pv 1)) (pan_cons (PE.up (pv 7)) (pan_cons (PE.up (pv 3)) (pan_cons (PE.up (pv 4)) (pan_cons (PE.up (pv 6)) pan_nil)))))))) (PSs.up pss_never) (PSs.up pss_nil))
        (pssn_cut (psn_set (i := 9) nd rfl (.inl rfl) (ClX.pen_cmeth (pe_glob (v := .ref O) rfl co.mgO rfl) CRO CMO GFg hr pass0 (pa_cons (pv 3) (pa_cons (pv 4) (pa_cons (pe_prop (pv 7) co.cl POb GOb r2 bOb .nil pass0 rfl) pa_nil)))))
        (pssn_one (PS.up (ps_if (PW.pt (pw_or (pt_cmpR (op_neD hr.units) (pe_prop (pv 9) co.cl PC GC r2 bC .nil pass0 rfl) (pv 6) (nomark _)) (pw_or1 (pt_cmpR (op_neD hr.units) (pe_prop (pv 9) co.cl POb GOb r2 bOb .nil pass0 rfl) (pe_prop (pv 7) co.cl POb GOb r2 bOb .nil pass0 rfl) (nomark _))))) pss_never pss_nil))))))))))
      (pssn_one (PS.up (ps_ret pe_bl)))), ?_⟩
    refine ⟨fun σ H1 => ∃ r, σ = [some (.ref a), some (.ref r), none, none, none, none, none, none, none, none, none] ∧ RowAt K a ns H1 r, ?_, ?_⟩
    · refine ⟨_, rfl, (by show 4 ≤ sizeLine; decide), fun r hr => ⟨r, rfl, 0, 0, 0, upd_same, by omega, ?_⟩⟩
      exact (same_new hr).seq hS
    rintro σ H1 ⟨r, rfl, R1⟩
    refine ⟨fun σ H2 => True, ?_, fun σ H2 _ => k H2⟩
    refine ⟨2, rfl, by decide, by decide, for_range (lo := 0) (n := (2 : Int).toNat) (fun i σ H3 => ∃ v2 v3 v4 v5 v6 v7 v8 v9, σ = [some (.ref a), some (.ref r), v2, v3, v4, v5, v6, v7, v8, v9, none] ∧ RowAt K a ns H3 r) ⟨none, none, none, none, none, none, none, none, rfl, R1⟩ ?_ fun _ _ _ => trivial⟩
    rintro i σ H3 hi ⟨v2, v3, v4, v5, v6, v7, v8, v9, rfl, R3⟩
    clear R1 H1
    -- a tray, words
    refine ⟨fun σ H4 => ∃ ta wl h w g aws ts, σ = [some (.ref a), some (.ref r), some (.int (0 + (i : Nat))), some (.ref ta), some (.ref wl), v5, v6, v7, v8, v9, none] ∧ RowAt K a ns H4 r ∧ TrayAt K D H4 ta g ∧ VG h w g ∧ H4 wl = some (.lst (aws.map V.ref)) ∧ Paired (fun a t => WordAt C H4 a t) aws ts ∧ ts.length = 5 ∧ wl ≠ r, ?_, ?_⟩
    · refine ⟨_, rfl, r, 10, rfl, R3, by decide, fun H4 l h w g hV hl R4 b4 => ⟨l, h, w, g, rfl, hV, hl, fun H5 ta s5 T5 => ?_⟩⟩
      have R5 := R4.same s5
      refine ⟨_, rfl, by decide, by decide, fun D1 hD1 => lc_range (lo := 0) (n := (5 : Int).toNat) (fun j H6 => ∃ aws ts, RowAt K a ns H6 r ∧ But r H5 H6 ∧ TrayAt K D H6 ta g ∧ H6 D1 = some (.lst (aws.map V.ref)) ∧ Paired (fun a t => WordAt C H6 a t) aws ts ∧ ts.length = j)
        ⟨[], [], R5.same (same_new hD1), But.same (same_new hD1), T5.same (same_new hD1), upd_same, .nil, rfl⟩ ?_ ?_⟩
      · rintro j H6 hj ⟨aws, ts, R6, b6, T6, hL, wd, lj⟩
        have D1r : D1 ≠ r := by
          rintro rfl
          obtain ⟨_, _, _, hr_, _⟩ := R5
          rw [hD1] at hr_
          cases hr_
        obtain ⟨_, _, _, hr6, _⟩ := id R6
        refine ⟨rfl, _, rfl, r, 6, rfl, R6, by decide, fun H7 t gt lt R7 b7 => ?_⟩
        intro x dx nx ndx nex
        have hL7 := b7 _ _ hL D1r
        have T7 := tray_butW T6 hr6 b7
        have wd7 := Paired.mapP wd fun a t z => word_butW z hr6 b7
        refine ⟨x, dx, t, rfl, upd_same, gt, fun H8 hw kp => ⟨rfl, ?_⟩⟩
        have s8 := Same.made nx ndx kp
        have hL8 := s8 _ _ hL7
        have la : aws.length = j := by rw [Paired.length wd]; exact lj
        have hj5 : j < 5 := hj
        have b9 : But r H5 (upd H8 D1 (.lst (aws.map V.ref ++ [V.ref x]))) := fun b o e ne => by
          rw [upd_ne fun z => by rw [z, hD1] at e; cases e]
          exact s8 _ _ (b7 _ _ (b6 _ _ e ne) ne)
        have R9 : RowAt K a ns (upd H8 D1 (.lst (aws.map V.ref ++ [V.ref x]))) r := by
          obtain ⟨i8, d8, e8, h8, i08, _⟩ := R7.same s8
          exact ⟨i8, d8, e8, by rw [upd_ne D1r.symm]; exact h8, i08, row_seqb R5 b9⟩
        have wup : ∀ {a : Addr} {t : List Nat}, WordAt C H8 a t → WordAt C (upd H8 D1 (.lst (aws.map V.ref ++ [V.ref x]))) a t := fun {a t} ⟨d, e⟩ => ⟨d, by rw [upd_ne fun z => by rw [z, hL8] at e; cases e]; exact e⟩
        refine ⟨_, hL8, ?_, aws ++ [x], ts ++ [t], R9, b9, tray_upd (T7.same s8) hL8 (fun _ _ => ⟨by simp, by simp⟩) (fun _ _ _ => by simp), ?_, ?_, ?_⟩
        · rw [List.length_map, la]
          show _ < 16777216
          omega
        · rw [upd_same, List.map_append]
          rfl
        · exact Paired.snoc (Paired.mapP wd7 fun a t z => wup (z.same s8)) (wup hw)
        · rw [List.length_append, lj]
          rfl
      · rintro H6 ⟨aws, ts, R6, _, T6, hL, wd, lj⟩
        have D1r : D1 ≠ r := by
          rintro rfl
          obtain ⟨_, _, _, hr_, _⟩ := R5
          rw [hD1] at hr_
          cases hr_
        exact ⟨_, _, rfl, ta, D1, h, w, g, aws, ts, rfl, R6, T6, hV, hL, wd, lj, D1r⟩
    rintro σ H4 ⟨ta, wl, h, w, g, aws, ts, rfl, R4, T4, hV, hwl, wd, l5, wlr⟩
    clear R3 H3
    have la5 : aws.length = 5 := by rw [Paired.length wd]; exact l5
    -- the hidden one, all numbers
    refine ⟨fun σ H5 => ∃ hid dl, σ = [some (.ref a), some (.ref r), some (.int (0 + (i : Nat))), some (.ref ta), some (.ref wl), some (.int (hid : Nat)), some (.ref dl), v7, v8, v9, none] ∧ hid < 5 ∧ RowAt K a ns H5 r ∧ TrayAt K D H5 ta g ∧ H5 wl = some (.lst (aws.map V.ref)) ∧ Paired (fun a t => WordAt C H5 a t) aws ts ∧ H5 dl = some (.lst (natV (List.range 5))), ?_, ?_⟩
    · refine ⟨_, rfl, r, 5, rfl, R4, by decide, by decide, fun H5 hid hh R5 b5 => ?_⟩
      obtain ⟨_, _, _, hr4, _⟩ := id R4
      refine ⟨5, rfl, RgOk.of_le (by decide) (by decide) (by decide) (by decide), fun dl hdl => ?_⟩
      have s6 := same_new (o := .lst (rgV 0 5)) hdl
      refine ⟨_, _, rfl, hid, dl, rfl, by omega, R5.same s6, (tray_butW T4 hr4 b5).same s6, s6 _ _ (b5 _ _ hwl wlr), Paired.mapP wd fun a t z => (word_butW z hr4 b5).same s6, ?_⟩
      rw [upd_same]
      rfl
    rintro σ H5 ⟨hid, dl, rfl, hh, R5, T5, hwl5, wd5, hdl5⟩
    clear R4 T4 hwl wd H4
    have row_nl : ∀ {H : Hp} {l : Addr} {cs : List Nat}, RowAt K a ns H r → H l = some (.lst (natV cs)) → hid ∈ cs → l ≠ r := fun {H l cs} R hl hm => by
      rintro rfl
      obtain ⟨_, _, _, hr_, _⟩ := R
      rw [hl] at hr_
      cases cs with
      | nil => cases hm
      | cons x xs =>
        injection hr_ with e
        injection e with e
        injection e with e _
        cases e
    -- an observer
    refine ⟨fun σ H6 => ∃ p, σ = [some (.ref a), some (.ref r), some (.int (0 + (i : Nat))), some (.ref ta), some (.ref wl), some (.int (hid : Nat)), some (.ref dl), some (.ref p), v8, v9, none] ∧ IsC K C D O a ns r p ta wl dl aws g w ts (List.range 5) [] H6, ?_, ?_⟩
    · obtain ⟨a0, a1, a2, a3, a4, ea⟩ : ∃ a0 a1 a2 a3 a4, aws = [a0, a1, a2, a3, a4] := by
        match aws, la5 with
        | [a0, a1, a2, a3, a4], _ => exact ⟨a0, a1, a2, a3, a4, rfl⟩
      have hw' : H5 wl = some (.lst [V.ref a0, V.ref a1, V.ref a2, V.ref a3, V.ref a4]) := by rw [hwl5, ea]; rfl
      refine ⟨_, rfl, _, rfl, wl, _, 0, .ref a0, rfl, rfl, SqL.of hw', rfl, _, rfl, wl, _, 1, .ref a1, rfl, rfl, SqL.of hw', rfl, _, rfl, wl, _, 2, .ref a2, rfl, rfl, SqL.of hw', rfl, _, rfl, wl, _, 3, .ref a3, rfl, rfl, SqL.of hw', rfl, _, rfl, wl, _, 4, .ref a4, rfl, rfl, SqL.of hw', rfl, fun x dx nx ndx nex => ?_⟩
      refine ⟨[.ref x, .ref ta], [V.ref a0, V.ref a1, V.ref a2, V.ref a3, V.ref a4], rfl, rfl, by show 5 ≤ 16777216; decide, fun q hq => ?_⟩
      have s1 : Same H5 (upd (upd H5 dx (.own x)) x (.ins O dx [])) := fun c o e => by
        rw [upd_ne (ne_of_none e nx), upd_ne (ne_of_none e ndx)]
        exact e
      have s2 := s1.trans (same_new (o := .tup [V.ref a0, V.ref a1, V.ref a2, V.ref a3, V.ref a4]) hq)
      have qx : q ≠ x := fun z => by rw [z, upd_same] at hq; cases hq
      have hx2 : upd (upd (upd H5 dx (.own x)) x (.ins O dx [])) q (.tup [V.ref a0, V.ref a1, V.ref a2, V.ref a3, V.ref a4]) x = some (.ins O dx []) := by
        rw [upd_ne qx.symm, upd_same]
      refine ⟨x, dx, ta, q, w, aws, g, ts, rfl, hx2, T5.same s2, by rw [upd_same, ea]; rfl, Paired.mapP wd5 fun a t z => z.same s2, by omega, by omega, fun H6 I6 b6 => ⟨rfl, x, rfl, ?_⟩⟩
      have s6 : Same H5 H6 := fun c o e => b6 _ _ (s2 _ _ e) (ne_of_none e nx)
      rw [l5] at I6
      exact ⟨R5.same s6, I6, T5.same s6, s6 _ _ hwl5, Paired.mapP wd5 fun a t z => z.same s6, s6 _ _ hdl5⟩
    rintro σ H6 ⟨p, rfl, c6⟩
    clear R5 T5 hwl5 wd5 hdl5 H5
    have hlt : ∀ c ∈ List.range 5, c < ts.length := fun c hc => by rw [l5]; exact List.mem_range.mp hc
    -- three observations
    refine ⟨fun σ H7 => ∃ dl v8 cs obs, σ = [some (.ref a), some (.ref r), some (.int (0 + (i : Nat))), some (.ref ta), some (.ref wl), some (.int (hid : Nat)), some (.ref dl), some (.ref p), v8, v9, none] ∧ IsC K C D O a ns r p ta wl dl aws g w ts cs obs H7 ∧ hid ∈ cs ∧ cs = runO h w g ts obs (List.range 5) ∧ obs.length = 3 ∧ (∀ o ∈ obs, okOb h w g o) ∧ ∀ i, i ≤ obs.length → hid ∈ runO h w g ts (obs.take i) (List.range 5), ?_, ?_⟩
    · refine ⟨3, rfl, by decide, by decide, for_range (lo := 0) (n := (3 : Int).toNat) (fun j σ H7 => ∃ dl v8 cs obs, σ = [some (.ref a), some (.ref r), some (.int (0 + (i : Nat))), some (.ref ta), some (.ref wl), some (.int (hid : Nat)), some (.ref dl), some (.ref p), v8, v9, none] ∧ IsC K C D O a ns r p ta wl dl aws g w ts cs obs H7 ∧ hid ∈ cs ∧ cs = runO h w g ts obs (List.range 5) ∧ obs.length = j ∧ (∀ o ∈ obs, okOb h w g o) ∧ ∀ i, i ≤ obs.length → hid ∈ runO h w g ts (obs.take i) (List.range 5))
        ⟨dl, v8, List.range 5, [], rfl, c6, List.mem_range.mpr hh, rfl, rfl, fun o ho => (nomatch ho), fun i _ => by rw [List.take_nil]; exact List.mem_range.mpr hh⟩ ?_ fun σ H7 z => z⟩
      rintro j σ H7 hj ⟨dl, v8, cs, obs, rfl, c7, hm, ecs, lo, oko, hpre⟩
      have hj3 : j < 3 := hj
      have csub : ∀ c ∈ cs, c ∈ List.range 5 := fun c hc => by rw [ecs] at hc; exact runO_sub c hc
      have clen : cs.length ≤ 5 := by
        have := runO_len (h := h) (w := w) (g := g) (ts := ts) (obs := obs) (cs := List.range 5)
        rw [← ecs, List.length_range] at this
        exact this
      refine ⟨fun σ H8 => ∃ l o, σ = [some (.ref a), some (.ref r), some (.int (0 + (i : Nat))), some (.ref ta), some (.ref wl), some (.int (hid : Nat)), some (.ref l), some (.ref p), some (.int (0 + (j : Nat))), v9, none] ∧ IsC K C D O a ns r p ta wl l aws g w ts (remO h w g ts cs o) (obs ++ [o]) H8 ∧ okOb h w g o ∧ hid ∈ remO h w g ts cs o, ?_, ?_⟩
      · refine ⟨_, rfl, _, rfl, _, rfl, _, rfl, _, rfl, _, rfl, r, p, ta, wl, dl, h, w, hid, aws, g, ts, cs, obs, rfl, c7.R, c7.I, c7.T, hV, c7.hwl, c7.wd, hm, fun c hc => hlt c (csub c hc), by omega, by omega, c7.hdl, wlr, fun H8 l o R8 I8 ok ho hl bb => ?_⟩
        obtain ⟨dx, ta', wa, ca, oa, ws', os, I7⟩ := id c7.I
        obtain ⟨_, _, _, hr7, _⟩ := id c7.R
        have wlp : wl ≠ p := fun z => by have := c7.hwl; rw [z, I7.hp] at this; cases this
        exact ⟨l, o, rfl, ⟨R8, I8, tray_b2 c7.T hr7 I7.hp J.nDO bb, bb _ _ c7.hwl wlr wlp, Paired.mapP c7.wd fun a t z => word_b2 z hr7 I7.hp J.nCO bb, hl⟩, ok, ho⟩
      rintro σ H8 ⟨l, o, rfl, c8, ok, ho⟩
      have eru : runO h w g ts (obs ++ [o]) (List.range 5) = remO h w g ts cs o := by
        unfold runO
        rw [List.foldl_append, ecs]
        rfl
      refine ⟨_, rfl, rfl, _, rfl, iteF ⟨l, _, _, obs ++ [o], rfl, c8, ho, eru.symm, by rw [List.length_append, lo]; rfl, fun x hx => ?_, fun i hi => ?_⟩⟩
      · rcases List.mem_append.mp hx with hx | hx
        · exact oko x hx
        · rw [List.mem_singleton.mp hx]
          exact ok
      · rcases Nat.lt_or_ge obs.length i with q | q
        · have : (obs ++ [o]).take i = obs ++ [o] := List.take_of_length_le (by rw [List.length_append]; exact q)
          rw [this, eru]
          exact ho
        · rw [List.take_append_of_le_length q]
          exact hpre i q
    rintro σ H7 ⟨dl, v8, cs, obs, rfl, c7, hm, ecs, lo, oko, hpre⟩
    clear c6 H6
    have csub : ∀ c ∈ cs, c ∈ List.range 5 := fun c hc => by rw [ecs] at hc; exact runO_sub c hc
    have clen : cs.length ≤ 5 := by
      have := runO_len (h := h) (w := w) (g := g) (ts := ts) (obs := obs) (cs := List.range 5)
      rw [← ecs, List.length_range] at this
      exact this
    have dlr := row_nl c7.R c7.hdl hm
    -- its answers
    refine ⟨fun σ H8 => σ = [some (.ref a), some (.ref r), some (.int (0 + (i : Nat))), some (.ref ta), some (.ref wl), some (.int (hid : Nat)), some (.ref dl), some (.ref p), v8, v9, none] ∧ IsC K C D O a ns r p ta wl dl aws g w ts cs obs H8, ?_, ?_⟩
    · exact ⟨_, rfl, _, rfl, _, rfl, _, rfl, _, rfl, r, p, ta, wl, dl, h, w, aws, g, ts, cs, obs, rfl, c7, hV, List.ne_nil_of_mem hm, fun c hc => hlt c (csub c hc), by omega, wlr, dlr, fun H8 c8 _ => ⟨true, rfl, iteF ⟨rfl, c8⟩⟩⟩
    rintro σ H8 ⟨rfl, c8⟩
    clear c7 H7
    -- another observer by the log
    refine ⟨fun σ H9 => ∃ q, σ = [some (.ref a), some (.ref r), some (.int (0 + (i : Nat))), some (.ref ta), some (.ref wl), some (.int (hid : Nat)), some (.ref dl), some (.ref p), v8, some (.ref q), none] ∧ IsC K C D O a ns r p ta wl dl aws g w ts cs obs H9 ∧ ObsAt K C D O H9 q g w ts cs obs, ?_, ?_⟩
    · obtain ⟨dx, ta', wa, ca, oa, ws', os, I8⟩ := id c8.I
      refine ⟨rfl, _, rfl, _, rfl, _, rfl, p, dx, _, rfl, I8.hp, p, w, g, ts, cs, obs, rfl, c8.I, fun H9 l os' s9 _ hl pob => ?_⟩
      have c9 := c8.same s9
      have l5' : ts.length = 5 := l5
      refine ⟨ta, wl, l, h, w, aws, os', g, ts, obs, rfl, c9.T, hV, SqL.of c9.hwl, c9.wd, by omega, by omega, SqL.of hl, pob, by omega, oko, fun i hi => ?_, fun H10 q I10 s10 => ⟨q, rfl, c9.same s10, ?_⟩⟩
      · rw [l5']
        exact List.ne_nil_of_mem (hpre i hi)
      · rw [l5', ← ecs] at I10
        exact I10
    rintro σ H9 ⟨q, rfl, c9, I9⟩
    clear c8 H8
    have okd : ∀ o ∈ obs, okD o := fun o ho => okD_of hV (oko o ho)
    obtain ⟨dxq, taq, waq, caq, oaq, wsq, osq, I9'⟩ := id I9
    refine ⟨_, rfl, q, dxq, _, rfl, I9'.hp, q, w, g, ts, cs, obs, rfl, I9, fun H10 l2 s10 _ hl2 => ⟨_, rfl, .list (natD cs), .list (natD cs), .lst (SqL.of hl2) (nat_dp _), .lst (SqL.of (s10 _ _ c9.hdl)) (nat_dp _), nat_shaped _, nat_shaped _, ?_⟩⟩
    rw [nat_refl]
    refine ⟨false, rfl, iteF ?_⟩
    have I10 := I9.same s10
    have c10 := c9.same s10
    obtain ⟨dxp, tap, wap, cap, oap, wsp, osp, I10p⟩ := id c10.I
    refine ⟨_, rfl, q, dxq, _, rfl, s10 _ _ I9'.hp, q, w, g, ts, cs, obs, rfl, I10, fun H11 l3 os3 s11 _ hl3 p3 => ?_⟩
    have c11 := c10.same s11
    refine ⟨_, rfl, p, dxp, _, rfl, s11 _ _ I10p.hp, p, w, g, ts, cs, obs, rfl, c11.I, fun H12 l4 os4 s12 _ hl4 p4 => ?_⟩
    refine ⟨.list (obs.map (obD w)), .list (obs.map (obD w)), .lst (SqL.of (s12 _ _ hl3)) (obs_dp (Paired.mapP p3 fun a o z => z.up fun b xs e => s12 _ _ e)), .lst (SqL.of hl4) (obs_dp p4), obs_shaped okd, obs_shaped okd, ?_⟩
    rw [obs_refl okd]
    exact ⟨false, rfl, iteF ⟨_, _, _, _, _, _, _, _, rfl, (c11.same s12).R⟩⟩
end
end TR
end
section
set_option Elab.async false
set_option maxRecDepth 100000
set_option linter.all false
namespace TR
open PySem PySem.Spec PyProof.Rows L2 LamX TM TX TK TB TP TH TU TW TI
set_option maxHeartbeats 4000000
theorem all_mk {P : Program} {w : World} {K : PySem.W.Frag} {h : Heap} {mg : Str → Option Value} {fa : Addr} {C D fIt fFw fWi fWt qWt fTi fTo qTo fRs fFc fIr fTd fSl fTr qTr fTe fMb qMb fWd qWd fHt qHt fTc fCl fNu fPl fCv fAt fCm fCn fEx fCf fAr fMa O fOi fOc qOc fOo qOo fOa fOm fOr fFg qFg fTa fTl fSa fTk fGr fRw fTx fTy fIs fAa fLw e2 fIx2 cc2 cdIx2 N2 e3 : Addr} {tAR tAC t0 tLE tMS tMX tMR tML : Tok} {zAR zAC zEM zLE : Str} {iMS iMX iMR iML : Int}
    {odIt anIt : Option Addr} {slIt : Array (Option Value)} {ocIt kVIt dcIt pmIt cdIt ctIt : Value} {odFw anFw : Option Addr} {slFw : Array (Option Value)} {ocFw kVFw dcFw pmFw cdFw ctFw : Value} {odWi anWi : Option Addr} {slWi : Array (Option Value)} {ocWi kVWi dcWi pmWi cdWi ctWi : Value} {rWt : List Value} {odWt anWt : Option Addr} {slWt : Array (Option Value)} {ocWt kVWt dcWt pmWt cdWt ctWt : Value} {odTi anTi : Option Addr} {slTi : Array (Option Value)} {ocTi kVTi dcTi pmTi cdTi ctTi : Value} {rTo : List Value} {odTo anTo : Option Addr} {slTo : Array (Option Value)} {ocTo kVTo dcTo pmTo cdTo ctTo : Value} {odRs anRs : Option Addr} {slRs : Array (Option Value)} {ocRs kVRs dcRs pmRs cdRs ctRs : Value} {odFc anFc : Option Addr} {slFc : Array (Option Value)} {ocFc kVFc dcFc pmFc cdFc ctFc : Value} {odIr anIr : Option Addr} {slIr : Array (Option Value)} {ocIr kVIr dcIr pmIr cdIr ctIr : Value} {odTd anTd : Option Addr} {slTd : Array (Option Value)} {ocTd kVTd dcTd pmTd cdTd ctTd : Value} {odSl anSl : Option Addr} {slSl : Array (Option Value)} {ocSl kVSl dcSl pmSl cdSl ctSl : Value} {rTr : List Value} {odTr anTr : Option Addr} {slTr : Array (Option Value)} {ocTr kVTr dcTr pmTr cdTr ctTr : Value} {odTe anTe : Option Addr} {slTe : Array (Option Value)} {ocTe kVTe dcTe pmTe cdTe ctTe : Value} {rMb : List Value} {odMb anMb : Option Addr} {slMb : Array (Option Value)} {ocMb kVMb dcMb pmMb cdMb ctMb : Value} {rWd : List Value} {odWd anWd : Option Addr} {slWd : Array (Option Value)} {ocWd kVWd dcWd pmWd cdWd ctWd : Value} {rHt : List Value} {odHt anHt : Option Addr} {slHt : Array (Option Value)} {ocHt kVHt dcHt pmHt cdHt ctHt : Value} {odTc anTc : Option Addr} {slTc : Array (Option Value)} {ocTc kVTc dcTc pmTc cdTc ctTc : Value} {odCl anCl : Option Addr} {slCl : Array (Option Value)} {ocCl kVCl dcCl pmCl cdCl ctCl : Value} {odNu anNu : Option Addr} {slNu : Array (Option Value)} {ocNu kVNu dcNu pmNu cdNu ctNu : Value} {odPl anPl : Option Addr} {slPl : Array (Option Value)} {ocPl kVPl dcPl pmPl cdPl ctPl : Value} {odCv anCv : Option Addr} {slCv : Array (Option Value)} {ocCv kVCv dcCv pmCv cdCv ctCv : Value} {odAt anAt : Option Addr} {slAt : Array (Option Value)} {ocAt kVAt dcAt pmAt cdAt ctAt : Value} {cdC : ClassData} {odCm anCm : Option Addr} {slCm : Array (Option Value)} {ocCm kVCm dcCm pmCm cdCm ctCm : Value} {odCn anCn : Option Addr} {slCn : Array (Option Value)} {ocCn kVCn dcCn pmCn cdCn ctCn : Value} {odEx anEx : Option Addr} {slEx : Array (Option Value)} {ocEx kVEx dcEx pmEx cdEx ctEx : Value} {odCf anCf : Option Addr} {slCf : Array (Option Value)} {ocCf kVCf dcCf pmCf cdCf ctCf : Value} {odAr anAr : Option Addr} {slAr : Array (Option Value)} {ocAr kVAr dcAr pmAr cdAr ctAr : Value} {odMa anMa : Option Addr} {slMa : Array (Option Value)} {ocMa kVMa dcMa pmMa cdMa ctMa : Value} {odOi anOi : Option Addr} {slOi : Array (Option Value)} {ocOi kVOi dcOi pmOi cdOi ctOi : Value} {rOc : List Value} {odOc anOc : Option Addr} {slOc : Array (Option Value)} {ocOc kVOc dcOc pmOc cdOc ctOc : Value} {rOo : List Value} {odOo anOo : Option Addr} {slOo : Array (Option Value)} {ocOo kVOo dcOo pmOo cdOo ctOo : Value} {odOa anOa : Option Addr} {slOa : Array (Option Value)} {ocOa kVOa dcOa pmOa cdOa ctOa : Value} {odOm anOm : Option Addr} {slOm : Array (Option Value)} {ocOm kVOm dcOm pmOm cdOm ctOm : Value} {odOr anOr : Option Addr} {slOr : Array (Option Value)} {ocOr kVOr dcOr pmOr cdOr ctOr : Value} {rFg : List Value} {odFg anFg : Option Addr} {slFg : Array (Option Value)} {ocFg kVFg dcFg pmFg cdFg ctFg : Value} {odTa anTa : Option Addr} {slTa : Array (Option Value)} {ocTa kVTa dcTa pmTa cdTa ctTa : Value} {odTl anTl : Option Addr} {slTl : Array (Option Value)} {ocTl kVTl dcTl pmTl cdTl ctTl : Value} {odSa anSa : Option Addr} {slSa : Array (Option Value)} {ocSa kVSa dcSa pmSa cdSa ctSa : Value} {odTk anTk : Option Addr} {slTk : Array (Option Value)} {ocTk kVTk dcTk pmTk cdTk ctTk : Value} {odGr anGr : Option Addr} {slGr : Array (Option Value)} {ocGr kVGr dcGr pmGr cdGr ctGr : Value} {odRw anRw : Option Addr} {slRw : Array (Option Value)} {ocRw kVRw dcRw pmRw cdRw ctRw : Value} {odTx anTx : Option Addr} {slTx : Array (Option Value)} {ocTx kVTx dcTx pmTx cdTx ctTx : Value} {odTy anTy : Option Addr} {slTy : Array (Option Value)} {ocTy kVTy dcTy pmTy cdTy ctTy : Value} {odIs anIs : Option Addr} {slIs : Array (Option Value)} {ocIs kVIs dcIs pmIs cdIs ctIs : Value} {odAa anAa : Option Addr} {slAa : Array (Option Value)} {ocAa kVAa dcAa pmAa cdAa ctAa : Value} {odLw anLw : Option Addr} {slLw : Array (Option Value)} {ocLw kVLw dcLw pmLw cdLw ctLw : Value} {tfX2 : Tok} {fileX2 nm2 q2 : Str} {bs2 bm2 sub2 : List Value} {sn2 : List Str} {ab2 : Bool} {col2 : Option Bool} {dd2 : Option Addr} {m02 m12 m22 m32 m52 : Option Value} {odIx2 anIx2 cdd2 cld02 : Option Addr} {slIx2 ccs2 csl02 : Array (Option Value)} {vsx2 : Array Value} {ocIx2 kVIx2 dcIx2 pmIx2 ctIx2 ccl2 cl02 : Value}
    (X : K.In h) (G : h.Ns mainGlobals mg) (hfa : mg "law" = some (.ref fa))
    (aC : PySem.W.nsIn K mainGlobals "Word" = some (some (.ref C)))
    (pgC : PySem.W.plainGet K C Str.empty = true)
    (hdC : PySem.W.hasDictIn K C = true)
    (poC : PySem.W.plainOver K C = true)
    (saC : PySem.W.findIn K (.ref C) "__setattr__" = some (some (.builtin "object.__setattr__")))
    (mkC : PySem.W.makesIn K C = true)
    (kcC : PySem.W.keepIn K (.ref C) = true)
    (rdC : PySem.W.readsIn K C (.type "type") = true)
    (gaC : PySem.W.specialIn K (.ref C) "__getattribute__" = some (some (.builtin "type.__getattribute__")))
    (aD : PySem.W.nsIn K mainGlobals "Tray" = some (some (.ref D)))
    (pgD : PySem.W.plainGet K D Str.empty = true)
    (hdD : PySem.W.hasDictIn K D = true)
    (poD : PySem.W.plainOver K D = true)
    (saD : PySem.W.findIn K (.ref D) "__setattr__" = some (some (.builtin "object.__setattr__")))
    (mkD : PySem.W.makesIn K D = true)
    (kcD : PySem.W.keepIn K (.ref D) = true)
    (rdD : PySem.W.readsIn K D (.type "type") = true)
    (gaD : PySem.W.specialIn K (.ref D) "__getattribute__" = some (some (.builtin "type.__getattribute__")))
    (cAR : PySem.W.nsIn K mainGlobals "ALONG_ROWS" = some (some (.str zAR tAR)))
    (cAC : PySem.W.nsIn K mainGlobals "ALONG_COLUMNS" = some (some (.str zAC tAC)))
    (cEM : PySem.W.nsIn K mainGlobals "EMPTY" = some (some (.str zEM t0)))
    (cLE : PySem.W.nsIn K mainGlobals "LETTERS" = some (some (.str zLE tLE)))
    (cMS : PySem.W.nsIn K mainGlobals "MAX_SIDE" = some (some (.int iMS tMS)))
    (nT : PySem.W.findIn K (.ref C) "_text" = some none)
    (nR : PySem.W.findIn K (.ref D) "_rows" = some none)
    (ih : PySem.W.findIn K (.ref C) "__class__" = some (some (.builtin "object.__class__")))
    (in_ : PySem.W.specialIn K (.builtin "object.__class__") "__get__" = some (some (.builtin "getset_descriptor.__get__")))
    (itk : PySem.W.takesIn K (.builtin "object.__class__") = some true)
    (im : PySem.W.mroIn K C (.type "object") = some true)
    (ihD : PySem.W.findIn K (.ref D) "__class__" = some (some (.builtin "object.__class__")))
    (imD : PySem.W.mroIn K D (.type "object") = some true)
    (mx : PySem.W.findCls K (.ref C) (.type "type") "MAX_TILTS" = some (.val (.int iMX tMX)))
    (b_len : PySem.W.nsIn K mainGlobals "len" = some (none))
    (b_isinstance : PySem.W.nsIn K mainGlobals "isinstance" = some (none))
    (b_str : PySem.W.nsIn K mainGlobals "str" = some (none))
    (b_enumerate : PySem.W.nsIn K mainGlobals "enumerate" = some (none))
    (b_set : PySem.W.nsIn K mainGlobals "set" = some (none))
    (b_zip : PySem.W.nsIn K mainGlobals "zip" = some (none))
    (b_tuple : PySem.W.nsIn K mainGlobals "tuple" = some (none))
    (b_int : PySem.W.nsIn K mainGlobals "int" = some (none))
    (b_range : PySem.W.nsIn K mainGlobals "range" = some (none))
    (b_min : PySem.W.nsIn K mainGlobals "min" = some (none))
    (b_max : PySem.W.nsIn K mainGlobals "max" = some (none))
    (b_list : PySem.W.nsIn K mainGlobals "list" = some (none))
    (b_bool : PySem.W.nsIn K mainGlobals "bool" = some (none))
    (b_dict : PySem.W.nsIn K mainGlobals "dict" = some (none))
    (b_sorted : PySem.W.nsIn K mainGlobals "sorted" = some (none))
    (b_divmod : PySem.W.nsIn K mainGlobals "divmod" = some (none))
    (b_super : PySem.W.nsIn K mainGlobals "super" = some (none))
    (b_all : PySem.W.nsIn K mainGlobals "all" = some (none))
    (aIt : PySem.W.nsIn K mainGlobals "is_tilt" = some (some (.ref fIt)))
    (lIt : K.lookup fIt = some ⟨ocIt, odIt, .func (PySem.W.fnOf "is_tilt" "is_tilt" (defArgs sIsTilt) (defBody sIsTilt) (defScope sIsTilt) .none kVIt dcIt pmIt anIt cdIt ctIt), slIt⟩)
    (cIt : PySem.W.codeIn K cdIt "is_tilt" = true)
    (kIt : PySem.W.keepIn K (.ref fIt) = true)
    (aFw : PySem.W.nsIn K mainGlobals "_first_wrong_index" = some (some (.ref fFw)))
    (lFw : K.lookup fFw = some ⟨ocFw, odFw, .func (PySem.W.fnOf "_first_wrong_index" "_first_wrong_index" (defArgs sFirstWrongIndex) (defBody sFirstWrongIndex) (defScope sFirstWrongIndex) .none kVFw dcFw pmFw anFw cdFw ctFw), slFw⟩)
    (cFw : PySem.W.codeIn K cdFw "_first_wrong_index" = true)
    (kFw : PySem.W.keepIn K (.ref fFw) = true)
    (aWi : PySem.W.findIn K (.ref C) "__init__" = some (some (.ref fWi)))
    (iWi : PySem.W.isFn K (.ref fWi) = true)
    (lWi : K.lookup fWi = some ⟨ocWi, odWi, .func (PySem.W.fnOf "__init__" "Word.__init__" (defArgs sWordInit) (defBody sWordInit) (defScope sWordInit) .none kVWi dcWi pmWi anWi cdWi ctWi), slWi⟩)
    (cWi : PySem.W.codeIn K cdWi "Word.__init__" = true)
    (kWi : PySem.W.keepIn K (.ref fWi) = true)
    (pWt : PySem.W.findIn K (.ref C) "text" = some (some (.ref qWt)))
    (pgtWt : PySem.W.specialIn K (.ref qWt) "__get__" = some (some (.builtin "property.__get__")))
    (ptkWt : PySem.W.takesIn K (.ref qWt) = some true)
    (aWt : PySem.W.recIn K qWt "property" = some (.ref fWt :: rWt))
    (lWt : K.lookup fWt = some ⟨ocWt, odWt, .func (PySem.W.fnOf "text" "Word.text" (defArgs sWordText) (defBody sWordText) (defScope sWordText) .none kVWt dcWt pmWt anWt cdWt ctWt), slWt⟩)
    (cWt : PySem.W.codeIn K cdWt "Word.text" = true)
    (kWt : PySem.W.keepIn K (.ref fWt) = true)
    (aTi : PySem.W.findIn K (.ref D) "__init__" = some (some (.ref fTi)))
    (iTi : PySem.W.isFn K (.ref fTi) = true)
    (lTi : K.lookup fTi = some ⟨ocTi, odTi, .func (PySem.W.fnOf "__init__" "Tray.__init__" (defArgs sTrayInit) (defBody sTrayInit) (defScope sTrayInit) .none kVTi dcTi pmTi anTi cdTi ctTi), slTi⟩)
    (cTi : PySem.W.codeIn K cdTi "Tray.__init__" = true)
    (kTi : PySem.W.keepIn K (.ref fTi) = true)
    (pTo : PySem.W.findCls K (.ref D) (.type "type") "of_text" = some (.get (.builtin "classmethod.__get__") (.ref qTo) .none (.ref D)))
    (aTo : PySem.W.recIn K qTo "classmethod" = some (.ref fTo :: rTo))
    (fiTo : PySem.W.fnIn K fTo = true)
    (lTo : K.lookup fTo = some ⟨ocTo, odTo, .func (PySem.W.fnOf "of_text" "Tray.of_text" (defArgs sTrayOfText) (defBody sTrayOfText) (defScope sTrayOfText) .none kVTo dcTo pmTo anTo cdTo ctTo), slTo⟩)
    (cTo : PySem.W.codeIn K cdTo "Tray.of_text" = true)
    (kTo : PySem.W.keepIn K (.ref fTo) = true)
    (aRs : PySem.W.findIn K (.ref D) "__rshift__" = some (some (.ref fRs)))
    (iRs : PySem.W.isFn K (.ref fRs) = true)
    (lRs : K.lookup fRs = some ⟨ocRs, odRs, .func (PySem.W.fnOf "__rshift__" "Tray.__rshift__" (defArgs sTrayRshift) (defBody sTrayRshift) (defScope sTrayRshift) .none kVRs dcRs pmRs anRs cdRs ctRs), slRs⟩)
    (cRs : PySem.W.codeIn K cdRs "Tray.__rshift__" = true)
    (kRs : PySem.W.keepIn K (.ref fRs) = true)
    (aFc : PySem.W.nsIn K mainGlobals "_first_wrong_cell" = some (some (.ref fFc)))
    (lFc : K.lookup fFc = some ⟨ocFc, odFc, .func (PySem.W.fnOf "_first_wrong_cell" "_first_wrong_cell" (defArgs sFirstWrongCell) (defBody sFirstWrongCell) (defScope sFirstWrongCell) .none kVFc dcFc pmFc anFc cdFc ctFc), slFc⟩)
    (cFc : PySem.W.codeIn K cdFc "_first_wrong_cell" = true)
    (kFc : PySem.W.keepIn K (.ref fFc) = true)
    (aIr : PySem.W.nsIn K mainGlobals "_is_row" = some (some (.ref fIr)))
    (lIr : K.lookup fIr = some ⟨ocIr, odIr, .func (PySem.W.fnOf "_is_row" "_is_row" (defArgs sIsRow) (defBody sIsRow) (defScope sIsRow) .none kVIr dcIr pmIr anIr cdIr ctIr), slIr⟩)
    (cIr : PySem.W.codeIn K cdIr "_is_row" = true)
    (kIr : PySem.W.keepIn K (.ref fIr) = true)
    (aTd : PySem.W.nsIn K mainGlobals "_tilted" = some (some (.ref fTd)))
    (lTd : K.lookup fTd = some ⟨ocTd, odTd, .func (PySem.W.fnOf "_tilted" "_tilted" (defArgs sTilted) (defBody sTilted) (defScope sTilted) .none kVTd dcTd pmTd anTd cdTd ctTd), slTd⟩)
    (cTd : PySem.W.codeIn K cdTd "_tilted" = true)
    (kTd : PySem.W.keepIn K (.ref fTd) = true)
    (aSl : PySem.W.nsIn K mainGlobals "_slid" = some (some (.ref fSl)))
    (lSl : K.lookup fSl = some ⟨ocSl, odSl, .func (PySem.W.fnOf "_slid" "_slid" (defArgs sSlid) (defBody sSlid) (defScope sSlid) .none kVSl dcSl pmSl anSl cdSl ctSl), slSl⟩)
    (cSl : PySem.W.codeIn K cdSl "_slid" = true)
    (kSl : PySem.W.keepIn K (.ref fSl) = true)
    (pTr : PySem.W.findIn K (.ref D) "rows" = some (some (.ref qTr)))
    (pgtTr : PySem.W.specialIn K (.ref qTr) "__get__" = some (some (.builtin "property.__get__")))
    (ptkTr : PySem.W.takesIn K (.ref qTr) = some true)
    (aTr : PySem.W.recIn K qTr "property" = some (.ref fTr :: rTr))
    (lTr : K.lookup fTr = some ⟨ocTr, odTr, .func (PySem.W.fnOf "rows" "Tray.rows" (defArgs sTrayRows) (defBody sTrayRows) (defScope sTrayRows) .none kVTr dcTr pmTr anTr cdTr ctTr), slTr⟩)
    (cTr : PySem.W.codeIn K cdTr "Tray.rows" = true)
    (kTr : PySem.W.keepIn K (.ref fTr) = true)
    (aTe : PySem.W.findIn K (.ref D) "__eq__" = some (some (.ref fTe)))
    (iTe : PySem.W.isFn K (.ref fTe) = true)
    (lTe : K.lookup fTe = some ⟨ocTe, odTe, .func (PySem.W.fnOf "__eq__" "Tray.__eq__" (defArgs sTrayEq) (defBody sTrayEq) (defScope sTrayEq) .none kVTe dcTe pmTe anTe cdTe ctTe), slTe⟩)
    (cTe : PySem.W.codeIn K cdTe "Tray.__eq__" = true)
    (kTe : PySem.W.keepIn K (.ref fTe) = true)
    (pMb : PySem.W.findIn K (.ref D) "marbles" = some (some (.ref qMb)))
    (pgtMb : PySem.W.specialIn K (.ref qMb) "__get__" = some (some (.builtin "property.__get__")))
    (ptkMb : PySem.W.takesIn K (.ref qMb) = some true)
    (aMb : PySem.W.recIn K qMb "property" = some (.ref fMb :: rMb))
    (lMb : K.lookup fMb = some ⟨ocMb, odMb, .func (PySem.W.fnOf "marbles" "Tray.marbles" (defArgs sTrayMarbles) (defBody sTrayMarbles) (defScope sTrayMarbles) .none kVMb dcMb pmMb anMb cdMb ctMb), slMb⟩)
    (cMb : PySem.W.codeIn K cdMb "Tray.marbles" = true)
    (kMb : PySem.W.keepIn K (.ref fMb) = true)
    (pWd : PySem.W.findIn K (.ref D) "width" = some (some (.ref qWd)))
    (pgtWd : PySem.W.specialIn K (.ref qWd) "__get__" = some (some (.builtin "property.__get__")))
    (ptkWd : PySem.W.takesIn K (.ref qWd) = some true)
    (aWd : PySem.W.recIn K qWd "property" = some (.ref fWd :: rWd))
    (lWd : K.lookup fWd = some ⟨ocWd, odWd, .func (PySem.W.fnOf "width" "Tray.width" (defArgs sTrayWidth) (defBody sTrayWidth) (defScope sTrayWidth) .none kVWd dcWd pmWd anWd cdWd ctWd), slWd⟩)
    (cWd : PySem.W.codeIn K cdWd "Tray.width" = true)
    (kWd : PySem.W.keepIn K (.ref fWd) = true)
    (pHt : PySem.W.findIn K (.ref D) "height" = some (some (.ref qHt)))
    (pgtHt : PySem.W.specialIn K (.ref qHt) "__get__" = some (some (.builtin "property.__get__")))
    (ptkHt : PySem.W.takesIn K (.ref qHt) = some true)
    (aHt : PySem.W.recIn K qHt "property" = some (.ref fHt :: rHt))
    (lHt : K.lookup fHt = some ⟨ocHt, odHt, .func (PySem.W.fnOf "height" "Tray.height" (defArgs sTrayHeight) (defBody sTrayHeight) (defScope sTrayHeight) .none kVHt dcHt pmHt anHt cdHt ctHt), slHt⟩)
    (cHt : PySem.W.codeIn K cdHt "Tray.height" = true)
    (kHt : PySem.W.keepIn K (.ref fHt) = true)
    (aTc : PySem.W.findIn K (.ref D) "__contains__" = some (some (.ref fTc)))
    (iTc : PySem.W.isFn K (.ref fTc) = true)
    (lTc : K.lookup fTc = some ⟨ocTc, odTc, .func (PySem.W.fnOf "__contains__" "Tray.__contains__" (defArgs sTrayContains) (defBody sTrayContains) (defScope sTrayContains) .none kVTc dcTc pmTc anTc cdTc ctTc), slTc⟩)
    (cTc : PySem.W.codeIn K cdTc "Tray.__contains__" = true)
    (kTc : PySem.W.keepIn K (.ref fTc) = true)
    (aCl : PySem.W.findIn K (.ref D) "__call__" = some (some (.ref fCl)))
    (iCl : PySem.W.isFn K (.ref fCl) = true)
    (lCl : K.lookup fCl = some ⟨ocCl, odCl, .func (PySem.W.fnOf "__call__" "Tray.__call__" (defArgs sTrayCall) (defBody sTrayCall) (defScope sTrayCall) .none kVCl dcCl pmCl anCl cdCl ctCl), slCl⟩)
    (cCl : PySem.W.codeIn K cdCl "Tray.__call__" = true)
    (kCl : PySem.W.keepIn K (.ref fCl) = true)
    (fnCl : PySem.W.fnIn K fCl = true)
    (aNu : PySem.W.nsIn K mainGlobals "is_number" = some (some (.ref fNu)))
    (lNu : K.lookup fNu = some ⟨ocNu, odNu, .func (PySem.W.fnOf "is_number" "is_number" (defArgs sIsNumber) (defBody sIsNumber) (defScope sIsNumber) .none kVNu dcNu pmNu anNu cdNu ctNu), slNu⟩)
    (cNu : PySem.W.codeIn K cdNu "is_number" = true)
    (kNu : PySem.W.keepIn K (.ref fNu) = true)
    (aPl : PySem.W.nsIn K mainGlobals "is_place" = some (some (.ref fPl)))
    (lPl : K.lookup fPl = some ⟨ocPl, odPl, .func (PySem.W.fnOf "is_place" "is_place" (defArgs sIsPlace) (defBody sIsPlace) (defScope sIsPlace) .none kVPl dcPl pmPl anPl cdPl ctPl), slPl⟩)
    (cPl : PySem.W.codeIn K cdPl "is_place" = true)
    (kPl : PySem.W.keepIn K (.ref fPl) = true)
    (aCv : PySem.W.nsIn K mainGlobals "check_place" = some (some (.ref fCv)))
    (lCv : K.lookup fCv = some ⟨ocCv, odCv, .func (PySem.W.fnOf "check_place" "check_place" (defArgs sCheckPlace) (defBody sCheckPlace) (defScope sCheckPlace) .none kVCv dcCv pmCv anCv cdCv ctCv), slCv⟩)
    (cCv : PySem.W.codeIn K cdCv "check_place" = true)
    (kCv : PySem.W.keepIn K (.ref fCv) = true)
    (aAt : PySem.W.findIn K (.ref D) "at" = some (some (.ref fAt)))
    (iAt : PySem.W.isFn K (.ref fAt) = true)
    (lAt : K.lookup fAt = some ⟨ocAt, odAt, .func (PySem.W.fnOf "at" "Tray.at" (defArgs sTrayAt) (defBody sTrayAt) (defScope sTrayAt) .none kVAt dcAt pmAt anAt cdAt ctAt), slAt⟩)
    (cAt : PySem.W.codeIn K cdAt "Tray.at" = true)
    (kAt : PySem.W.keepIn K (.ref fAt) = true)
    (sf : PySem.W.selfFirst K D = true)
    (nc : PySem.W.clsIn K C = some cdC)
    (nm : cdC.mro = [.ref C, .type "object"])
    (n1 : PySem.W.findIn K (.ref C) "__rshift__" = some none)
    (n2 : PySem.W.findIn K (.ref C) "__rrshift__" = some none)
    (n3 : PySem.W.findIn K (.type "object") "__rshift__" = some none)
    (n4 : PySem.W.findIn K (.type "object") "__rrshift__" = some none)
    (aCm : PySem.W.nsIn K mainGlobals "check_marble" = some (some (.ref fCm)))
    (lCm : K.lookup fCm = some ⟨ocCm, odCm, .func (PySem.W.fnOf "check_marble" "check_marble" (defArgs sCheckMarble) (defBody sCheckMarble) (defScope sCheckMarble) .none kVCm dcCm pmCm anCm cdCm ctCm), slCm⟩)
    (cCm : PySem.W.codeIn K cdCm "check_marble" = true)
    (kCm : PySem.W.keepIn K (.ref fCm) = true)
    (aCn : PySem.W.nsIn K mainGlobals "check_number" = some (some (.ref fCn)))
    (lCn : K.lookup fCn = some ⟨ocCn, odCn, .func (PySem.W.fnOf "check_number" "check_number" (defArgs sCheckNumber) (defBody sCheckNumber) (defScope sCheckNumber) .none kVCn dcCn pmCn anCn cdCn ctCn), slCn⟩)
    (cCn : PySem.W.codeIn K cdCn "check_number" = true)
    (kCn : PySem.W.keepIn K (.ref fCn) = true)
    (aEx : PySem.W.nsIn K mainGlobals "exchange" = some (some (.ref fEx)))
    (lEx : K.lookup fEx = some ⟨ocEx, odEx, .func (PySem.W.fnOf "exchange" "exchange" (defArgs sExchange) (defBody sExchange) (defScope sExchange) .none kVEx dcEx pmEx anEx cdEx ctEx), slEx⟩)
    (cEx : PySem.W.codeIn K cdEx "exchange" = true)
    (kEx : PySem.W.keepIn K (.ref fEx) = true)
    (aCf : PySem.W.nsIn K mainGlobals "_circle_from" = some (some (.ref fCf)))
    (lCf : K.lookup fCf = some ⟨ocCf, odCf, .func (PySem.W.fnOf "_circle_from" "_circle_from" (defArgs sCircleFrom) (defBody sCircleFrom) (defScope sCircleFrom) .none kVCf dcCf pmCf anCf cdCf ctCf), slCf⟩)
    (cCf : PySem.W.codeIn K cdCf "_circle_from" = true)
    (kCf : PySem.W.keepIn K (.ref fCf) = true)
    (aAr : PySem.W.nsIn K mainGlobals "after_rounds" = some (some (.ref fAr)))
    (lAr : K.lookup fAr = some ⟨ocAr, odAr, .func (PySem.W.fnOf "after_rounds" "after_rounds" (defArgs sAfterRounds) (defBody sAfterRounds) (defScope sAfterRounds) .none kVAr dcAr pmAr anAr cdAr ctAr), slAr⟩)
    (cAr : PySem.W.codeIn K cdAr "after_rounds" = true)
    (kAr : PySem.W.keepIn K (.ref fAr) = true)
    (aMa : PySem.W.nsIn K mainGlobals "marble_after" = some (some (.ref fMa)))
    (lMa : K.lookup fMa = some ⟨ocMa, odMa, .func (PySem.W.fnOf "marble_after" "marble_after" (defArgs sMarbleAfter) (defBody sMarbleAfter) (defScope sMarbleAfter) .none kVMa dcMa pmMa anMa cdMa ctMa), slMa⟩)
    (cMa : PySem.W.codeIn K cdMa "marble_after" = true)
    (kMa : PySem.W.keepIn K (.ref fMa) = true)
    (cMR : PySem.W.nsIn K mainGlobals "MAX_ROUNDS" = some (some (.int iMR tMR)))
    (aO : PySem.W.nsIn K mainGlobals "WordObserver" = some (some (.ref O)))
    (pgO : PySem.W.plainGet K O Str.empty = true)
    (hdO : PySem.W.hasDictIn K O = true)
    (poO : PySem.W.plainOver K O = true)
    (saO : PySem.W.findIn K (.ref O) "__setattr__" = some (some (.builtin "object.__setattr__")))
    (mkO : PySem.W.makesIn K O = true)
    (kcO : PySem.W.keepIn K (.ref O) = true)
    (rdO : PySem.W.readsIn K O (.type "type") = true)
    (gaO : PySem.W.specialIn K (.ref O) "__getattribute__" = some (some (.builtin "type.__getattribute__")))
    (nO1 : PySem.W.findIn K (.ref O) "_tray" = some none)
    (nO2 : PySem.W.findIn K (.ref O) "_words" = some none)
    (nO3 : PySem.W.findIn K (.ref O) "_candidates" = some none)
    (nO4 : PySem.W.findIn K (.ref O) "_observations" = some none)
    (aOi : PySem.W.findIn K (.ref O) "__init__" = some (some (.ref fOi)))
    (iOi : PySem.W.isFn K (.ref fOi) = true)
    (lOi : K.lookup fOi = some ⟨ocOi, odOi, .func (PySem.W.fnOf "__init__" "WordObserver.__init__" (defArgs sWordObserverInit) (defBody sWordObserverInit) (defScope sWordObserverInit) .none kVOi dcOi pmOi anOi cdOi ctOi), slOi⟩)
    (cOi : PySem.W.codeIn K cdOi "WordObserver.__init__" = true)
    (kOi : PySem.W.keepIn K (.ref fOi) = true)
    (pOc : PySem.W.findIn K (.ref O) "candidates" = some (some (.ref qOc)))
    (pgtOc : PySem.W.specialIn K (.ref qOc) "__get__" = some (some (.builtin "property.__get__")))
    (ptkOc : PySem.W.takesIn K (.ref qOc) = some true)
    (aOc : PySem.W.recIn K qOc "property" = some (.ref fOc :: rOc))
    (lOc : K.lookup fOc = some ⟨ocOc, odOc, .func (PySem.W.fnOf "candidates" "WordObserver.candidates" (defArgs sWordObserverCandidates) (defBody sWordObserverCandidates) (defScope sWordObserverCandidates) .none kVOc dcOc pmOc anOc cdOc ctOc), slOc⟩)
    (cOc : PySem.W.codeIn K cdOc "WordObserver.candidates" = true)
    (kOc : PySem.W.keepIn K (.ref fOc) = true)
    (pOo : PySem.W.findIn K (.ref O) "observations" = some (some (.ref qOo)))
    (pgtOo : PySem.W.specialIn K (.ref qOo) "__get__" = some (some (.builtin "property.__get__")))
    (ptkOo : PySem.W.takesIn K (.ref qOo) = some true)
    (aOo : PySem.W.recIn K qOo "property" = some (.ref fOo :: rOo))
    (lOo : K.lookup fOo = some ⟨ocOo, odOo, .func (PySem.W.fnOf "observations" "WordObserver.observations" (defArgs sWordObserverObservations) (defBody sWordObserverObservations) (defScope sWordObserverObservations) .none kVOo dcOo pmOo anOo cdOo ctOo), slOo⟩)
    (cOo : PySem.W.codeIn K cdOo "WordObserver.observations" = true)
    (kOo : PySem.W.keepIn K (.ref fOo) = true)
    (aOa : PySem.W.findIn K (.ref O) "_accept" = some (some (.ref fOa)))
    (iOa : PySem.W.isFn K (.ref fOa) = true)
    (lOa : K.lookup fOa = some ⟨ocOa, odOa, .func (PySem.W.fnOf "_accept" "WordObserver._accept" (defArgs sWordObserverAccept) (defBody sWordObserverAccept) (defScope sWordObserverAccept) .none kVOa dcOa pmOa anOa cdOa ctOa), slOa⟩)
    (cOa : PySem.W.codeIn K cdOa "WordObserver._accept" = true)
    (kOa : PySem.W.keepIn K (.ref fOa) = true)
    (aOm : PySem.W.findIn K (.ref O) "see_marble" = some (some (.ref fOm)))
    (iOm : PySem.W.isFn K (.ref fOm) = true)
    (lOm : K.lookup fOm = some ⟨ocOm, odOm, .func (PySem.W.fnOf "see_marble" "WordObserver.see_marble" (defArgs sWordObserverSeeMarble) (defBody sWordObserverSeeMarble) (defScope sWordObserverSeeMarble) .none kVOm dcOm pmOm anOm cdOm ctOm), slOm⟩)
    (cOm : PySem.W.codeIn K cdOm "WordObserver.see_marble" = true)
    (kOm : PySem.W.keepIn K (.ref fOm) = true)
    (aOr : PySem.W.findIn K (.ref O) "see_row" = some (some (.ref fOr)))
    (iOr : PySem.W.isFn K (.ref fOr) = true)
    (lOr : K.lookup fOr = some ⟨ocOr, odOr, .func (PySem.W.fnOf "see_row" "WordObserver.see_row" (defArgs sWordObserverSeeRow) (defBody sWordObserverSeeRow) (defScope sWordObserverSeeRow) .none kVOr dcOr pmOr anOr cdOr ctOr), slOr⟩)
    (cOr : PySem.W.codeIn K cdOr "WordObserver.see_row" = true)
    (kOr : PySem.W.keepIn K (.ref fOr) = true)
    (pFg : PySem.W.findCls K (.ref O) (.type "type") "from_log" = some (.get (.builtin "classmethod.__get__") (.ref qFg) .none (.ref O)))
    (aFg : PySem.W.recIn K qFg "classmethod" = some (.ref fFg :: rFg))
    (fiFg : PySem.W.fnIn K fFg = true)
    (lFg : K.lookup fFg = some ⟨ocFg, odFg, .func (PySem.W.fnOf "from_log" "WordObserver.from_log" (defArgs sWordObserverFromLog) (defBody sWordObserverFromLog) (defScope sWordObserverFromLog) .none kVFg dcFg pmFg anFg cdFg ctFg), slFg⟩)
    (cFg : PySem.W.codeIn K cdFg "WordObserver.from_log" = true)
    (kFg : PySem.W.keepIn K (.ref fFg) = true)
    (aTa : PySem.W.findIn K (.ref O) "trays_after" = some (some (.ref fTa)))
    (iTa : PySem.W.isFn K (.ref fTa) = true)
    (lTa : K.lookup fTa = some ⟨ocTa, odTa, .func (PySem.W.fnOf "trays_after" "WordObserver.trays_after" (defArgs sWordObserverTraysAfter) (defBody sWordObserverTraysAfter) (defScope sWordObserverTraysAfter) .none kVTa dcTa pmTa anTa cdTa ctTa), slTa⟩)
    (cTa : PySem.W.codeIn K cdTa "WordObserver.trays_after" = true)
    (kTa : PySem.W.keepIn K (.ref fTa) = true)
    (aTl : PySem.W.findIn K (.ref O) "telling_round" = some (some (.ref fTl)))
    (iTl : PySem.W.isFn K (.ref fTl) = true)
    (lTl : K.lookup fTl = some ⟨ocTl, odTl, .func (PySem.W.fnOf "telling_round" "WordObserver.telling_round" (defArgs sWordObserverTellingRound) (defBody sWordObserverTellingRound) (defScope sWordObserverTellingRound) .none kVTl dcTl pmTl anTl cdTl ctTl), slTl⟩)
    (cTl : PySem.W.codeIn K cdTl "WordObserver.telling_round" = true)
    (kTl : PySem.W.keepIn K (.ref fTl) = true)
    (bgOm : PySem.W.specialIn K (.ref fOm) "__get__" = some (some (.builtin "function.__get__")))
    (btOm : PySem.W.takesIn K (.ref fOm) = some false)
    (bfOm : PySem.W.fnIn K fOm = true)
    (bgOr : PySem.W.specialIn K (.ref fOr) "__get__" = some (some (.builtin "function.__get__")))
    (btOr : PySem.W.takesIn K (.ref fOr) = some false)
    (bfOr : PySem.W.fnIn K fOr = true)
    (aSa : PySem.W.nsIn K mainGlobals "surely_at" = some (some (.ref fSa)))
    (lSa : K.lookup fSa = some ⟨ocSa, odSa, .func (PySem.W.fnOf "surely_at" "surely_at" (defArgs sSurelyAt) (defBody sSurelyAt) (defScope sSurelyAt) .none kVSa dcSa pmSa anSa cdSa ctSa), slSa⟩)
    (cSa : PySem.W.codeIn K cdSa "surely_at" = true)
    (kSa : PySem.W.keepIn K (.ref fSa) = true)
    (cML : PySem.W.nsIn K mainGlobals "MAX_LIMIT" = some (some (.int iML tML)))
    (nDO : D ≠ O)
    (nCO : C ≠ O)
    (aTk : PySem.W.nsIn K mainGlobals "_law_taken" = some (some (.ref fTk)))
    (lTk : K.lookup fTk = some ⟨ocTk, odTk, .func (PySem.W.fnOf "_law_taken" "_law_taken" (defArgs sLawTaken) (defBody sLawTaken) (defScope sLawTaken) .none kVTk dcTk pmTk anTk cdTk ctTk), slTk⟩)
    (cTk : PySem.W.codeIn K cdTk "_law_taken" = true)
    (kTk : PySem.W.keepIn K (.ref fTk) = true)
    (aGr : PySem.W.nsIn K mainGlobals "_law_great" = some (some (.ref fGr)))
    (lGr : K.lookup fGr = some ⟨ocGr, odGr, .func (PySem.W.fnOf "_law_great" "_law_great" (defArgs sLawGreat) (defBody sLawGreat) (defScope sLawGreat) .none kVGr dcGr pmGr anGr cdGr ctGr), slGr⟩)
    (cGr : PySem.W.codeIn K cdGr "_law_great" = true)
    (kGr : PySem.W.keepIn K (.ref fGr) = true)
    (aRw : PySem.W.nsIn K mainGlobals "_law_rows" = some (some (.ref fRw)))
    (lRw : K.lookup fRw = some ⟨ocRw, odRw, .func (PySem.W.fnOf "_law_rows" "_law_rows" (defArgs sLawRows) (defBody sLawRows) (defScope sLawRows) .none kVRw dcRw pmRw anRw cdRw ctRw), slRw⟩)
    (cRw : PySem.W.codeIn K cdRw "_law_rows" = true)
    (kRw : PySem.W.keepIn K (.ref fRw) = true)
    (aTx : PySem.W.nsIn K mainGlobals "_law_text" = some (some (.ref fTx)))
    (lTx : K.lookup fTx = some ⟨ocTx, odTx, .func (PySem.W.fnOf "_law_text" "_law_text" (defArgs sLawText) (defBody sLawText) (defScope sLawText) .none kVTx dcTx pmTx anTx cdTx ctTx), slTx⟩)
    (cTx : PySem.W.codeIn K cdTx "_law_text" = true)
    (kTx : PySem.W.keepIn K (.ref fTx) = true)
    (aTy : PySem.W.nsIn K mainGlobals "_law_tray" = some (some (.ref fTy)))
    (lTy : K.lookup fTy = some ⟨ocTy, odTy, .func (PySem.W.fnOf "_law_tray" "_law_tray" (defArgs sLawTray) (defBody sLawTray) (defScope sLawTray) .none kVTy dcTy pmTy anTy cdTy ctTy), slTy⟩)
    (cTy : PySem.W.codeIn K cdTy "_law_tray" = true)
    (kTy : PySem.W.keepIn K (.ref fTy) = true)
    (aIs : PySem.W.nsIn K mainGlobals "_law_is_seen" = some (some (.ref fIs)))
    (lIs : K.lookup fIs = some ⟨ocIs, odIs, .func (PySem.W.fnOf "_law_is_seen" "_law_is_seen" (defArgs sLawIsSeen) (defBody sLawIsSeen) (defScope sLawIsSeen) .none kVIs dcIs pmIs anIs cdIs ctIs), slIs⟩)
    (cIs : PySem.W.codeIn K cdIs "_law_is_seen" = true)
    (kIs : PySem.W.keepIn K (.ref fIs) = true)
    (aAa : PySem.W.nsIn K mainGlobals "_law_are_answers" = some (some (.ref fAa)))
    (lAa : K.lookup fAa = some ⟨ocAa, odAa, .func (PySem.W.fnOf "_law_are_answers" "_law_are_answers" (defArgs sLawAreAnswers) (defBody sLawAreAnswers) (defScope sLawAreAnswers) .none kVAa dcAa pmAa anAa cdAa ctAa), slAa⟩)
    (cAa : PySem.W.codeIn K cdAa "_law_are_answers" = true)
    (kAa : PySem.W.keepIn K (.ref fAa) = true)
    (aLw : PySem.W.nsIn K mainGlobals "law" = some (some (.ref fLw)))
    (lLw : K.lookup fLw = some ⟨ocLw, odLw, .func (PySem.W.fnOf "law" "law" (defArgs sLaw) (defBody sLaw) (defScope sLaw) .none kVLw dcLw pmLw anLw cdLw ctLw), slLw⟩)
    (cLw : PySem.W.codeIn K cdLw "law" = true)
    (kLw : PySem.W.keepIn K (.ref fLw) = true)
    (ge2 : PySem.W.nsIn K mainGlobals "UnknownMarble" = some (some (.ref e2)))
    (xL2 : K.lookup e2 = some (excClassObj nm2 q2 e2 N2 bs2 bm2 true sn2 sub2 ab2 col2 dd2 m02 m12 m22 m32 m52 "ValueError.__new__"))
    (xb2 : PySem.HandSPX.refsVE bm2 = true)
    (xsa2 : PySem.W.findIn K (.ref e2) "__setattr__" = some (some (.builtin "object.__setattr__")))
    (xex2 : PySem.W.subIn K (.ref e2) (.type "BaseException") = some true)
    (xty2 : PySem.W.typeIn K (.ref e2) = some (.type "type"))
    (xk2 : PySem.W.keepIn K (.ref e2) = true)
    (aIx2 : PySem.W.findIn K (.ref e2) "__init__" = some (some (.ref fIx2)))
    (tIx2 : PySem.W.typeIn K (.ref fIx2) = some (.type "function"))
    (lIx2 : K.lookup fIx2 = some ⟨ocIx2, odIx2, .func (PySem.W.fnX "__init__" "UnknownMarble.__init__" (defArgs sUnknownMarbleInit) (defBody sUnknownMarbleInit) (defScope sUnknownMarbleInit) [("__class__", cc2)] .none kVIx2 dcIx2 pmIx2 anIx2 (.ref cdIx2) ctIx2), slIx2⟩)
    (cIx2 : PySem.W.codeIn K (.ref cdIx2) "UnknownMarble.__init__" = true)
    (kx12 : K.lookup cdIx2 = some ⟨ccl2, cdd2, .fields vsx2, ccs2⟩)
    (kx22 : vsx2[2]? = some (.str fileX2 tfX2))
    (kx32 : ((P.main.file : Str) == fileX2) = true)
    (kx42 : K.lookup cc2 = some ⟨cl02, cld02, .cell (some (.ref e2)), csl02⟩)
    (kx52 : PySem.W.mroIn K e2 (.ref e2) = some true)
    (kx62 : PySem.W.ks_superIn K e2 e2 "__init__" = some (some (.builtin "ValueError.__init__")))
    (kx72 : PySem.W.subIn K (.ref e2) (.type "ValueError") = some true)
    (nI3 : PySem.W.findIn K (.ref e2) "marble" = some none)
    (kx8 : PySem.W.nsIn K cStatics "thirdparty.any" = some none)
    (kx9 : (P.main.scope.names.lookup ("super" : Str)).isSome = false)
    (ge3 : PySem.W.nsIn K mainGlobals "InvalidPlace" = some (some (.ref e3)))
    (q3 : PySem.W.excIn K e3 [.type "ValueError", .type "Exception", .type "BaseException", .type "object"] "ValueError.__new__" = true)
    (k3 : PySem.W.keepIn K (.ref e3) = true)
    (t3 : PySem.W.typeIn K (.ref e3) = some (.type "type"))
    (hs_3 : PySem.W.subIn K (.ref e3) (.type "BaseException") = some true)
    (eAR : zAR = S [108, 114])
    (eAC : zAC = S [117, 100])
    (eEM : zEM = S [46])
    (eLE : zLE = S letters)
    (eMS : iMS = 8)
    (eMX : iMX = 60)
    (eMR : iMR = ((10 ^ 18 : Nat) : Int))
    (eML : iML = ((200 : Nat) : Int))
    (hDC : D ≠ C)
    (h0 : t0 ≠ 0)
    : ∀ base : Heap, K.In base → base.Ns mainGlobals mg → FnRn (t0 + 1) P w K mg base CX0 11 fa (spLaw K) := by
  intro base _ _
  subst eAR eAC eEM eLE eMS eMX eMR eML
  have g : ∀ {n : Str} {v : Value}, PySem.W.nsIn K mainGlobals n = some (some v) → mg n = some v := fun e => PySem.W.mg_of X G e
  have g0 : ∀ {n : Str}, PySem.W.nsIn K mainGlobals n = some none → mg n = none := fun e => PySem.W.mg_none_of X G e
  obtain rfl : fLw = fa := by
    have e := hfa.symm.trans (g aLw)
    cases e
    rfl
  have raw0 : ∀ {CX : CXT} {k : Nat} {f : Addr} {fd : FuncData} {ps : List Str} {sp : Sp}, FnOk P w K mg base CX k f fd ps sp → Binds K fd ps [] → FnR P w K mg base CX k f sp := fun F b => (F.raw b .nil).imp fun vs H Q E h => by rw [List.append_nil]; exact h
  have T : TxtW K mg := ⟨g0 b_len, g0 b_isinstance, g0 b_str, g0 b_enumerate, ⟨_, g cAR, _, rfl⟩, ⟨_, g cAC, _, rfl⟩⟩
  have U : TxtT K mg t0 := ⟨g cEM, ⟨_, g cLE, _, rfl⟩, ⟨_, g cMS, _, rfl⟩, g0 b_set, g0 b_zip, g0 b_tuple⟩
  have L : TxtL K mg := ⟨g0 b_int, g0 b_range, g0 b_min⟩
  have clC : Cls K C := ⟨pgC, hdC, poC, saC⟩
  have clD : Cls K D := ⟨pgD, hdD, poD, saD⟩
  have CW : ClsW K mg C := ⟨clC, nT, g aC, .type "type", _, ⟨rdC, gaC⟩, mx, _, rfl⟩
  have CT : ClsT K mg D := ⟨clD, nR, g aD⟩
  have IC : C8.InsC K C := ⟨clC, ih, in_, itk, im, if_pos (by simp)⟩
  have ID : C8.InsC K D := ⟨clD, ihD, in_, itk, imD, if_pos (by simp)⟩
  have FIt := fun_mk (st := sIsTilt) lIt cIt kIt
  have BIt := FIt.binds (ps := ["value"]) fun _ _ _ _ _ _ us hl => match us, hl with | [_], _ => rfl
  have FFw := fun_mk (st := sFirstWrongIndex) lFw cFw kFw
  have BFw := FFw.binds (ps := ["text"]) fun _ _ _ _ _ _ us hl => match us, hl with | [_], _ => rfl
  have FWi := fun_mk (st := sWordInit) lWi cWi kWi
  have BWi := FWi.binds (ps := ["self", "text"]) fun _ _ _ _ _ _ us hl => match us, hl with | [_, _], _ => rfl
  have FWt := fun_mk (st := sWordText) lWt cWt kWt
  have BWt := FWt.binds (ps := ["self"]) fun _ _ _ _ _ _ us hl => match us, hl with | [_], _ => rfl
  have FTo := fun_mk (st := sTrayOfText) lTo cTo kTo
  have BTo := FTo.binds (ps := ["cls", "text"]) fun _ _ _ _ _ _ us hl => match us, hl with | [_, _], _ => rfl
  have FRs := fun_mk (st := sTrayRshift) lRs cRs kRs
  have BRs := FRs.binds (ps := ["self", "other"]) fun _ _ _ _ _ _ us hl => match us, hl with | [_, _], _ => rfl
  have FFc := fun_mk (st := sFirstWrongCell) lFc cFc kFc
  have BFc := FFc.binds (ps := ["rows"]) fun _ _ _ _ _ _ us hl => match us, hl with | [_], _ => rfl
  have FIr := fun_mk (st := sIsRow) lIr cIr kIr
  have BIr := FIr.binds (ps := ["row"]) fun _ _ _ _ _ _ us hl => match us, hl with | [_], _ => rfl
  have FTd := fun_mk (st := sTilted) lTd cTd kTd
  have BTd := FTd.binds (ps := ["rows", "tilt"]) fun _ _ _ _ _ _ us hl => match us, hl with | [_, _], _ => rfl
  have FSl := fun_mk (st := sSlid) lSl cSl kSl
  have BSl := FSl.binds (ps := ["line", "to_beginning"]) fun _ _ _ _ _ _ us hl => match us, hl with | [_, _], _ => rfl
  have FTr := fun_mk (st := sTrayRows) lTr cTr kTr
  have BTr := FTr.binds (ps := ["self"]) fun _ _ _ _ _ _ us hl => match us, hl with | [_], _ => rfl
  have FTe := fun_mk (st := sTrayEq) lTe cTe kTe
  have BTe := FTe.binds (ps := ["self", "other"]) fun _ _ _ _ _ _ us hl => match us, hl with | [_, _], _ => rfl
  have FMb := fun_mk (st := sTrayMarbles) lMb cMb kMb
  have BMb := FMb.binds (ps := ["self"]) fun _ _ _ _ _ _ us hl => match us, hl with | [_], _ => rfl
  have FWd := fun_mk (st := sTrayWidth) lWd cWd kWd
  have BWd := FWd.binds (ps := ["self"]) fun _ _ _ _ _ _ us hl => match us, hl with | [_], _ => rfl
  have FHt := fun_mk (st := sTrayHeight) lHt cHt kHt
  have BHt := FHt.binds (ps := ["self"]) fun _ _ _ _ _ _ us hl => match us, hl with | [_], _ => rfl
  have FTc := fun_mk (st := sTrayContains) lTc cTc kTc
  have BTc := FTc.binds (ps := ["self", "x"]) fun _ _ _ _ _ _ us hl => match us, hl with | [_, _], _ => rfl
  have FCl := fun_mk (st := sTrayCall) lCl cCl kCl
  have BCl := FCl.binds (ps := ["self", "marble"]) fun _ _ _ _ _ _ us hl => match us, hl with | [_, _], _ => rfl
  have FNu := fun_mk (st := sIsNumber) lNu cNu kNu
  have BNu := FNu.binds (ps := ["value", "limit"]) fun _ _ _ _ _ _ us hl => match us, hl with | [_, _], _ => rfl
  have FPl := fun_mk (st := sIsPlace) lPl cPl kPl
  have BPl := FPl.binds (ps := ["value", "height", "width"]) fun _ _ _ _ _ _ us hl => match us, hl with | [_, _, _], _ => rfl
  have FCv := fun_mk (st := sCheckPlace) lCv cCv kCv
  have BCv := FCv.binds (ps := ["tray", "place"]) fun _ _ _ _ _ _ us hl => match us, hl with | [_, _], _ => rfl
  have FAt := fun_mk (st := sTrayAt) lAt cAt kAt
  have BAt := FAt.binds (ps := ["self", "place"]) fun _ _ _ _ _ _ us hl => match us, hl with | [_, _], _ => rfl
  have FCm := fun_mk (st := sCheckMarble) lCm cCm kCm
  have BCm := FCm.binds (ps := ["tray", "marble"]) fun _ _ _ _ _ _ us hl => match us, hl with | [_, _], _ => rfl
  have FCn := fun_mk (st := sCheckNumber) lCn cCn kCn
  have BCn := FCn.binds (ps := ["value", "limit"]) fun _ _ _ _ _ _ us hl => match us, hl with | [_, _], _ => rfl
  have FEx := fun_mk (st := sExchange) lEx cEx kEx
  have BEx := FEx.binds (ps := ["tray", "word"]) fun _ _ _ _ _ _ us hl => match us, hl with | [_, _], _ => rfl
  have FCf := fun_mk (st := sCircleFrom) lCf cCf kCf
  have BCf := FCf.binds (ps := ["start", "followers"]) fun _ _ _ _ _ _ us hl => match us, hl with | [_, _], _ => rfl
  have FAr := fun_mk (st := sAfterRounds) lAr cAr kAr
  have BAr := FAr.binds (ps := ["tray", "word", "times"]) fun _ _ _ _ _ _ us hl => match us, hl with | [_, _, _], _ => rfl
  have FMa := fun_mk (st := sMarbleAfter) lMa cMa kMa
  have BMa := FMa.binds (ps := ["tray", "marble", "word", "times"]) fun _ _ _ _ _ _ us hl => match us, hl with | [_, _, _, _], _ => rfl
  have FOc := fun_mk (st := sWordObserverCandidates) lOc cOc kOc
  have BOc := FOc.binds (ps := ["self"]) fun _ _ _ _ _ _ us hl => match us, hl with | [_], _ => rfl
  have FOo := fun_mk (st := sWordObserverObservations) lOo cOo kOo
  have BOo := FOo.binds (ps := ["self"]) fun _ _ _ _ _ _ us hl => match us, hl with | [_], _ => rfl
  have FOa := fun_mk (st := sWordObserverAccept) lOa cOa kOa
  have BOa := FOa.binds (ps := ["self", "observation", "remaining"]) fun _ _ _ _ _ _ us hl => match us, hl with | [_, _, _], _ => rfl
  have FOm := fun_mk (st := sWordObserverSeeMarble) lOm cOm kOm
  have BOm := FOm.binds (ps := ["self", "rounds", "marble", "place"]) fun _ _ _ _ _ _ us hl => match us, hl with | [_, _, _, _], _ => rfl
  have FOr := fun_mk (st := sWordObserverSeeRow) lOr cOr kOr
  have BOr := FOr.binds (ps := ["self", "rounds", "row", "cells"]) fun _ _ _ _ _ _ us hl => match us, hl with | [_, _, _, _], _ => rfl
  have FFg := fun_mk (st := sWordObserverFromLog) lFg cFg kFg
  have BFg := FFg.binds (ps := ["cls", "tray", "words", "observations"]) fun _ _ _ _ _ _ us hl => match us, hl with | [_, _, _, _], _ => rfl
  have FTa := fun_mk (st := sWordObserverTraysAfter) lTa cTa kTa
  have BTa := FTa.binds (ps := ["self", "rounds"]) fun _ _ _ _ _ _ us hl => match us, hl with | [_, _], _ => rfl
  have FTl := fun_mk (st := sWordObserverTellingRound) lTl cTl kTl
  have BTl := FTl.binds (ps := ["self", "limit"]) fun _ _ _ _ _ _ us hl => match us, hl with | [_, _], _ => rfl
  have FSa := fun_mk (st := sSurelyAt) lSa cSa kSa
  have BSa := FSa.binds (ps := ["observer", "rounds"]) fun _ _ _ _ _ _ us hl => match us, hl with | [_, _], _ => rfl
  have FTk := fun_mk (st := sLawTaken) lTk cTk kTk
  have BTk := FTk.binds (ps := ["_law_row", "_law_many"]) fun _ _ _ _ _ _ us hl => match us, hl with | [_, _], _ => rfl
  have FGr := fun_mk (st := sLawGreat) lGr cGr kGr
  have BGr := FGr.binds (ps := ["_law_row", "_law_many"]) fun _ _ _ _ _ _ us hl => match us, hl with | [_, _], _ => rfl
  have FRw := fun_mk (st := sLawRows) lRw cRw kRw
  have BRw := FRw.binds (ps := ["_law_row", "_law_most"]) fun _ _ _ _ _ _ us hl => match us, hl with | [_, _], _ => rfl
  have FTx := fun_mk (st := sLawText) lTx cTx kTx
  have BTx := FTx.binds (ps := ["_law_row", "_law_most"]) fun _ _ _ _ _ _ us hl => match us, hl with | [_, _], _ => rfl
  have FTy := fun_mk (st := sLawTray) lTy cTy kTy
  have BTy := FTy.binds (ps := ["_law_rows_here"]) fun _ _ _ _ _ _ us hl => match us, hl with | [_], _ => rfl
  have FIs := fun_mk (st := sLawIsSeen) lIs cIs kIs
  have BIs := FIs.binds (ps := ["_law_row", "_law_observer", "_law_tray_here", "_law_words", "_law_hidden", "_law_due"]) fun _ _ _ _ _ _ us hl => match us, hl with | [_, _, _, _, _, _], _ => rfl
  have FAa := fun_mk (st := sLawAreAnswers) lAa cAa kAa
  have BAa := FAa.binds (ps := ["_law_row", "_law_observer", "_law_tray_here", "_law_words", "_law_due"]) fun _ _ _ _ _ _ us hl => match us, hl with | [_, _, _, _, _], _ => rfl
  have FLw := fun_mk (st := sLaw) lLw cLw kLw
  have BLw := FLw.binds (ps := ["_law_script"]) fun _ _ _ _ _ _ us hl => match us, hl with | [_], _ => rfl
  have FTi := fun_mk (st := sTrayInit) lTi cTi kTi
  have FOi := fun_mk (st := sWordObserverInit) lOi cOi kOi
  have ox2 : OexC K e2 := ⟨⟨nm2, q2, N2, bs2, bm2, sn2, sub2, ab2, col2, dd2, m02, m12, m22, m32, m52, xL2, xb2⟩, xsa2, xex2, xty2, xk2⟩
  have XT2 : ExcT K mg "UnknownMarble" e2 fIx2 := ⟨ox2, g ge2, aIx2, tIx2⟩
  have GIx2 := ok_um (P := P) (w := w) (base := base) (mg := mg) (CX := CX0) lIx2 cIx2 ⟨⟨_, _, _, lIx2⟩, rfl, ⟨_, _, _, _, _, _, kx12, kx22, kx32⟩, ⟨_, _, _, kx42⟩, kx52, kx62, kx72, kx8, kx9⟩ rfl ox2 (g0 b_super) nI3
  have BIx2 : Binds K (PySem.W.fnX "__init__" "UnknownMarble.__init__" (defArgs sUnknownMarbleInit) (defBody sUnknownMarbleInit) (defScope sUnknownMarbleInit) [("__class__", cc2)] .none kVIx2 dcIx2 pmIx2 anIx2 (.ref cdIx2) ctIx2) ["self", "marble"] [] := Binds.all fun us hl => match us, hl with | [_, _], _ => rfl
  have GIt : FnOk P w K mg base CX0 1 fIt _ ["value"] spIt := ok_it FIt T
  have GFw : FnOk P w K mg base CX0 2 fFw _ ["text"] spFwi := ok_fwi FFw T CW FIt BIt (g aIt)
  have GWi : FnOk P w K mg base CX0 3 fWi _ ["self", "text"] (spWi C) := ok_wi FWi CW GFw kFw BFw (g aFw)
  have MC : Mk K C fWi := ⟨mkC, aWi, iWi, kcC⟩
  have scWt : FnScope ["self"] ["self"] (defScope sWordText) := ⟨rfl, rfl, rfl, by decide +kernel, rfl, by decide +kernel, by decide +kernel⟩
  have GWg : FnOk P w K mg base CX0 1 fWt _ ["self"] (getSp C "_text") := fn_getter (k := 0) lWt cWt scWt rfl rfl clC nT
  have PWt : PropOf K C "text" qWt fWt := ⟨pWt, pgtWt, ptkWt, _, aWt⟩
  have GFc : FnOk P w K mg base CX0 2 fFc _ ["rows"] (spFc K) := ok_fc FFc T U FIr BIr (g aIr)
  have GTi := ok_ti (P := P) (w := w) (base := base) FTi CT GFc kFc BFc (g aFc)
  have MD : Mk K D fTi := ⟨mkD, aTi, iTi, kcD⟩
  have GTo : FnOk P w K mg base CX0 5 fTo _ ["cls", "text"] (spOt K D) := ok_ot FTo T MD GTi
  have GSl : FnRn (t0 + 1) P w K mg base CX0 1 fSl spSl := ok_sl FSl T U BSl h0 (Nat.lt_succ_self _)
  have GTd : FnRn (t0 + 1) P w K mg base CX0 2 fTd (spTd K) := ok_td FTd T U BTd GSl kSl (g aSl)
  have eR1 : PySem.dunder Operator.RShift.info.2 = ("__rshift__" : Str) := by decide +kernel
  have eR2 : PySem.dunderR Operator.RShift.info.2 = ("__rrshift__" : Str) := by decide +kernel
  have NO : NoOp K C Operator.RShift.info.2 := ⟨⟨_, nc, nm⟩, by rw [eR1]; exact n1, by rw [eR2]; exact n2, by rw [eR1]; exact n3, by rw [eR2]; exact n4⟩
  have hs : PySem.W.findIn K (.ref D) (PySem.dunder Operator.RShift.info.2) = some (some (.ref fRs)) := by rw [eR1]; exact aRs
  have GRs : FnRn (t0 + 1) P w K mg base CX0 5 fRs (spRs K C D) := ok_rs FRs T CW CT IC BRs PWt GWg BWt GTd kTd (g aTd) MD GTi
  have scTr : FnScope ["self"] ["self"] (defScope sTrayRows) := ⟨rfl, rfl, rfl, by decide +kernel, rfl, by decide +kernel, by decide +kernel⟩
  have GTr : FnOk P w K mg base CX0 1 fTr _ ["self"] (getSp D "_rows") := fn_getter (k := 0) lTr cTr scTr rfl rfl clD nR
  have PTr : PropOf K D "rows" qTr fTr := ⟨pTr, pgtTr, ptkTr, _, aTr⟩
  have GTe : FnOk P w K mg base CX0 1 fTe _ ["self", "other"] (TW.spTe K D) := TW.ok_te FTe T CT ID
  have GTf := raw0 GTe BTe
  have TM_ : TxtM K mg := ⟨⟨_, g cEM, _, rfl⟩, g0 b_sorted, g0 b_len⟩
  have PMb : PropOf K D "marbles" qMb fMb := ⟨pMb, pgtMb, ptkMb, _, aMb⟩
  have PHt : PropOf K D "height" qHt fHt := ⟨pHt, pgtHt, ptkHt, _, aHt⟩
  have PWd : PropOf K D "width" qWd fWd := ⟨pWd, pgtWd, ptkWd, _, aWd⟩
  have GMb : FnOk P w K mg base CX0 1 fMb _ ["self"] (spMb K D) := ok_mb FMb TM_ CT
  have GHt : FnOk P w K mg base CX0 1 fHt _ ["self"] (spHt K D) := ok_ht FHt TM_ CT
  have GWd : FnOk P w K mg base CX0 1 fWd _ ["self"] (spWd K D) := ok_wd FWd TM_ CT
  have GTc : FnOk P w K mg base CX0 3 fTc _ ["self", "x"] (spTc K D) := ok_tc FTc T CT PMb GMb BMb
  have GCl : FnOk P w K mg base (L2.CX P w) 4 fCl _ ["self", "marble"] (spCl K D e2) := ok_cl FCl CT (g0 b_divmod) aTc iTc (raw0 GTc BTc) PWd GWd BWd XT2 GIx2 BIx2
  have CO : StX.CallO K D fCl := ⟨aCl, iCl, fnCl⟩
  have GC := raw0 GCl BCl
  have N : TA.TxtN K mg := ⟨g0 b_isinstance, g0 b_bool, g0 b_int⟩
  have TP_ : TxtP K mg := ⟨g0 b_isinstance, g0 b_tuple, g0 b_len⟩
  have XN3 : TA.ExN K mg "InvalidPlace" e3 := ⟨q3, g ge3, k3, hs_3, t3⟩
  have GNu : FnOk P w K mg base CX0 1 fNu _ ["value", "limit"] (TA.spNum K) := TA.ok_num FNu N
  have GPl : FnOk P w K mg base CX0 2 fPl _ ["value", "height", "width"] (spPl K) := ok_pl FPl TP_ GNu kNu BNu (g aNu)
  have GCv : FnOk P w K mg base (L2.CX P w) 3 fCv _ ["tray", "place"] (spCp K D e3) := ok_cp FCv CT GPl kPl BPl (g aPl) PHt GHt BHt PWd GWd BWd XN3
  have GAt : FnOk P w K mg base (L2.CX P w) 4 fAt _ ["self", "place"] (spAt K D e3) := ok_at FAt TM_ CT GCv kCv BCv (g aCv)
  have GTk : ∀ a ns, FnOk P w K mg base CX0 1 fTk _ ["_law_row", "_law_many"] (spTk K a ns) := fun a ns => ok_tk FTk T L
  have GTx : ∀ a ns, FnOk P w K mg base CX0 2 fTx _ ["_law_row", "_law_most"] (spTx K a ns) := fun a ns => ok_tx FTx L (GTk a ns) kTk BTk (g aTk)
  have GRw : ∀ a ns, FnOk P w K mg base CX0 2 fRw _ ["_law_row", "_law_most"] (spRw K a ns) := fun a ns => ok_rw FRw T L (GTk a ns) kTk BTk (g aTk)
  have GRwN : ∀ a ns, FnOk P w K mg base CX0 2 fRw _ ["_law_row", "_law_most"] (spRwN K a ns) := fun a ns => ok_rwN FRw T L (GTk a ns) kTk BTk (g aTk)
  have TR_ : TxtR K mg := ⟨⟨_, g cEM, _, rfl⟩, ⟨_, g cMR, _, rfl⟩, g0 b_range, g0 b_int, g0 b_len⟩
  have GCn : FnOk P w K mg base CX0 2 fCn _ ["value", "limit"] spCn := ok_cn FCn GNu kNu BNu (g aNu)
  have GCm : FnOk P w K mg base CX0 4 fCm _ ["tray", "marble"] (spCm K D) := ok_cm FCm aTc iTc (raw0 GTc BTc)
  have GEx : FnRn (t0 + 1) P w K mg base CX0 6 fEx (spEx K C D) := ok_ex FEx BEx hDC CT sf NO hs iRs GRs PMb GMb BMb CO GC
  have GCf : FnOk P w K mg base CX0 1 fCf _ ["start", "followers"] (spCf K) := ok_cf FCf
  have GAr : FnRn (t0 + 1) P w K mg base CX0 7 fAr (spAr K C D) := ok_ar FAr BAr TR_ hDC CT sf NO hs iRs GRs PMb GMb BMb PHt GHt BHt PWd GWd BWd CO GC GEx kEx (g aEx) GCf kCf BCf (g aCf) GCn kCn BCn (g aCn) MD GTi
  have GMa : FnRn (t0 + 1) P w K mg base CX0 8 fMa (spMa K C D) := ok_ma FMa BMa GCm kCm BCm (g aCm) GAr kAr (g aAr) CO GC
  have GGr : ∀ a ns, FnOk P w K mg base CX0 2 fGr _ ["_law_row", "_law_many"] (spGr K a ns) := fun a ns => ok_gr FGr L (GTk a ns) kTk BTk (g aTk)
  have GTy : FnOk P w K mg base CX0 6 fTy _ ["_law_rows_here"] (spTry K D) := ok_try FTy CT ⟨rdD, gaD⟩ ⟨pTo, ⟨_, aTo⟩, fiTo⟩ (raw0 GTo BTo)
  have clO : Cls K O := ⟨pgO, hdO, poO, saO⟩
  have co : ClsO K mg O := ⟨clO, nO1, nO2, nO3, nO4, g aO⟩
  have MO : Mk K O fOi := ⟨mkO, aOi, iOi, kcO⟩
  have GOi := ok_oi (P := P) (w_ := w) (base := base) (C := C) (D := D) FOi co (g0 b_len) (g0 b_range) (g0 b_tuple) nDO nCO
  have GOc : FnOk P w K mg base CX0 1 fOc _ ["self"] (spOc K C D O) := ok_oc FOc co (g0 b_list)
  have GOo : FnOk P w K mg base CX0 1 fOo _ ["self"] (spOo K C D O) := ok_oo FOo co (g0 b_list)
  have POc : PropOf K O "candidates" qOc fOc := ⟨pOc, pgtOc, ptkOc, _, aOc⟩
  have POo : PropOf K O "observations" qOo fOo := ⟨pOo, pgtOo, ptkOo, _, aOo⟩
  have GOa : FnOk P w K mg base CX0 1 fOa _ ["self", "observation", "remaining"] (spOa K C D O) := ok_oa FOa co nDO nCO (g0 b_len) (g0 b_tuple)
  have SF : SeeF P w K mg base (t0 + 1) C D O e3 := { co := co, ct := CT, nDO := nDO, nCO := nCO, mMR := ⟨_, g cMR, _, rfl⟩, fCn := ⟨_, _, GCn, kCn, BCn, g aCn⟩, fNu := ⟨_, _, GNu, kNu, BNu, g aNu⟩, fCm := ⟨_, _, GCm, kCm, BCm, g aCm⟩, fCp := ⟨_, _, GCv, kCv, BCv, g aCv⟩, fMa := ⟨_, GMa, kMa, g aMa⟩, fAr := ⟨_, GAr, kAr, g aAr⟩, mAc := ⟨_, _, ⟨aOa, iOa, kOa⟩, GOa, BOa⟩, pRw := ⟨_, _, _, PTr, GTr, BTr⟩, pHt := ⟨_, _, _, PHt, GHt, BHt⟩ }
  have GOm : FnRn (t0 + 1) P w K mg base CX0 9 fOm (spOm K C D O) := ok_om FOm BOm SF
  have GOr : FnRn (t0 + 1) P w K mg base CX0 8 fOr (spOr K C D O) := ok_or FOr BOr SF
  have MOm : Meth K O "see_marble" fOm := ⟨aOm, iOm, kOm⟩
  have MOr : Meth K O "see_row" fOr := ⟨aOr, iOr, kOr⟩
  have GFg : FnRn (t0 + 1) P w K mg base CX0 10 fFg (spFg K C D O) := ok_fg FFg BFg co MO GOi ⟨MOm, bgOm, btOm, by decide +kernel, bfOm⟩ GOm ⟨MOr, bgOr, btOr, by decide +kernel, bfOr⟩ GOr
  have GTa : FnRn (t0 + 1) P w K mg base CX0 8 fTa (spTa K C D O) := ok_ta FTa BTa SF (g0 b_list)
  have GTl : FnRn (t0 + 1) P w K mg base CX0 6 fTl (spTr K C D O) := ok_tr FTl BTl SF ⟨⟨_, g cML, _, rfl⟩, g0 b_range, g0 b_len, g0 b_zip⟩ hDC sf NO hs iRs GRs
  have MTa : Meth K O "trays_after" fTa := ⟨aTa, iTa, kTa⟩
  have GSa : FnRn (t0 + 1) P w K mg base CX0 9 fSa (spSa K C D O) := ok_sa FSa BSa co CT MTa GTa PMb GMb BMb CO GC (g0 b_all)
  have SN : ∀ a ns, SeenF P w K mg base (t0 + 1) C D O e2 a ns := fun a ns => { co := co, ct := CT, len := g0 b_len, fTk := ⟨_, _, GTk a ns, kTk, BTk, g aTk⟩, fGr := ⟨_, _, GGr a ns, kGr, BGr, g aGr⟩, fAr := ⟨_, GAr, kAr, g aAr⟩, mSm := ⟨_, MOm, GOm⟩, mSr := ⟨_, MOr, GOr⟩, pCa := ⟨_, _, _, POc, GOc, BOc⟩, pRw := ⟨_, _, _, PTr, GTr, BTr⟩, pHt := ⟨_, _, _, PHt, GHt, BHt⟩, pMb := ⟨_, _, _, PMb, GMb, BMb⟩, cal := ⟨_, CO, GC⟩ }
  have GIs : ∀ a ns, FnRn (t0 + 1) P w K mg base CX0 10 fIs (spIs K C D O a ns) := fun a ns => ok_is FIs BIs (SN a ns)
  have GAa : ∀ a ns, FnRn (t0 + 1) P w K mg base CX0 10 fAa (spAa K C D O a ns) := fun a ns => ok_aa FAa BAa { s := SN a ns, rng := g0 b_range, set_ := g0 b_set, max_ := g0 b_max, dict_ := g0 b_dict, list_ := g0 b_list, mTa := ⟨_, MTa, GTa⟩, mTr := ⟨_, ⟨aTl, iTl, kTl⟩, GTl⟩, fSa := ⟨_, GSa, kSa, g aSa⟩, eq := ⟨_, aTe, iTe, GTf⟩ }
  have J : ∀ a ns, LwF P w K mg base (t0 + 1) C D O e2 a ns := fun a ns => { s := SN a ns, nDO := nDO, nCO := nCO, rng := g0 b_range, list_ := g0 b_list, mgC := g aC, fRw := ⟨_, _, GRw a ns, kRw, BRw, g aRw⟩, fTx := ⟨_, _, GTx a ns, kTx, BTx, g aTx⟩, fTy := ⟨_, _, GTy, kTy, BTy, g aTy⟩, mkW := ⟨_, _, MC, GWi, BWi⟩, mkO := ⟨_, MO, GOi⟩, fIs := ⟨_, GIs a ns, kIs, g aIs⟩, fAa := ⟨_, GAa a ns, kAa, g aAa⟩, fg := ⟨_, _, _, ⟨rdO, gaO⟩, ⟨pFg, ⟨_, aFg⟩, fiFg⟩, GFg⟩, pOb := ⟨_, _, _, POo, GOo, BOo⟩ }
  exact ok_law17 FLw BLw J
end TR
end
set_option Elab.async false
open PySem PySem.W PySem.W.X PySem.W.ZRun PyProof.Rows
set_option maxRecDepth 100000 in
set_option maxHeartbeats 0 in
theorem PySem.Challenge.cw_tiltheap_k17_whole_observers_keep_the_tr_holds : PySem.Challenge.rw_tiltheap_k17_whole_observers_keep_the_tr.Holds := by
  w_on; o_law; z_head; (case hw => w_witness2)
  k_fill
  intro w s₀ s₁ mg mb G y fa o pm cd doc dV kV ho hd hcd hD hmg hg args vals as L hpre hlay hrd hwl hlo
  z_open y L KX ZH ZN ZT
  have hmg' : mg (PySem.Str.ofString "law") = some (Value.ref fa) := hmg
  clear y ZH ZN hlay hrd hlo hd hcd hD ho hmg
  refine' TK.end_nk (k := 11) (l := PySem.Challenge.rw_tiltheap_k17_whole_observers_keep_the_tr) ⟨rfl, by decide, by decide⟩ (fun a ns H hS => ⟨a, ns, rfl, hS, fun _ => rfl⟩) rfl KX G.T.g G.T.b G.T.builtins G.T.nolimit hg L ZT ?hn hpre hwl (TR.all_mk KX G.T.g hmg' ?aC ?pgC ?hdC ?poC ?saC ?mkC ?kcC ?rdC ?gaC ?aD ?pgD ?hdD ?poD ?saD ?mkD ?kcD ?rdD ?gaD ?cAR ?cAC ?cEM ?cLE ?cMS ?nT ?nR ?ih ?in_ ?itk ?im ?ihD ?imD ?mx ?b_len ?b_isinstance ?b_str ?b_enumerate ?b_set ?b_zip ?b_tuple ?b_int ?b_range ?b_min ?b_max ?b_list ?b_bool ?b_dict ?b_sorted ?b_divmod ?b_super ?b_all ?aIt ?lIt ?cIt ?kIt ?aFw ?lFw ?cFw ?kFw ?aWi ?iWi ?lWi ?cWi ?kWi ?pWt ?pgtWt ?ptkWt ?aWt ?lWt ?cWt ?kWt ?aTi ?iTi ?lTi ?cTi ?kTi ?pTo ?aTo ?fiTo ?lTo ?cTo ?kTo ?aRs ?iRs ?lRs ?cRs ?kRs ?aFc ?lFc ?cFc ?kFc ?aIr ?lIr ?cIr ?kIr ?aTd ?lTd ?cTd ?kTd ?aSl ?lSl ?cSl ?kSl ?pTr ?pgtTr ?ptkTr ?aTr ?lTr ?cTr ?kTr ?aTe ?iTe ?lTe ?cTe ?kTe ?pMb ?pgtMb ?ptkMb ?aMb ?lMb ?cMb ?kMb ?pWd ?pgtWd ?ptkWd ?aWd ?lWd ?cWd ?kWd ?pHt ?pgtHt ?ptkHt ?aHt ?lHt ?cHt ?kHt ?aTc ?iTc ?lTc ?cTc ?kTc ?aCl ?iCl ?lCl ?cCl ?kCl ?fnCl ?aNu ?lNu ?cNu ?kNu ?aPl ?lPl ?cPl ?kPl ?aCv ?lCv ?cCv ?kCv ?aAt ?iAt ?lAt ?cAt ?kAt ?sf ?nc ?nm ?n1 ?n2 ?n3 ?n4 ?aCm ?lCm ?cCm ?kCm ?aCn ?lCn ?cCn ?kCn ?aEx ?lEx ?cEx ?kEx ?aCf ?lCf ?cCf ?kCf ?aAr ?lAr ?cAr ?kAr ?aMa ?lMa ?cMa ?kMa ?cMR ?aO ?pgO ?hdO ?poO ?saO ?mkO ?kcO ?rdO ?gaO ?nO1 ?nO2 ?nO3 ?nO4 ?aOi ?iOi ?lOi ?cOi ?kOi ?pOc ?pgtOc ?ptkOc ?aOc ?lOc ?cOc ?kOc ?pOo ?pgtOo ?ptkOo ?aOo ?lOo ?cOo ?kOo ?aOa ?iOa ?lOa ?cOa ?kOa ?aOm ?iOm ?lOm ?cOm ?kOm ?aOr ?iOr ?lOr ?cOr ?kOr ?pFg ?aFg ?fiFg ?lFg ?cFg ?kFg ?aTa ?iTa ?lTa ?cTa ?kTa ?aTl ?iTl ?lTl ?cTl ?kTl ?bgOm ?btOm ?bfOm ?bgOr ?btOr ?bfOr ?aSa ?lSa ?cSa ?kSa ?cML ?nDO ?nCO ?aTk ?lTk ?cTk ?kTk ?aGr ?lGr ?cGr ?kGr ?aRw ?lRw ?cRw ?kRw ?aTx ?lTx ?cTx ?kTx ?aTy ?lTy ?cTy ?kTy ?aIs ?lIs ?cIs ?kIs ?aAa ?lAa ?cAa ?kAa ?aLw ?lLw ?cLw ?kLw ?ge2 ?xL2 ?xb2 ?xsa2 ?xex2 ?xty2 ?xk2 ?aIx2 ?tIx2 ?lIx2 ?cIx2 ?kx12 ?kx22 ?kx32 ?kx42 ?kx52 ?kx62 ?kx72 ?nI3 ?kx8 ?kx9 ?ge3 ?q3 ?k3 ?t3 ?hs_3 ?eAR ?eAC ?eEM ?eLE ?eMS ?eMX ?eMR ?eML ?hDC ?h0)
  (case aC => k_is)
  (case pgC => k_is)
  (case hdC => k_is)
  (case poC => k_is)
  (case saC => k_is)
  (case mkC => k_is)
  (case kcC => k_is)
  (case rdC => k_is)
  (case gaC => k_is)
  (case aD => k_is)
  (case pgD => k_is)
  (case hdD => k_is)
  (case poD => k_is)
  (case saD => k_is)
  (case mkD => k_is)
  (case kcD => k_is)
  (case rdD => k_is)
  (case gaD => k_is)
  (case cAR => k_is)
  (case cAC => k_is)
  (case cEM => k_is)
  (case cLE => k_is)
  (case cMS => k_is)
  (case nT => k_is)
  (case nR => k_is)
  (case ih => k_is)
  (case in_ => k_is)
  (case itk => k_is)
  (case im => k_is)
  (case ihD => k_is)
  (case imD => k_is)
  (case mx => k_is)
  (case b_len => k_is)
  (case b_isinstance => k_is)
  (case b_str => k_is)
  (case b_enumerate => k_is)
  (case b_set => k_is)
  (case b_zip => k_is)
  (case b_tuple => k_is)
  (case b_int => k_is)
  (case b_range => k_is)
  (case b_min => k_is)
  (case b_max => k_is)
  (case b_list => k_is)
  (case b_bool => k_is)
  (case b_dict => k_is)
  (case b_sorted => k_is)
  (case b_divmod => k_is)
  (case b_super => k_is)
  (case b_all => k_is)
  (case aIt => k_is)
  (case lIt => k_is)
  (case cIt => k_is)
  (case kIt => k_is)
  (case aFw => k_is)
  (case lFw => k_is)
  (case cFw => k_is)
  (case kFw => k_is)
  (case aWi => k_is)
  (case iWi => k_is)
  (case lWi => k_is)
  (case cWi => k_is)
  (case kWi => k_is)
  (case pWt => k_is)
  (case pgtWt => k_is)
  (case ptkWt => k_is)
  (case aWt => k_is)
  (case lWt => k_is)
  (case cWt => k_is)
  (case kWt => k_is)
  (case aTi => k_is)
  (case iTi => k_is)
  (case lTi => k_is)
  (case cTi => k_is)
  (case kTi => k_is)
  (case pTo => k_is)
  (case aTo => k_is)
  (case fiTo => k_is)
  (case lTo => k_is)
  (case cTo => k_is)
  (case kTo => k_is)
  (case aRs => k_is)
  (case iRs => k_is)
  (case lRs => k_is)
  (case cRs => k_is)
  (case kRs => k_is)
  (case aFc => k_is)
  (case lFc => k_is)
  (case cFc => k_is)
  (case kFc => k_is)
  (case aIr => k_is)
  (case lIr => k_is)
  (case cIr => k_is)
  (case kIr => k_is)
  (case aTd => k_is)
  (case lTd => k_is)
  (case cTd => k_is)
  (case kTd => k_is)
  (case aSl => k_is)
  (case lSl => k_is)
  (case cSl => k_is)
  (case kSl => k_is)
  (case pTr => k_is)
  (case pgtTr => k_is)
  (case ptkTr => k_is)
  (case aTr => k_is)
  (case lTr => k_is)
  (case cTr => k_is)
  (case kTr => k_is)
  (case aTe => k_is)
  (case iTe => k_is)
  (case lTe => k_is)
  (case cTe => k_is)
  (case kTe => k_is)
  (case pMb => k_is)
  (case pgtMb => k_is)
  (case ptkMb => k_is)
  (case aMb => k_is)
  (case lMb => k_is)
  (case cMb => k_is)
  (case kMb => k_is)
  (case pWd => k_is)
  (case pgtWd => k_is)
  (case ptkWd => k_is)
  (case aWd => k_is)
  (case lWd => k_is)
  (case cWd => k_is)
  (case kWd => k_is)
  (case pHt => k_is)
  (case pgtHt => k_is)
  (case ptkHt => k_is)
  (case aHt => k_is)
  (case lHt => k_is)
  (case cHt => k_is)
  (case kHt => k_is)
  (case aTc => k_is)
  (case iTc => k_is)
  (case lTc => k_is)
  (case cTc => k_is)
  (case kTc => k_is)
  (case aCl => k_is)
  (case iCl => k_is)
  (case lCl => k_is)
  (case cCl => k_is)
  (case kCl => k_is)
  (case fnCl => k_is)
  (case aNu => k_is)
  (case lNu => k_is)
  (case cNu => k_is)
  (case kNu => k_is)
  (case aPl => k_is)
  (case lPl => k_is)
  (case cPl => k_is)
  (case kPl => k_is)
  (case aCv => k_is)
  (case lCv => k_is)
  (case cCv => k_is)
  (case kCv => k_is)
  (case aAt => k_is)
  (case iAt => k_is)
  (case lAt => k_is)
  (case cAt => k_is)
  (case kAt => k_is)
  (case sf => k_is)
  (case nc => k_is)
  (case nm => rfl)
  (case n1 => k_is)
  (case n2 => k_is)
  (case n3 => k_is)
  (case n4 => k_is)
  (case aCm => k_is)
  (case lCm => k_is)
  (case cCm => k_is)
  (case kCm => k_is)
  (case aCn => k_is)
  (case lCn => k_is)
  (case cCn => k_is)
  (case kCn => k_is)
  (case aEx => k_is)
  (case lEx => k_is)
  (case cEx => k_is)
  (case kEx => k_is)
  (case aCf => k_is)
  (case lCf => k_is)
  (case cCf => k_is)
  (case kCf => k_is)
  (case aAr => k_is)
  (case lAr => k_is)
  (case cAr => k_is)
  (case kAr => k_is)
  (case aMa => k_is)
  (case lMa => k_is)
  (case cMa => k_is)
  (case kMa => k_is)
  (case cMR => k_is)
  (case aO => k_is)
  (case pgO => k_is)
  (case hdO => k_is)
  (case poO => k_is)
  (case saO => k_is)
  (case mkO => k_is)
  (case kcO => k_is)
  (case rdO => k_is)
  (case gaO => k_is)
  (case nO1 => k_is)
  (case nO2 => k_is)
  (case nO3 => k_is)
  (case nO4 => k_is)
  (case aOi => k_is)
  (case iOi => k_is)
  (case lOi => k_is)
  (case cOi => k_is)
  (case kOi => k_is)
  (case pOc => k_is)
  (case pgtOc => k_is)
  (case ptkOc => k_is)
  (case aOc => k_is)
  (case lOc => k_is)
  (case cOc => k_is)
  (case kOc => k_is)
  (case pOo => k_is)
  (case pgtOo => k_is)
  (case ptkOo => k_is)
  (case aOo => k_is)
  (case lOo => k_is)
  (case cOo => k_is)
  (case kOo => k_is)
  (case aOa => k_is)
  (case iOa => k_is)
  (case lOa => k_is)
  (case cOa => k_is)
  (case kOa => k_is)
  (case aOm => k_is)
  (case iOm => k_is)
  (case lOm => k_is)
  (case cOm => k_is)
  (case kOm => k_is)
  (case aOr => k_is)
  (case iOr => k_is)
  (case lOr => k_is)
  (case cOr => k_is)
  (case kOr => k_is)
  (case pFg => k_is)
  (case aFg => k_is)
  (case fiFg => k_is)
  (case lFg => k_is)
  (case cFg => k_is)
  (case kFg => k_is)
  (case aTa => k_is)
  (case iTa => k_is)
  (case lTa => k_is)
  (case cTa => k_is)
  (case kTa => k_is)
  (case aTl => k_is)
  (case iTl => k_is)
  (case lTl => k_is)
  (case cTl => k_is)
  (case kTl => k_is)
  (case bgOm => k_is)
  (case btOm => k_is)
  (case bfOm => k_is)
  (case bgOr => k_is)
  (case btOr => k_is)
  (case bfOr => k_is)
  (case aSa => k_is)
  (case lSa => k_is)
  (case cSa => k_is)
  (case kSa => k_is)
  (case cML => k_is)
  (case nDO => first | decide | omega)
  (case nCO => first | decide | omega)
  (case aTk => k_is)
  (case lTk => k_is)
  (case cTk => k_is)
  (case kTk => k_is)
  (case aGr => k_is)
  (case lGr => k_is)
  (case cGr => k_is)
  (case kGr => k_is)
  (case aRw => k_is)
  (case lRw => k_is)
  (case cRw => k_is)
  (case kRw => k_is)
  (case aTx => k_is)
  (case lTx => k_is)
  (case cTx => k_is)
  (case kTx => k_is)
  (case aTy => k_is)
  (case lTy => k_is)
  (case cTy => k_is)
  (case kTy => k_is)
  (case aIs => k_is)
  (case lIs => k_is)
  (case cIs => k_is)
  (case kIs => k_is)
  (case aAa => k_is)
  (case lAa => k_is)
  (case cAa => k_is)
  (case kAa => k_is)
  (case aLw => k_is)
  (case lLw => k_is)
  (case cLw => k_is)
  (case kLw => k_is)
  (case ge2 => k_is)
  (case xL2 => k_is)
  (case xb2 => first | rfl | decide +kernel)
  (case xsa2 => k_is)
  (case xex2 => k_is)
  (case xty2 => k_is)
  (case xk2 => k_is)
  (case aIx2 => k_is)
  (case tIx2 => k_is)
  (case lIx2 => k_is)
  (case cIx2 => k_is)
  (case kx12 => k_is)
  (case kx22 => rfl)
  (case kx32 => first | rfl | decide +kernel)
  (case kx42 => k_is)
  (case kx52 => k_is)
  (case kx62 => kernel_rfl)
  (case kx72 => k_is)
  (case nI3 => k_is)
  (case kx8 => k_is)
  (case kx9 => first | rfl | decide +kernel)
  (case ge3 => k_is)
  (case q3 => kernel_rfl)
  (case k3 => k_is)
  (case t3 => k_is)
  (case hs_3 => k_is)
  (case eAR => first | rfl | decide +kernel)
  (case eAC => first | rfl | decide +kernel)
  (case eEM => first | rfl | decide +kernel)
  (case eLE => first | rfl | decide +kernel)
  (case eMS => first | rfl | decide +kernel)
  (case eMX => first | rfl | decide +kernel)
  (case eMR => first | rfl | decide +kernel)
  (case eML => first | rfl | decide +kernel)
  (case hDC => first | decide | omega)
  (case h0 => first | decide | omega)
  (case hn => first | decide | omega)
