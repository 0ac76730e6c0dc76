import PyProof.Rows.All
import Wide.All
import OpenK.AllK
import Wide.FinOn
import KE.GoesMore
import KE.KStar
import HandS.ForMost
import HandS.Star
import HandS.Walk
import HandS.SlotsOwn
import HandS.ClsMeth
import HandS.Property
import HandS.OwnEq
import KE.KOpsOwn
import HandS.Text
import HandS.Replace
import HandS.Codes
import HandS.IsInst
import HandS.SetKeys
import HandS.Comp
import PyProof.Rows.StrPadFill
import PyProof.Rows.StrStrike
import HandS.ExcInit
import HandS.Nested
import HandS.FStr
import KE.KExcSuper
import KE.KSuper
import HandS.WordsExc
import HandS.ExcIs
import HandS.ExcField
import HandS.Lambda
import KE.KExcIs
import HandS.TupSets
import PyProof.InstNe
import HandS.ExcOwn
import PyProof.ExcBaseAll.ValueError
import HandS.StrMore
import HandS.DictComp
import PyProof.StrBlock2
import PyProof.ListStr
import HandS.Dict
import KE.KMathG
import HandS.Gcd
import HandS.Conv
import HandS.SortRule
import KE.LtData
import KE.KDictCopyH
import PyProof.CollectStr
import PyProof.ConsumeS
import PyProof.MinMaxWalk
import PyProof.SeqI3
import HandS.RaiseMore
import HandS.Small
import HandS.More
import HandS.Style
import HandS.Ends
import HandS.EndTab
import KE.SortData
import KE.KDictPairs
import HandS.DictTup
import HandS.Deep
import KE.KNestM
import PySem.Challenge.RW_tiltheap_k05_rounds_of_a_word
section
set_option Elab.async false
set_option maxRecDepth 100000
set_option maxHeartbeats 4000000
namespace TH
open PySem PySem.Spec PyProof.Rows L2

/-- texts with their tokens -/
abbrev Tx := List (Str × Tok)
abbrev txv (ts : Tx) : List Value := ts.map fun v => .str v.1 v.2
abbrev txo (v : Str × Tok) : Obj := { cls := .type (strIterType v.1), data := .fields #[.str v.1 v.2, .int 0 0] }
def laid (h : Heap) : Tx → Heap
  | [] => h
  | v :: r => laid (h.push (txo v)) r
def refs (n : Nat) : Nat → List Value
  | 0 => []
  | k + 1 => .ref n :: refs (n + 1) k
theorem laid_size : ∀ (ts : Tx) (h : Heap), (laid h ts).objs.size = h.objs.size + ts.length
  | [], h => rfl
  | v :: r, h => by
    show (laid (h.push (txo v)) r).objs.size = _
    rw [laid_size r, Heap.size_push, List.length_cons]
    omega
theorem laid_old : ∀ (ts : Tx) (h : Heap) (b : Addr) (o : Obj), h.get? b = some o → (laid h ts).get? b = some o
  | [], _, _, _, e => e
  | _ :: r, _, b, o, e => laid_old r _ b o (Heap.get?_push_of_some _ e)
theorem laid_at : ∀ (ts : Tx) (h : Heap) (k : Nat) (v : Str × Tok), ts[k]? = some v → (laid h ts).get? (h.objs.size + k) = some (txo v)
  | [], _, k, _, e => by simp at e
  | u :: r, h, 0, v, e => by
    have e' : u = v := by simpa using e
    subst e'
    exact laid_old r _ _ _ (Heap.get?_push_size _ rfl)
  | u :: r, h, k + 1, v, e => by
    have z := laid_at r (h.push (txo u)) k v (by simpa using e)
    rw [Heap.size_push] at z
    have e2 : h.objs.size + 1 + k = h.objs.size + (k + 1) := by omega
    rw [e2] at z
    exact z
theorem refs_length (n : Nat) : ∀ k, (refs n k).length = k := fun k => by
  induction k generalizing n with
  | zero => rfl
  | succ k ih => show (refs (n + 1) k).length + 1 = k + 1; rw [ih]
theorem refs_at : ∀ (n k i : Nat), i < k → (refs n k)[i]? = some (.ref (n + i))
  | n, 0, i, h => absurd h (Nat.not_lt_zero _)
  | n, k + 1, 0, _ => rfl
  | n, k + 1, i + 1, h => by
    have z := refs_at (n + 1) k i (Nat.lt_of_succ_lt_succ h)
    have e : n + 1 + i = n + (i + 1) := by omega
    rw [e] at z
    simpa [refs] using z

section
variable {prog : Program} {w : World} {A : Around} {E : Value → Shared → Prop}
theorem iterAll_texts : ∀ (ts : Tx) (acc : Array Value) (s : Shared) (Q : Array Value → Shared → Prop), Q (acc ++ (refs s.heap.objs.size ts.length).toArray) { s with heap := laid s.heap ts } →
    wpAny (model prog w) A (forIn (txv ts) acc fun x r => (do let y ← holding r.toList (pyIter x); pure (ForInStep.yield (r.push y)))) Q E s
  | [], acc, s, Q, h => by
    rw [txv, List.map_nil, List.forIn_nil]
    refine wpAny_pure ?_
    simpa [refs, laid] using h
  | v :: r, acc, s, Q, h => by
    rw [txv, List.map_cons, List.forIn_cons]
    refine wpAny_bind (wpAny_bind (wpAny_holding (wpAny_pyIter_strU (wpAny_pure ?_))))
    refine iterAll_texts r _ _ Q ?_
    have e : acc.push (.ref s.heap.objs.size) ++ (refs (s.heap.push (txo v)).objs.size r.length).toArray = acc ++ (refs s.heap.objs.size (r.length + 1)).toArray := by
      rw [Heap.size_push]
      apply Array.toList_inj.mp
      simp [refs]
    show Q (acc.push (.ref s.heap.objs.size) ++ (refs (s.heap.push (txo v)).objs.size r.length).toArray) _
    rw [e]
    exact h
theorem iterAll_ok (ts : Tx) {s : Shared} {Q : List Value → Shared → Prop} (h : Q (refs s.heap.objs.size ts.length) { s with heap := laid s.heap ts }) :
    wpAny (model prog w) A (Builtin.SmallTypes.iterAll (txv ts)) Q E s := by
  unfold Builtin.SmallTypes.iterAll
  refine wpAny_bind (iterAll_texts ts #[] s _ ?_)
  refine wpAny_pure ?_
  simpa using h
end
end TH
end
section
set_option Elab.async false
set_option maxRecDepth 100000
set_option maxHeartbeats 4000000
namespace TH
open PySem PySem.Spec PyProof.Rows L2

abbrev tupO (l : List Value) : Obj := { cls := .type "tuple", data := .seq l.toArray }
abbrev zipO (f0 f1 : Value) (TI TO : Addr) : Obj := { cls := .type "zip", data := .fields #[f0, f1, .bool false, .ref TI, .ref TO] }
def zheap (h : Heap) (ts : Tx) : Heap :=
  (((laid h ts).push (tupO (refs h.objs.size ts.length))).push (tupO ((refs h.objs.size ts.length).map fun _ => .none))).push (zipO .none (.bool false) (h.objs.size + ts.length) (h.objs.size + ts.length + 1))

theorem argsOk_init : ∀ (obj : Value) (ts : Tx), ts.length ≤ 8 → argsOk "object.__init__" ⟨obj :: txv ts, []⟩
  | obj, [], _ => by show argsOk "object.__init__" ⟨[obj], []⟩; unfold argsOk; kernel_rfl
  | obj, [a], _ => by show argsOk "object.__init__" ⟨[obj, _], []⟩; unfold argsOk; kernel_rfl
  | obj, [a, b], _ => by show argsOk "object.__init__" ⟨[obj, _, _], []⟩; unfold argsOk; kernel_rfl
  | obj, [a, b, c], _ => by show argsOk "object.__init__" ⟨[obj, _, _, _], []⟩; unfold argsOk; kernel_rfl
  | obj, [a, b, c, d], _ => by show argsOk "object.__init__" ⟨[obj, _, _, _, _], []⟩; unfold argsOk; kernel_rfl
  | obj, [a, b, c, d, e], _ => by show argsOk "object.__init__" ⟨[obj, _, _, _, _, _], []⟩; unfold argsOk; kernel_rfl
  | obj, [a, b, c, d, e, f], _ => by show argsOk "object.__init__" ⟨[obj, _, _, _, _, _, _], []⟩; unfold argsOk; kernel_rfl
  | obj, [a, b, c, d, e, f, g], _ => by show argsOk "object.__init__" ⟨[obj, _, _, _, _, _, _, _], []⟩; unfold argsOk; kernel_rfl
  | obj, [a, b, c, d, e, f, g, h], _ => by show argsOk "object.__init__" ⟨[obj, _, _, _, _, _, _, _, _], []⟩; unfold argsOk; kernel_rfl
  | obj, _ :: _ :: _ :: _ :: _ :: _ :: _ :: _ :: _ :: r, h => by simp at h
theorem typeCall_zip : ∀ (ts : Tx), ts.length ≤ 8 → checkTypeCall "zip" ⟨txv ts, []⟩ = pure ()
  | [], _ => by show checkTypeCall "zip" ⟨[], []⟩ = pure (); kernel_rfl
  | [a], _ => by show checkTypeCall "zip" ⟨[_], []⟩ = pure (); kernel_rfl
  | [a, b], _ => by show checkTypeCall "zip" ⟨[_, _], []⟩ = pure (); kernel_rfl
  | [a, b, c], _ => by show checkTypeCall "zip" ⟨[_, _, _], []⟩ = pure (); kernel_rfl
  | [a, b, c, d], _ => by show checkTypeCall "zip" ⟨[_, _, _, _], []⟩ = pure (); kernel_rfl
  | [a, b, c, d, e], _ => by show checkTypeCall "zip" ⟨[_, _, _, _, _], []⟩ = pure (); kernel_rfl
  | [a, b, c, d, e, f], _ => by show checkTypeCall "zip" ⟨[_, _, _, _, _, _], []⟩ = pure (); kernel_rfl
  | [a, b, c, d, e, f, g], _ => by show checkTypeCall "zip" ⟨[_, _, _, _, _, _, _], []⟩ = pure (); kernel_rfl
  | [a, b, c, d, e, f, g, h], _ => by show checkTypeCall "zip" ⟨[_, _, _, _, _, _, _, _], []⟩ = pure (); kernel_rfl
  | _ :: _ :: _ :: _ :: _ :: _ :: _ :: _ :: _ :: r, h => by simp at h
theorem newCall_zip : ∀ (ts : Tx), ts.length ≤ 8 → checkBuiltinCall "zip.__new__" ⟨.type "zip" :: txv ts, []⟩ = pure ()
  | [], _ => by show checkBuiltinCall "zip.__new__" ⟨[_], []⟩ = pure (); kernel_rfl
  | [a], _ => by show checkBuiltinCall "zip.__new__" ⟨[_, _], []⟩ = pure (); kernel_rfl
  | [a, b], _ => by show checkBuiltinCall "zip.__new__" ⟨[_, _, _], []⟩ = pure (); kernel_rfl
  | [a, b, c], _ => by show checkBuiltinCall "zip.__new__" ⟨[_, _, _, _], []⟩ = pure (); kernel_rfl
  | [a, b, c, d], _ => by show checkBuiltinCall "zip.__new__" ⟨[_, _, _, _, _], []⟩ = pure (); kernel_rfl
  | [a, b, c, d, e], _ => by show checkBuiltinCall "zip.__new__" ⟨[_, _, _, _, _, _], []⟩ = pure (); kernel_rfl
  | [a, b, c, d, e, f], _ => by show checkBuiltinCall "zip.__new__" ⟨[_, _, _, _, _, _, _], []⟩ = pure (); kernel_rfl
  | [a, b, c, d, e, f, g], _ => by show checkBuiltinCall "zip.__new__" ⟨[_, _, _, _, _, _, _, _], []⟩ = pure (); kernel_rfl
  | [a, b, c, d, e, f, g, h], _ => by show checkBuiltinCall "zip.__new__" ⟨[_, _, _, _, _, _, _, _, _], []⟩ = pure (); kernel_rfl
  | _ :: _ :: _ :: _ :: _ :: _ :: _ :: _ :: _ :: r, h => by simp at h

theorem meets_zip_new (ts : Tx) (hl : ts.length ≤ 8) :
    Meets (Builtin.«zip.__new__» ⟨.type "zip" :: txv ts, []⟩) (fun _ R s => R (.ok (.ret (.ref (s.heap.objs.size + ts.length + 2)))) { s with heap := zheap s.heap ts }) :=
  .of_wp fun prog w A R s h => by
    obtain ⟨hp, g, d, tk, os⟩ := s
    have hsub := sub_zip
    have q1 : ∀ {A' : Around} {E : Value → Shared → Prop} {Q : List Value → Shared → Prop}, Q (refs hp.objs.size ts.length) ⟨laid hp ts, g, d, tk, os⟩ → wpAny (model prog w) A' (Builtin.SmallTypes.iterAll (txv ts)) Q E ⟨hp, g, d, tk, os⟩ :=
      fun q => iterAll_ok ts q
    have sz1 : (refs hp.objs.size ts.length).length ≤ sizeLine := by rw [refs_length]; exact Nat.le_trans hl (by decide)
    unfold Builtin.«zip.__new__»
    wp_walk using q1
    refine ⟨_, rfl, ?_⟩
    have z1 : (laid hp ts).objs.size = hp.objs.size + ts.length := laid_size ts hp
    have z2 : ((laid hp ts).push (tupO (refs hp.objs.size ts.length))).objs.size = hp.objs.size + ts.length + 1 := by rw [Heap.size_push, z1]
    have z3 : (((laid hp ts).push (tupO (refs hp.objs.size ts.length))).push (tupO ((refs hp.objs.size ts.length).map fun _ => .none))).objs.size = hp.objs.size + ts.length + 2 := by rw [Heap.size_push, z2]
    rw [z1, z2, z3]
    exact h

/-- what stands behind zip(..) over texts -/
structure ZAt (h : Heap) (b : Nat) (ts : Tx) (f0 f1 : Value) (i : Nat) : Prop where
  zip : h.get? (b + ts.length + 2) = some (zipO f0 f1 (b + ts.length) (b + ts.length + 1))
  its : h.get? (b + ts.length) = some (tupO (refs b ts.length))
  txt : ∀ (k : Nat) (v : Str × Tok), ts[k]? = some v → h.IsStrIter (b + k) (strIterType v.1) v.1 v.2 i
theorem zheap_old {h : Heap} {ts : Tx} {c : Addr} {o : Obj} (e : h.get? c = some o) : (zheap h ts).get? c = some o :=
  Heap.get?_push_of_some _ (Heap.get?_push_of_some _ (Heap.get?_push_of_some _ (laid_old ts h c o e)))
theorem zheap_at (h : Heap) (ts : Tx) : ZAt (zheap h ts) h.objs.size ts .none (.bool false) 0 ∧ ∃ l, l.length = ts.length ∧ (zheap h ts).get? (h.objs.size + ts.length + 1) = some (tupO l) := by
  have z1 : (laid h ts).objs.size = h.objs.size + ts.length := laid_size ts h
  have z2 : ((laid h ts).push (tupO (refs h.objs.size ts.length))).objs.size = h.objs.size + ts.length + 1 := by rw [Heap.size_push, z1]
  have z3 : (((laid h ts).push (tupO (refs h.objs.size ts.length))).push (tupO ((refs h.objs.size ts.length).map fun _ => .none))).objs.size = h.objs.size + ts.length + 2 := by rw [Heap.size_push, z2]
  have e1 : (zheap h ts).get? (h.objs.size + ts.length) = some (tupO (refs h.objs.size ts.length)) := by
    rw [← z1]
    exact Heap.get?_push_of_some _ (Heap.get?_push_of_some _ (Heap.get?_push_size _ rfl))
  have e2 : (zheap h ts).get? (h.objs.size + ts.length + 1) = some (tupO ((refs h.objs.size ts.length).map fun _ => .none)) := by
    rw [← z2]
    exact Heap.get?_push_of_some _ (Heap.get?_push_size _ rfl)
  have e3 : (zheap h ts).get? (h.objs.size + ts.length + 2) = some (zipO .none (.bool false) (h.objs.size + ts.length) (h.objs.size + ts.length + 1)) := by
    rw [← z3]
    exact Heap.get?_push_size _ rfl
  refine ⟨⟨e3, e1, fun k v hv => ?_⟩, _, ?_, e2⟩
  · exact ⟨_, Heap.get?_push_of_some _ (Heap.get?_push_of_some _ (Heap.get?_push_of_some _ (laid_at ts h k v hv))), rfl, rfl⟩
  · rw [List.length_map, refs_length]

theorem call_zip {prog : Program} {w : World} {A : Around} {E : Value → Shared → Prop} {s : Shared} {Q : Value → Shared → Prop} (ts : Tx) (hl : ts.length ≤ 8)
    (h : Q (.ref (s.heap.objs.size + ts.length + 2)) { s with heap := zheap s.heap ts }) : wpAny (model prog w) A (call (.type "zip") (txv ts)) Q E s := by
  refine callType_new F.called_zip (by decide) (typeCall_zip ts hl) (newCall_zip ts hl) (fun obj => argsOk_init obj ts hl) F.entry_zip_new (meets_zip_new ts hl) ?_
  have e3 := (zheap_at s.heap ts).1.zip
  exact ⟨⟨_, e3, rfl⟩, h⟩
end TH
end
section
set_option Elab.async false
set_option maxRecDepth 100000
set_option maxHeartbeats 4000000
namespace TH
open PySem PySem.Spec PyProof.Rows L2
theorem nn {x y : Nat} (h : x < y ∨ y < x) : x ≠ y := fun e => by subst e; omega
section
variable {prog : Program} {w : World} {A : Around} {E : Value → Shared → Prop}
/-- a loop over a list of the model's own, by what holds ahead of its k-th turn -/
theorem loop_inv {α β : Type} {f : α → β → Sem (ForInStep β)} {Q : β → Shared → Prop} (I : Nat → β → Shared → Prop) : ∀ (xs : List α) (n : Nat) (y : β) (s : Shared), I n y s →
    (∀ k x y s, xs[k]? = some x → I (n + k) y s → wpAny (model prog w) A (f x y) (fun r s' => ∃ y', r = .yield y' ∧ I (n + k + 1) y' s') E s) →
    (∀ y s, I (n + xs.length) y s → Q y s) → wpAny (model prog w) A (forIn xs y f) Q E s
  | [], n, y, s, h0, _, he => by
    rw [List.forIn_nil]
    exact wpAny_pure (he y s h0)
  | x :: r, n, y, s, h0, hs, he => by
    rw [List.forIn_cons]
    refine wpAny_bind (wpAny_mono (hs 0 x y s rfl h0) (fun r1 s1 hr => ?_) fun _ _ z => z)
    obtain ⟨y1, rfl, h1⟩ := hr
    refine loop_inv I r (n + 1) y1 s1 h1 (fun k x' y' s' hk hI => ?_) fun y' s' hI => he y' s' ?_
    · have z := hs (k + 1) x' y' s' (by simpa using hk) (by
        have e : n + 1 + k = n + (k + 1) := by omega
        rw [e] at hI
        exact hI)
      have e : n + (k + 1) + 1 = n + 1 + k + 1 := by omega
      rw [e] at z
      exact z
    · have e : n + 1 + r.length = n + (r.length + 1) := by omega
      rw [e] at hI
      exact hI

/-- the signs of the texts at place i -/
def ColAt (ts : Tx) (i : Nat) (l : List Value) : Prop := l.length = ts.length ∧ ∀ (k : Nat) (v : Str × Tok), ts[k]? = some v → ∃ (c : Nat) (u : Tok), v.1.cps[i]? = some c ∧ l[k]? = some (Value.str ⟨#[c]⟩ u)
/-- outside b .. b + n all stands -/
def Out (b n : Nat) (h h' : Heap) : Prop := h'.objs.size = h.objs.size ∧ ∀ (c : Nat) (o : Obj), (c < b ∨ b + n < c) → h.get? c = some o → h'.get? c = some o
/-- k of the iterators have gone on -/
structure Mid (hp : Heap) (b : Nat) (ts : Tx) (f0 : Value) (i k : Nat) (h : Heap) : Prop where
  out : Out b (ts.length + 2) hp h
  zip : ∃ f1, h.get? (b + ts.length + 2) = some (zipO f0 f1 (b + ts.length) (b + ts.length + 1))
  its : h.get? (b + ts.length) = some (tupO (refs b ts.length))
  txt : ∀ (j : Nat) (v : Str × Tok), ts[j]? = some v → h.IsStrIter (b + j) (strIterType v.1) v.1 v.2 (if j < k then i + 1 else i)
theorem strIter_other {h h' : Heap} {a c : Addr} {ty : String} {x : Str} {t : Tok} {i : Nat} (q : h.IsStrIter a ty x t i) (sb : Heap.SameBut c h h') (hne : a ≠ c) : h'.IsStrIter a ty x t i := by
  obtain ⟨o, ho, r⟩ := q
  exact ⟨o, (sb.2 a hne).trans ho, r⟩
theorem Mid.step {hp h h' : Heap} {b : Nat} {ts : Tx} {f0 : Value} {i k : Nat} {v : Str × Tok} (M : Mid hp b ts f0 i k h) (hk : ts[k]? = some v) (sb : Heap.SameBut (b + k) h h') (st : h'.IsStrIter (b + k) (strIterType v.1) v.1 v.2 (i + 1)) : Mid hp b ts f0 i (k + 1) h' := by
  have hkl : k < ts.length := (List.getElem?_eq_some_iff.mp hk).1
  obtain ⟨f1, hz⟩ := M.zip
  refine ⟨⟨sb.1.trans M.out.1, fun c o hc e => (sb.2 c (nn (by omega))).trans (M.out.2 c o hc e)⟩, ⟨f1, (sb.2 (b + ts.length + 2) (nn (by omega))).trans hz⟩, (sb.2 (b + ts.length) (nn (by omega))).trans M.its, fun j u hj => ?_⟩
  by_cases hjk : j = k
  · subst hjk
    rw [if_pos (Nat.lt_succ_self _)]
    rw [hk] at hj
    cases hj
    exact st
  · have z := strIter_other (M.txt j u hj) sb (nn (x := b + j) (y := b + k) (by omega))
    by_cases hlt : j < k
    · rw [if_pos hlt] at z
      rw [if_pos (show j < k + 1 by omega)]
      exact z
    · rw [if_neg hlt] at z
      rw [if_neg (show ¬ j < k + 1 by omega)]
      exact z
theorem Mid.other {hp h h' : Heap} {b : Nat} {ts : Tx} {f0 : Value} {i k : Nat} (M : Mid hp b ts f0 i k h) (sb : Heap.SameBut (b + ts.length + 1) h h') : Mid hp b ts f0 i k h' := by
  obtain ⟨f1, hz⟩ := M.zip
  refine ⟨⟨sb.1.trans M.out.1, fun c o hc e => (sb.2 c (nn (by omega))).trans (M.out.2 c o hc e)⟩, ⟨f1, (sb.2 (b + ts.length + 2) (nn (by omega))).trans hz⟩, (sb.2 (b + ts.length) (nn (by omega))).trans M.its, fun j u hj => ?_⟩
  have hjl : j < ts.length := (List.getElem?_eq_some_iff.mp hj).1
  exact strIter_other (M.txt j u hj) sb (nn (x := b + j) (y := b + ts.length + 1) (by omega))
theorem Mid.start {hp h : Heap} {b : Nat} {ts : Tx} {f0 g0 f1 : Value} {i : Nat} (Z : ZAt hp b ts f0 f1 i) (sb : Heap.SameBut (b + ts.length + 2) hp h) (hz : ∃ f1, h.get? (b + ts.length + 2) = some (zipO g0 f1 (b + ts.length) (b + ts.length + 1))) : Mid hp b ts g0 i 0 h := by
  refine ⟨⟨sb.1, fun c o hc e => (sb.2 c (nn (by omega))).trans e⟩, hz, (sb.2 (b + ts.length) (nn (by omega))).trans Z.its, fun j u hj => ?_⟩
  have hjl : j < ts.length := (List.getElem?_eq_some_iff.mp hj).1
  rw [if_neg (Nat.not_lt_zero _)]
  exact strIter_other (Z.txt j u hj) sb (nn (x := b + j) (y := b + ts.length + 2) (by omega))
theorem Mid.fin {hp h : Heap} {b : Nat} {ts : Tx} {f0 : Value} {i : Nat} (M : Mid hp b ts f0 i ts.length h) : ∃ f1, ZAt h b ts f0 f1 (i + 1) := by
  obtain ⟨f1, hz⟩ := M.zip
  refine ⟨f1, hz, M.its, fun j v hj => ?_⟩
  have z := M.txt j v hj
  rw [if_pos (List.getElem?_eq_some_iff.mp hj).1] at z
  exact z
/-- the k-th iterator goes on -/
theorem draw_ok {hp : Heap} {s : Shared} {b : Nat} {ts : Tx} {f0 : Value} {i k : Nat} {v : Str × Tok} {Q : Value → Shared → Prop} (hh : A.handled = none) (M : Mid hp b ts f0 i k s.heap) (hk : ts[k]? = some v) (hi : i < v.1.cps.size)
    (hQ : ∀ c u h' tk, v.1.cps[i]? = some c → Mid hp b ts f0 i (k + 1) h' → Heap.SameBut (b + k) s.heap h' → Q (.str ⟨#[c]⟩ u) { s with heap := h', toks := tk }) :
    wpAny (model prog w) A (Builtin.SmallTypes.nextOf (.ref (b + k))) Q E s := by
  have st := M.txt k v hk
  rw [if_neg (Nat.lt_irrefl _)] at st
  refine (Draws.text (prog := prog) (w := w) hh (b + k) v.1 v.2).item i s _ _ hi st fun x h' tk hx st' sb => ?_
  obtain ⟨c, u, hc, rfl⟩ := hx
  exact hQ c u h' tk hc (M.step hk sb st') sb
end
end TH
end
section
set_option Elab.async false
set_option maxRecDepth 100000
set_option maxHeartbeats 4000000
namespace TH
open PySem PySem.Spec PyProof.Rows L2
section
variable {prog : Program} {w : World} {A : Around} {E : Value → Shared → Prop}
theorem refs_ne {b n : Nat} (h : 0 < n) : (refs b n).toArray.isEmpty = false := by
  cases n with
  | zero => exact absurd h (Nat.lt_irrefl _)
  | succ n => rfl
theorem refs_get {b n k : Nat} {x : Value} (h : (refs b n)[k]? = some x) : k < n ∧ x = .ref (b + k) := by
  have hk : k < n := by
    have z := (List.getElem?_eq_some_iff.mp h).1
    rw [refs_length] at z
    exact z
  have z := refs_at b n k hk
  rw [z] at h
  exact ⟨hk, (Option.some.inj h).symm⟩
theorem alive_any {s : Shared} {a : Addr} {Q : Option Obj → Shared → Prop} (h : Q (s.heap.get? a) s) : wpAny (model prog w) A (loadIfAlive a) Q E s := fun _ _ _ => h
/-- what stands between the turns -/
structure Bet (h : Heap) (b : Nat) (ts : Tx) (i : Nat) : Prop where
  at_ : ∃ (f0 : Value) (fb : Bool), ZAt h b ts f0 (.bool fb) i ∧ (f0 = .none ∨ ∃ T : Nat, f0 = rawInt T)
  own : ∃ l : List Value, h.get? (b + ts.length + 1) = some (tupO l) ∧ l.length = ts.length
/-- what a turn hands on -/
def Nxt (hp : Heap) (g : Array GenState) (d : Drawn) (os : OsState) (b : Nat) (ts : Tx) (i : Nat) (Q : Value → Shared → Prop) : Prop :=
  ∀ (us : List Value) (h' : Heap) (tk' : Nat), ColAt ts i us → Bet h' b ts (i + 1) → h'.get? hp.objs.size = some (tupO us) →
    (∀ (c : Nat) (o : Obj), (c < b ∨ b + (ts.length + 2) < c) → hp.get? c = some o → h'.get? c = some o) → Q (.ref hp.objs.size) ⟨h', g, d, tk', os⟩
theorem is_free {s : Shared} {b : Nat} {ts : Tx} {i : Nat} {f0 : Value} {fb : Bool} {Q : Bool → Shared → Prop} (Z : ZAt s.heap b ts f0 (.bool fb) i) (hf : f0 = .none ∨ ∃ T : Nat, f0 = rawInt T)
    (h1 : Q true s) (h2 : ∀ (h' : Heap), Heap.SameBut (b + ts.length + 2) s.heap h' → h'.get? (b + ts.length + 2) = some (zipO f0 (.bool true) (b + ts.length) (b + ts.length + 1)) → Q false { s with heap := h' }) :
    wpAny (model prog w) A (Builtin.SmallTypes.ownedTupleIsFree (.ref (b + ts.length + 2))) Q E s := by
  unfold Builtin.SmallTypes.ownedTupleIsFree
  refine wpAny_bind (wpAny_field Z.zip rfl (x := f0) rfl ?_)
  rcases hf with rfl | ⟨T, rfl⟩
  · exact wpAny_pure h1
  · show wpAny _ _ (loadIfAlive ((T : Int).toNat) >>= _) _ _ _
    rw [Int.toNat_natCast]
    refine wpAny_bind (alive_any ?_)
    cases hT : s.heap.get? T with
    | none => exact wpAny_pure h1
    | some o =>
      simp only [Option.isNone_some, Bool.false_eq_true, if_false]
      refine wpAny_bind (wpAny_field Z.zip rfl (x := .bool fb) rfl ?_)
      cases fb with
      | true => exact wpAny_pure (h2 s.heap (Heap.SameBut.refl _ _) Z.zip)
      | false => exact wpAny_bind (wpAny_setField_rec Z.zip (by simp) fun h' hz hs => wpAny_pure (h2 h' hs hz))
/-- a turn -/
theorem next_item {hp : Heap} {g : Array GenState} {d : Drawn} {tk : Nat} {os : OsState} {b : Nat} {ts : Tx} {i : Nat} {Q : Value → Shared → Prop} (hh : A.handled = none) (B : Bet hp b ts i) (h1 : 0 < ts.length) (h8 : ts.length ≤ 8)
    (hi : ∀ (k : Nat) (v : Str × Tok), ts[k]? = some v → i < v.1.cps.size) (hQ : Nxt hp g d os b ts i Q) :
    wpAny (model prog w) A (Builtin.«zip.__next__» ⟨[.ref (b + ts.length + 2)], []⟩) (fun fin s' => ∃ v, fin = .done (.ret v) ∧ Q v s') E ⟨hp, g, d, tk, os⟩ := by
  obtain ⟨⟨f0, fb, Z, hf⟩, l, hT, hl⟩ := B
  show wpAny _ _ (field (.ref _) 2 >>= _) _ _ _
  refine wpAny_bind (wpAny_field Z.zip rfl (x := .bool false) rfl ?_)
  show wpAny _ _ (field (.ref _) 3 >>= _) _ _ _
  refine wpAny_bind (wpAny_field Z.zip rfl (x := .ref (b + ts.length)) rfl ?_)
  refine wpAny_bind (wpAny_seqItems Z.its rfl ?_)
  dsimp only
  rw [if_neg (by rw [refs_ne h1]; exact Bool.false_ne_true)]
  refine wpAny_bind (is_free Z hf ?_ fun hA hs0 hz0 => ?_)
  · rw [if_pos rfl]
    refine wpAny_bind (wpAny_rule ?_)
    refine wpAny_bind (wpAny_field Z.zip rfl (x := .ref (b + ts.length + 1)) rfl ?_)
    refine wpAny_bind (wpAny_setField_rec Z.zip (by simp) fun g0 hz0 hs0 => ?_)
    replace hs0 : Heap.SameBut (b + ts.length + 2) hp g0 := hs0
    have M0 : Mid hp b ts .ellipsis i 0 g0 := Mid.start Z hs0 ⟨_, hz0⟩
    have hT0 : g0.get? (b + ts.length + 1) = some (tupO l) := (hs0.2 (b + ts.length + 1) (nn (by omega))).trans hT
    refine wpAny_bind (loop_inv (I := fun k y s => y = (none, ()) ∧ (∃ (h : Heap) (tk' : Nat) (us : List Value), s = ⟨h, g, d, tk', os⟩ ∧ Mid hp b ts .ellipsis i k h ∧ h.get? (b + ts.length + 1) = some (tupO us) ∧ us.length = ts.length ∧
        ∀ (j : Nat) (v : Str × Tok), j < k → ts[j]? = some v → ∃ (c : Nat) (u : Tok), v.1.cps[i]? = some c ∧ us[j]? = some (Value.str ⟨#[c]⟩ u))) _ 0 _ _ ⟨rfl, g0, tk, l, rfl, M0, hT0, hl, fun j v hj => absurd hj (Nat.not_lt_zero _)⟩ ?_ ?_)
    · rintro k ⟨x, k'⟩ y s hk ⟨rfl, h, tk', us, rfl, M, hU, hul, hgot⟩
      simp only [Nat.zero_add] at M hgot ⊢
      rw [List.getElem?_zipIdx] at hk
      cases hx : (refs b ts.length)[k]? with
      | none => simp [hx] at hk
      | some x' =>
        simp [hx] at hk
        obtain ⟨e1, e2⟩ := hk
        obtain ⟨hkl, ex⟩ := refs_get hx
        subst e1
        subst ex
        subst e2
        have hv : ts[k]? = some ts[k] := List.getElem?_eq_getElem hkl
        refine wpAny_bind (wpAny_onRaise ?_)
        show wpAny _ _ (Builtin.SmallTypes.nextOf (.ref (b + k)) >>= _) _ _ ⟨h, g, d, tk', os⟩
        refine wpAny_bind (draw_ok hh M hv (hi k _ hv) fun c u h' tk2 hc M' sb => wpAny_pure ?_)
        have hU' : h'.get? (b + ts.length + 1) = some (tupO us) := (sb.2 (b + ts.length + 1) (nn (by omega))).trans hU
        refine wpAny_bind (wpAny_seqItems (s := ⟨h', g, d, tk2, os⟩) hU' rfl ?_)
        refine wpAny_bind (wpAny_updateSeq (s := ⟨h', g, d, tk2, os⟩) hU' rfl ?_)
        refine wpAny_bind (wpAny_letGo (wpAny_pure ⟨_, rfl, rfl, _, _, us.set k (.str ⟨#[c]⟩ u), rfl, M'.other (Heap.SameBut.update ..), ?_, ?_, ?_⟩))
        · rw [Heap.get?_update_self _ hU' rfl]
          simp [Obj.mapSeq]
        · rw [List.length_set]
          exact hul
        · intro j v hj hjv
          by_cases hjk : j = k
          · subst hjk
            rw [hv] at hjv
            cases hjv
            exact ⟨c, u, hc, List.getElem?_set_self (by rw [hul]; exact hkl)⟩
          · obtain ⟨c', u', e1, e2⟩ := hgot j v (by omega) hjv
            exact ⟨c', u', e1, by rw [List.getElem?_set_ne (fun e => hjk e.symm)]; exact e2⟩
    · rintro y s ⟨rfl, h, tk', us, rfl, M, hU, hul, hgot⟩
      have el : 0 + (refs b ts.length).toArray.toList.zipIdx.length = ts.length := by
        simp [refs_length]
      rw [el] at M hgot
      refine wpAny_bind (wpAny_seqItems (s := ⟨h, g, d, tk', os⟩) hU rfl ?_)
      refine wpAny_bind (wpAny_newTuple ?_ (by simp; rw [hul]; exact Nat.le_trans h8 (by decide)))
      obtain ⟨f1, Z1⟩ := M.fin
      have hsz : h.objs.size = hp.objs.size := M.out.1
      have hz1 : (h.push (tupO us)).get? (b + ts.length + 2) = some (zipO .ellipsis f1 (b + ts.length) (b + ts.length + 1)) := Heap.get?_push_of_some _ Z1.zip
      have hzl : b + ts.length + 2 < h.objs.size := Heap.lt_size Z1.zip
      show wpAny _ _ (Builtin.SmallTypes.ownedTupleHandOut (.ref _) (.ref h.objs.size) >>= _) _ _ ⟨h.push (tupO us), g, d, tk', os⟩
      refine wpAny_bind ?_
      unfold Builtin.SmallTypes.ownedTupleHandOut
      refine wpAny_bind (wpAny_setField_rec hz1 (by simp) fun h7 hz7 hs7 => ?_)
      replace hz7 : h7.get? (b + ts.length + 2) = some (zipO (rawInt h.objs.size) f1 (b + ts.length) (b + ts.length + 1)) := hz7
      replace hs7 : Heap.SameBut (b + ts.length + 2) (h.push (tupO us)) h7 := hs7
      refine wpAny_setField_rec hz7 (by simp) fun h8' hz8 hs8 => ?_
      replace hz8 : h8'.get? (b + ts.length + 2) = some (zipO (rawInt h.objs.size) (.bool false) (b + ts.length) (b + ts.length + 1)) := hz8
      replace hs8 : Heap.SameBut (b + ts.length + 2) h7 h8' := hs8
      have up : ∀ (c : Nat) (o : Obj), c ≠ b + ts.length + 2 → h.get? c = some o → h8'.get? c = some o := fun c o hc e => (hs8.2 c hc).trans ((hs7.2 c hc).trans (Heap.get?_push_of_some _ e))
      refine wpAny_pure ⟨_, rfl, ?_⟩
      rw [hsz] at hz8 ⊢
      refine hQ us h8' tk' ⟨hul, fun k v hk => hgot k v (List.getElem?_eq_some_iff.mp hk).1 hk⟩ ⟨⟨_, false, ⟨hz8, up _ _ (nn (by omega)) Z1.its, fun k v hk => ?_⟩, .inr ⟨_, rfl⟩⟩, _, up _ _ (nn (by omega)) hU, hul⟩ ?_ fun c o hc e => ?_
      · have hkl : k < ts.length := (List.getElem?_eq_some_iff.mp hk).1
        obtain ⟨o, ho, r⟩ := Z1.txt k v hk
        exact ⟨o, up _ _ (nn (x := b + k) (y := b + ts.length + 2) (by omega)) ho, r⟩
      · rw [← hsz]
        exact (hs8.2 h.objs.size (nn (by omega))).trans ((hs7.2 h.objs.size (nn (by omega))).trans (Heap.get?_push_size _ rfl))
      · exact up c o (nn (by omega)) (M.out.2 c o hc e)
  · rw [if_neg Bool.false_ne_true]
    have M0 : Mid hp b ts f0 i 0 hA := Mid.start Z hs0 ⟨_, hz0⟩
    have hT0 : hA.get? (b + ts.length + 1) = some (tupO l) := (hs0.2 (b + ts.length + 1) (nn (by omega))).trans hT
    have hz0' : hA.get? (b + ts.length + 2) = some (zipO f0 (.bool true) (b + ts.length) (b + ts.length + 1)) := hz0
    dsimp only
    rw [List.forIn_toArray]
    refine wpAny_bind (loop_inv (I := fun k y s => ∃ (h : Heap) (tk' : Nat) (us : List Value), y = (none, us.toArray) ∧ s = ⟨h, g, d, tk', os⟩ ∧ Mid hp b ts f0 i k h ∧ h.get? (b + ts.length + 2) = some (zipO f0 (.bool true) (b + ts.length) (b + ts.length + 1)) ∧
        h.get? (b + ts.length + 1) = some (tupO l) ∧ us.length = k ∧
        ∀ (j : Nat) (v : Str × Tok), j < k → ts[j]? = some v → ∃ (c : Nat) (u : Tok), v.1.cps[i]? = some c ∧ us[j]? = some (Value.str ⟨#[c]⟩ u)) _ 0 _ _ ⟨hA, tk, [], rfl, rfl, M0, hz0', hT0, rfl, fun j v hj => absurd hj (Nat.not_lt_zero _)⟩ ?_ ?_)
    · rintro k x y s hk ⟨h, tk', us, rfl, rfl, M, hz, hU, hul, hgot⟩
      simp only [Nat.zero_add] at M hgot hul ⊢
      obtain ⟨hkl, ex⟩ := refs_get hk
      subst ex
      have hv : ts[k]? = some ts[k] := List.getElem?_eq_getElem hkl
      refine wpAny_bind (wpAny_holding ?_)
      show wpAny _ _ (Builtin.SmallTypes.nextOf (.ref (b + k)) >>= _) _ _ ⟨h, g, d, tk', os⟩
      refine wpAny_bind (draw_ok hh M hv (hi k _ hv) fun c u h' tk2 hc M' sb => wpAny_pure ?_)
      refine wpAny_pure ⟨_, rfl, h', tk2, us ++ [.str ⟨#[c]⟩ u], by simp, rfl, M', (sb.2 (b + ts.length + 2) (nn (by omega))).trans hz, (sb.2 (b + ts.length + 1) (nn (by omega))).trans hU, by rw [List.length_append, hul]; rfl, fun j v hj hjv => ?_⟩
      by_cases hjk : j = k
      · subst hjk
        rw [hv] at hjv
        cases hjv
        exact ⟨c, u, hc, by rw [List.getElem?_append_right (by omega), hul]; simp⟩
      · obtain ⟨c', u', e1, e2⟩ := hgot j v (by omega) hjv
        exact ⟨c', u', e1, by rw [List.getElem?_append_left (by omega)]; exact e2⟩
    · rintro y s ⟨h, tk', us, rfl, rfl, M, hz, hU, hul, hgot⟩
      have el : 0 + (refs b ts.length).length = ts.length := by
        simp [refs_length]
      rw [el] at M hgot hul
      refine wpAny_bind (wpAny_newTuple (wpAny_pure ⟨_, rfl, ?_⟩) (by simp; rw [hul]; exact Nat.le_trans h8 (by decide)))
      obtain ⟨f1, Z1⟩ := M.fin
      have hsz : h.objs.size = hp.objs.size := M.out.1
      have hzl : b + ts.length + 2 < h.objs.size := Heap.lt_size Z1.zip
      have up : ∀ (c : Nat) (o : Obj), h.get? c = some o → (h.push (tupO us)).get? c = some o := fun c o e => Heap.get?_push_of_some _ e
      show Q (.ref h.objs.size) ⟨h.push (tupO us), g, d, tk', os⟩
      have hnew : (h.push (tupO us)).get? h.objs.size = some (tupO us) := Heap.get?_push_size _ rfl
      rw [hsz] at hnew ⊢
      refine hQ us _ tk' ⟨hul, fun k v hk => hgot k v (List.getElem?_eq_some_iff.mp hk).1 hk⟩ ⟨⟨_, true, ⟨up _ _ hz, up _ _ Z1.its, fun k v hk => ?_⟩, hf⟩, _, up _ _ hU, hl⟩ hnew fun c o hc e => up c o (M.out.2 c o hc e)
      obtain ⟨o, ho, r⟩ := Z1.txt k v hk
      exact ⟨o, up _ _ ho, r⟩
end
end TH
end
section
set_option Elab.async false
set_option maxRecDepth 100000
set_option maxHeartbeats 4000000
namespace TH
open PySem PySem.Spec PyProof.Rows L2
section
variable {prog : Program} {w : World} {A : Around} {E : Value → Shared → Prop}
theorem loop_first {α β : Type} {f : α → β → Sem (ForInStep β)} {Q : β → Shared → Prop} {x : α} {r : List α} {y : β} {s : Shared} (h : wpAny (model prog w) A (f x y) (fun _ _ => False) E s) : wpAny (model prog w) A (forIn (x :: r) y f) Q E s := by
  rw [List.forIn_cons]
  exact wpAny_bind (wpAny_mono h (fun _ _ z => z.elim) fun _ _ z => z)
/-- the first iterator is at its end -/
theorem draw_end {s : Shared} {a : Addr} {v : Str × Tok} {Q : Value → Shared → Prop} (hh : A.handled = none) (st : s.heap.IsStrIter a (strIterType v.1) v.1 v.2 v.1.cps.size)
    (hE : ∀ (h' : Heap) (e : Addr), Heap.ExtBut a s.heap h' → (∃ o, h'.get? e = some o ∧ o.cls = .type "StopIteration") → E (.ref e) { s with heap := h' }) : wpAny (model prog w) A (Builtin.SmallTypes.nextOf (.ref a)) Q E s :=
  (Draws.text (prog := prog) (w := w) hh a v.1 v.2).done s _ _ st hE
theorem next_end {hp : Heap} {g : Array GenState} {d : Drawn} {tk : Nat} {os : OsState} {b : Nat} {v : Str × Tok} {ts : Tx} {Q : Fin → Shared → Prop} (hh : A.handled = none) (B : Bet hp b (v :: ts) v.1.cps.size)
    (hE : ∀ (h' : Heap) (e : Addr), (∀ (c : Nat) (o : Obj), (c < b ∨ b + ((v :: ts).length + 2) < c) → hp.get? c = some o → h'.get? c = some o) → (∃ o, h'.get? e = some o ∧ o.cls = .type "StopIteration") → E (.ref e) ⟨h', g, d, tk, os⟩) :
    wpAny (model prog w) A (Builtin.«zip.__next__» ⟨[.ref (b + (v :: ts).length + 2)], []⟩) Q E ⟨hp, g, d, tk, os⟩ := by
  obtain ⟨⟨f0, fb, Z, hf⟩, l, hT, hl⟩ := B
  show wpAny _ _ (field (.ref _) 2 >>= _) _ _ _
  refine wpAny_bind (wpAny_field Z.zip rfl (x := .bool false) rfl ?_)
  show wpAny _ _ (field (.ref _) 3 >>= _) _ _ _
  refine wpAny_bind (wpAny_field Z.zip rfl (x := .ref (b + (v :: ts).length)) rfl ?_)
  refine wpAny_bind (wpAny_seqItems Z.its rfl ?_)
  dsimp only
  rw [if_neg (by rw [refs_ne (by simp)]; exact Bool.false_ne_true)]
  refine wpAny_bind (is_free Z hf ?_ fun hA hs0 hz0 => ?_)
  · rw [if_pos rfl]
    refine wpAny_bind (wpAny_rule ?_)
    refine wpAny_bind (wpAny_field Z.zip rfl (x := .ref (b + (v :: ts).length + 1)) rfl ?_)
    refine wpAny_bind (wpAny_setField_rec Z.zip (by simp) fun g0 hz0 hs0 => ?_)
    replace hs0 : Heap.SameBut (b + (v :: ts).length + 2) hp g0 := hs0
    have st := strIter_other (Z.txt 0 v rfl) hs0 (nn (x := b + 0) (y := b + (v :: ts).length + 2) (by omega))
    refine wpAny_bind ?_
    show wpAny _ _ (forIn ((Value.ref b, 0) :: (refs (b + 1) ts.length).zipIdx 1) _ _) _ _ _
    refine loop_first (wpAny_bind (wpAny_onRaise ?_))
    show wpAny _ _ (Builtin.SmallTypes.nextOf (.ref (b + 0)) >>= _) _ _ ⟨g0, g, d, tk, os⟩
    refine wpAny_bind (draw_end hh st fun q e hq he => ?_)
    replace hq : Heap.ExtBut (b + 0) g0 q := hq
    obtain ⟨oe, hoe, hce⟩ := he
    have hzq : q.get? (b + (v :: ts).length + 2) = some (zipO .ellipsis (.bool fb) (b + (v :: ts).length) (b + (v :: ts).length + 1)) := hq _ _ (nn (x := b + (v :: ts).length + 2) (y := b + 0) (by omega)) hz0
    have hez : e ≠ b + (v :: ts).length + 2 := fun x => by subst x; rw [hzq] at hoe; cases hoe; simp at hce
    refine wpAny_setField_rec (s := ⟨q, g, d, tk, os⟩) hzq (by simp) fun q' _ hq' => ?_
    replace hq' : Heap.SameBut (b + (v :: ts).length + 2) q q' := hq'
    exact hE q' e (fun c o hc x => (hq'.2 c (nn (by omega))).trans (hq _ _ (nn (x := c) (y := b + 0) (by omega)) ((hs0.2 c (nn (by omega))).trans x))) ⟨oe, (hq'.2 e hez).trans hoe, hce⟩
  · rw [if_neg Bool.false_ne_true]
    replace hs0 : Heap.SameBut (b + (v :: ts).length + 2) hp hA := hs0
    have st := strIter_other (Z.txt 0 v rfl) hs0 (nn (x := b + 0) (y := b + (v :: ts).length + 2) (by omega))
    dsimp only
    rw [List.forIn_toArray]
    refine wpAny_bind ?_
    show wpAny _ _ (forIn (Value.ref b :: refs (b + 1) ts.length) _ _) _ _ _
    refine loop_first (wpAny_bind (wpAny_holding ?_))
    show wpAny _ _ (Builtin.SmallTypes.nextOf (.ref (b + 0)) >>= _) _ _ ⟨hA, g, d, tk, os⟩
    refine wpAny_bind (draw_end hh st fun q e hq he => ?_)
    replace hq : Heap.ExtBut (b + 0) hA q := hq
    exact hE q e (fun c o hc x => hq _ _ (nn (x := c) (y := b + 0) (by omega)) ((hs0.2 c (nn (by omega))).trans x)) he
theorem pyNext_item {s : Shared} {b : Nat} {ts : Tx} {i : Nat} {Q : Option Value → Shared → Prop} (hh : A.handled = none) (B : Bet s.heap b ts i) (h1 : 0 < ts.length) (h8 : ts.length ≤ 8)
    (hi : ∀ (k : Nat) (v : Str × Tok), ts[k]? = some v → i < v.1.cps.size) (hQ : Nxt s.heap s.gens s.drawn s.os b ts i (fun v s' => Q (some v) s')) : wpAny (model prog w) A (pyNext (.ref (b + ts.length + 2))) Q E s := by
  obtain ⟨⟨f0, fb, Z, hf⟩, l, hT, hl⟩ := id B
  have hty : s.TypeIs (.ref (b + ts.length + 2)) "zip" := ⟨_, Z.zip, rfl⟩
  unfold pyNext
  refine wpAny_bind (wpAny_attempt (wpAny_callSpecial?_slot (name := Str.ofString "__next__") hty F.slot_zip_next
    (wpAny_call_entry F.slot_zip_next hty F.entry_zip_next (next_item (A := A.in1) hh B h1 h8 hi fun us h' tk' c1 c2 c3 c4 => wpAny_pure (hQ us h' tk' c1 c2 c3 c4)) (F.args_zip_next_1 _))))
theorem pyNext_end {s : Shared} {b : Nat} {v : Str × Tok} {ts : Tx} {Q : Option Value → Shared → Prop} (hh : A.handled = none) (B : Bet s.heap b (v :: ts) v.1.cps.size)
    (hQ : ∀ (h' : Heap), (∀ (c : Nat) (o : Obj), (c < b ∨ b + ((v :: ts).length + 2) < c) → s.heap.get? c = some o → h'.get? c = some o) → Q none { s with heap := h' }) : wpAny (model prog w) A (pyNext (.ref (b + (v :: ts).length + 2))) Q E s := by
  obtain ⟨⟨f0, fb, Z, hf⟩, l, hT, hl⟩ := id B
  have hty : s.TypeIs (.ref (b + (v :: ts).length + 2)) "zip" := ⟨_, Z.zip, rfl⟩
  unfold pyNext
  refine wpAny_bind (wpAny_attempt (wpAny_callSpecial?_slot (name := Str.ofString "__next__") hty F.slot_zip_next
    (wpAny_call_entry F.slot_zip_next hty F.entry_zip_next (next_end (A := A.in1) hh B fun h' e hk he => ?_) (F.args_zip_next_1 _))))
  obtain ⟨o, ho, hc⟩ := he
  refine wpAny_bind (wpAny_isInstance (T := "StopIteration") (b := true) ⟨o, ho, hc⟩ isSubtype_stop ?_)
  exact wpAny_pure (hQ _ hk)
end
end TH
end
section
set_option Elab.async false
set_option maxRecDepth 100000
set_option maxHeartbeats 4000000
namespace TH
open PySem PySem.Spec PyProof.Rows L2
/-- the texts xs, m signs each: at turn i a new tuple of their signs there -/
def Itzs (xs : List Str) (m : Nat) : It :=
  ⟨fun i _ => i < m, fun i H x H' => ∃ (T : Addr) (cs : List Nat), x = .ref T ∧ H T = none ∧ H' = upd H T (.tup (cs.map fun c => V.str ⟨#[c]⟩)) ∧ cs.length = xs.length ∧ ∀ (k : Nat) (y : Str), xs[k]? = some y → ∃ c, y.cps[i]? = some c ∧ cs[k]? = some c, fun i _ => i = m⟩
def Tn (xs : List Str) (b : Nat) (i : Nat) (h : Heap) : Prop := ∃ ts : Tx, ts.map Prod.fst = xs ∧ Bet h b ts i
theorem fp_le {b n c : Nat} (h : c ∈ (List.range (n + 3)).map (b + ·)) : b ≤ c ∧ c ≤ b + n + 2 := by
  obtain ⟨k, hk, rfl⟩ := List.mem_map.mp h
  have := List.mem_range.mp hk
  omega
theorem fp_in {b n c : Nat} (h : b ≤ c ∧ c ≤ b + n + 2) : c ∈ (List.range (n + 3)).map (b + ·) := List.mem_map.mpr ⟨c - b, List.mem_range.mpr (by omega), by omega⟩
theorem Bet.kept {h h' : Heap} {b : Nat} {ts : Tx} {i : Nat} (B : Bet h b ts i) (k : ∀ (c : Nat), b ≤ c ∧ c ≤ b + ts.length + 2 → ∀ o, h.get? c = some o → h'.get? c = some o) : Bet h' b ts i := by
  obtain ⟨⟨f0, fb, Z, hf⟩, l, hT, hl⟩ := B
  refine ⟨⟨f0, fb, ⟨k _ (by omega) _ Z.zip, k _ (by omega) _ Z.its, fun j v hj => ?_⟩, hf⟩, l, k _ (by omega) _ hT, hl⟩
  have hjl : j < ts.length := (List.getElem?_eq_some_iff.mp hj).1
  obtain ⟨o, ho, r⟩ := Z.txt j v hj
  exact ⟨o, k (b + j) (by omega) _ ho, r⟩
theorem Bet.obj {h : Heap} {b : Nat} {ts : Tx} {i : Nat} (B : Bet h b ts i) (c : Nat) (hc : b ≤ c ∧ c ≤ b + ts.length + 2) : ∃ o, h.get? c = some o ∧ ∀ v, o.data ≠ .cell v := by
  obtain ⟨⟨f0, fb, Z, hf⟩, l, hT, hl⟩ := B
  by_cases h1 : c = b + ts.length + 2
  · subst h1
    exact ⟨_, Z.zip, fun v q => nomatch q⟩
  · by_cases h2 : c = b + ts.length + 1
    · subst h2
      exact ⟨_, hT, fun v q => nomatch q⟩
    · by_cases h3 : c = b + ts.length
      · subst h3
        exact ⟨_, Z.its, fun v q => nomatch q⟩
      · have hk : c - b < ts.length := by omega
        obtain ⟨o, ho, _, hd⟩ := Z.txt (c - b) _ (List.getElem?_eq_getElem hk)
        have e : b + (c - b) = c := by omega
        rw [e] at ho
        exact ⟨o, ho, fun v q => by rw [hd] at q; cases q⟩
theorem sgn_vals : ∀ (us : List Value) (cs : List Nat), us.length = cs.length → (∀ (k c : Nat), cs[k]? = some c → ∃ u, us[k]? = some (Value.str ⟨#[c]⟩ u)) → Vals (cs.map fun c => V.str ⟨#[c]⟩) us
  | [], [], _, _ => .nil
  | [], _ :: _, e, _ => by simp at e
  | _ :: _, [], e, _ => by simp at e
  | x :: us, c :: cs, e, h => by
    obtain ⟨u, hu⟩ := h 0 c rfl
    have hx : x = Value.str ⟨#[c]⟩ u := by simpa using hu
    refine .cons ⟨u, hx⟩ (sgn_vals us cs (by simpa using e) fun k c' hk => ?_)
    simpa using h (k + 1) c' (by simpa using hk)
/-- the signs that a column holds -/
theorem col_signs : ∀ (ts : Tx) (i : Nat) (us : List Value), ColAt ts i us → ∃ cs : List Nat, us.length = cs.length ∧ (∀ (k c : Nat), cs[k]? = some c → ∃ u, us[k]? = some (Value.str ⟨#[c]⟩ u)) ∧ cs.length = ts.length ∧ ∀ (k : Nat) (v : Str × Tok), ts[k]? = some v → ∃ c, v.1.cps[i]? = some c ∧ cs[k]? = some c
  | [], i, us, ⟨h1, h2⟩ => ⟨[], h1, fun k c hk => by simp at hk, rfl, fun k v hk => by simp at hk⟩
  | v :: ts, i, [], ⟨h1, h2⟩ => by simp at h1
  | v :: ts, i, x :: us, ⟨h1, h2⟩ => by
    obtain ⟨c, u, hc, hx⟩ := h2 0 v rfl
    obtain ⟨cs, e1, e2, e3, e4⟩ := col_signs ts i us ⟨by simpa using h1, fun k w hk => by simpa using h2 (k + 1) w (by simpa using hk)⟩
    refine ⟨c :: cs, by simp [e1], fun k c' hk => ?_, by simp [e3], fun k w hk => ?_⟩
    · cases k with
      | zero =>
        have : c = c' := by simpa using hk
        subst this
        exact ⟨u, by simpa using hx⟩
      | succ k => simpa using e2 k c' (by simpa using hk)
    · cases k with
      | zero =>
        have : v = w := by simpa using hk
        subst this
        exact ⟨c, hc, rfl⟩
      | succ k => simpa using e4 k w (by simpa using hk)
theorem self_zip {prog : Program} {w : World} {A : Around} {E : Value → Shared → Prop} {s : Shared} {z TI TO : Addr} {f0 f1 : Value} {Q : Value → Shared → Prop} (hz : s.heap.get? z = some (zipO f0 f1 TI TO)) (h : Q (.ref z) s) : wpAny (model prog w) A (pyIter (.ref z)) Q E s := by
  have ty : s.TypeIs (.ref z) "zip" := ⟨_, hz, rfl⟩
  refine wpAny_pyIter_slot ty F.slot_zip_iter (wpAny_call_entry F.slot_zip_iter ty F.entry_zip_iter (show wpAny _ _ (ret (.ref z)) _ _ s from ?_) (F.args_zip_iter_1 _))
  exact wpAny_pure ⟨_, rfl, "zip", _, ty, F.slot_zip_next.lookup, h⟩
theorem turn_zips {P : Program} {w : World} {K : PySem.W.Frag} {nm : Str} {np : Pos} {xs : List Str} {m b : Nat} (h1 : 0 < xs.length) (h8 : xs.length ≤ 8) (hm : ∀ x ∈ xs, x.cps.size = m) :
    Turn P w K (.Name nm np) (Itzs xs m) ((List.range (xs.length + 3)).map (b + ·)) (b + xs.length + 2) (Tn xs b) where
  mem := fp_in (by omega)
  obj := fun i h st c hc => by
    obtain ⟨ts, rfl, B⟩ := st
    have q := fp_le hc
    rw [List.length_map] at q
    exact B.obj c q
  keep := fun i h h' st k => by
    obtain ⟨ts, rfl, B⟩ := st
    refine ⟨ts, rfl, B.kept fun c hc o e => k c (fp_in ?_) o e⟩
    rw [List.length_map]
    exact hc
  item := by
    intro X hP hw hK hc i pins s σ H E I hf st hg
    subst hP hw hK
    obtain ⟨ts, rfl, B⟩ := st
    rw [List.length_map] at h1 h8 hf ⊢
    have hin : ∀ (c : Nat), b ≤ c ∧ c ≤ b + ts.length + 2 → c ∈ (List.range (ts.length + 3)).map (b + ·) := fun c q => fp_in q
    refine pyNext_item (I.ok.hd hc) B h1 h8 (fun k v hk => ?_) fun us h' tk' cu B' hT kp => ?_
    · rw [hm v.1 (List.mem_map.mpr ⟨v, List.mem_of_getElem? hk, rfl⟩)]
      exact hg
    · obtain ⟨cs, e1, e2, e3, e4⟩ := col_signs ts i us cu
      refine ⟨_, rfl, wpAny_pure ?_⟩
      have hlen : cs.length ≤ sizeLine := Nat.le_trans (by rw [e3]; exact h8) (by decide)
      have new : ObjOk X.prog X.w (upd H s.heap.objs.size (.tup (cs.map fun c => V.str ⟨#[c]⟩))) h' s.heap.objs.size (.tup (cs.map fun c => V.str ⟨#[c]⟩)) :=
        ⟨by rw [List.length_map]; exact hlen, us, sgn_vals us cs e1 e2, ⟨_, hT, rfl, _, rfl⟩⟩
      have I1 : Inv X pins σ (upd H s.heap.objs.size (.tup (cs.map fun c => V.str ⟨#[c]⟩))) { s with heap := h', toks := tk' } :=
        I.turnedNew (t' := tk') (ch := (List.range (ts.length + 3)).map (b + ·)) (fun c o hc q => kp c o (Classical.byContradiction fun z => hc (hin c (by omega))) q) hf (Nat.le_refl _) new
      refine ⟨.ref s.heap.objs.size, _, I1, rfl, ⟨_, cs, rfl, I.hok.fresh (Nat.le_refl _), rfl, by rw [List.length_map]; exact e3, fun k y hk => ?_⟩, ⟨ts, rfl, B'⟩, fun c hcm => ?_⟩
      · rw [List.getElem?_map] at hk
        cases hv : ts[k]? with
        | none => simp [hv] at hk
        | some v =>
          simp [hv] at hk
          subst hk
          exact e4 k v hv
      · obtain ⟨o, ho, _⟩ := B.obj c (fp_le hcm)
        rw [upd_ne (Nat.ne_of_lt (Heap.lt_size ho))]
        exact (hf c hcm).1
  done := by
    intro X hP hw hK hc i pins s σ H E I hf st hg
    subst hP hw hK
    obtain ⟨ts, rfl, B⟩ := st
    cases ts with
    | nil => exact absurd h1 (by simp)
    | cons v ts =>
      have hv : v.1.cps.size = m := hm v.1 (by simp)
      have hi : i = v.1.cps.size := by rw [hv]; exact hg
      subst hi
      rw [List.length_map] at hf ⊢
      refine pyNext_end (I.ok.hd hc) B fun h' kp => ⟨rfl, I.turnedL (t' := s.toks) (ch := (List.range ((v :: ts).length + 3)).map (b + ·)) (fun c o hc q => kp c o (Classical.byContradiction fun z => hc (fp_in (by omega))) q) hf⟩
  self := fun A i s Q E st h => by
    obtain ⟨ts, rfl, ⟨f0, fb, Z, hf⟩, l, hT, hl⟩ := st
    rw [List.length_map] at h ⊢
    exact self_zip Z.zip h
/-- zip(*e), e a tuple or a list of texts of one length -/
def iZips (K : PySem.W.Frag) (te : TE) : TI := fun σ H R => te σ H fun y H1 => ∃ (a : Addr) (xs : List Str) (m : Nat), y = .ref a ∧ (SqT K H1 a (xs.map V.str) ∨ SqL K H1 a (xs.map V.str)) ∧ 0 < xs.length ∧ xs.length ≤ 8 ∧ (∀ x ∈ xs, x.cps.size = m) ∧ R (Itzs xs m) H1
theorem tx_of : ∀ (xs : List Str) (us : List Value), Vals (xs.map V.str) us → ∃ ts : Tx, us = txv ts ∧ ts.map Prod.fst = xs
  | [], us, h => by cases h; exact ⟨[], rfl, rfl⟩
  | x :: xs, us, h => by
    cases h with
    | @cons _ u _ ur ru rr =>
      obtain ⟨t, rfl⟩ := ru
      obtain ⟨ts, rfl, e⟩ := tx_of xs ur rr
      exact ⟨(x, t) :: ts, rfl, by rw [List.map_cons, e]⟩
theorem pi_zips {X : Cx} {nm : Str} {np : Pos} {e : Expr} {te : TE} {p sp pos : Pos} (hg : Gl X "zip") (hm : X.mg "zip" = none) (he : PE X e te) (hst : starEach [.Starred e sp] X.env = [(true, eval e X.env)] := by rfl) :
    PI X (.Name nm np) (.Call (.Name "zip" p) [.Starred e sp] [] pos) (iZips X.K te) := by
  refine ⟨fun pins s σ H R I h => ?_⟩
  refine wpAny_Call_Name_kw (ld_blt I hg hm PyProof.Rows.boot_zip ?_)
  rw [hst]
  refine PySem.W.ks_call (P := fun _ => True) rfl (fun hp _ => ⟨Keeper.machine, .inr (.inl rfl), PySem.W.Looks.of_pure rfl⟩) (PySem.W.ks_lone (thn (he.run pins s σ H _ I h) fun v s1 ⟨y, H1, I1, ry, a, xs, m, ey, hx, h1, h8, hm', q⟩ => ?_))
  subst ey
  obtain rfl : v = Value.ref a := ry
  refine StX.star_any I1 hx fun us s2 I2 rv => ⟨trivial, ?_⟩
  obtain ⟨ts, rfl, ex⟩ := tx_of xs us rv
  have hl : ts.length = xs.length := by rw [← ex, List.length_map]
  refine call_zip ts (by rw [hl]; exact h8) ?_
  have old : ∀ c o, s2.heap.get? c = some o → (zheap s2.heap ts).get? c = some o := fun c o e => zheap_old e
  have I3 : Inv X pins σ H1 { s2 with heap := zheap s2.heap ts } := I2.kept (t' := s2.toks) old
  obtain ⟨Z, l, hl2, hT⟩ := zheap_at s2.heap ts
  refine self_zip Z.zip ?_
  refine ⟨s2.heap.objs.size + ts.length + 2, (List.range (xs.length + 3)).map (s2.heap.objs.size + ·), Tn xs s2.heap.objs.size, Itzs xs m, H1, rfl, I3, ?_, ⟨ts, ex, ⟨⟨_, false, Z, .inl rfl⟩, l, hT, hl2⟩⟩, fun c hc => ?_, q⟩
  · rw [hl]
    exact turn_zips h1 h8 hm'
  · have hle := (fp_le hc).1
    exact I2.fpOk hle (I2.hok.fresh hle)
end TH
end
section
set_option Elab.async false
set_option maxRecDepth 100000
set_option maxHeartbeats 4000000
set_option linter.all false
namespace TH
open PySem PySem.Spec PyProof.Rows L2
theorem meets_enum_any {v : Value} {o : Obj} {H : Heap → Prop} (B : Begins v o H) :
    Meets (Builtin.«enumerate.__new__» ⟨[.type "enumerate", v], []⟩) (fun _ R s => H s.heap ∧
      R (.ok (.ret (.ref (s.heap.push o).objs.size))) { s with heap := (s.heap.push o).push { cls := .type "enumerate", data := .fields #[.none, .bool false, .ref s.heap.objs.size, rawInt 0, .none, .none] } }) :=
  .of_wp fun prog w A R s hR => by
    obtain ⟨hp, g, d, tk, os⟩ := s
    obtain ⟨hH, hR⟩ := hR
    have hsub := sub_enumerate
    have it1 : ∀ {A' : Around} {E : Value → Shared → Prop} {Q : Value → Shared → Prop}, Q (.ref hp.objs.size) ⟨hp.push o, g, d, tk, os⟩ → wpAny (model prog w) A' (pyIter v) Q E ⟨hp, g, d, tk, os⟩ :=
      fun q => B.iter prog w _ _ ⟨hp, g, d, tk, os⟩ _ hH q
    wp_walk using it1
    refine wpAny_stack_any fun st => wpAny_pure ?_
    split
    · rename_i c _ _ _ _ _
      cases (c == Value.type "enumerate")
      all_goals
        wp_walk using it1
        exact ⟨_, rfl, hR⟩
    · wp_walk using it1
      exact ⟨_, rfl, hR⟩
theorem enum_any {prog : Program} {w : World} {A : Around} {E : Value → Shared → Prop} {s : Shared} {v : Value} {o : Obj} {H : Heap → Prop} {Q : Value → Shared → Prop} (B : Begins v o H) (hH : H s.heap)
    (h : ∀ h', IsEnum h' (s.heap.objs.size + 1) s.heap.objs.size 0 .none → h'.get? s.heap.objs.size = some o → (∀ b o, s.heap.get? b = some o → h'.get? b = some o) → Q (.ref (s.heap.objs.size + 1)) { s with heap := h' }) :
    wpAny (model prog w) A (call (.type "enumerate") [v]) Q E s := by
  refine callType_new F.called_enumerate (by decide) (F.typeCall_enumerate_1 _) (F.newCall_enumerate_1 _) (fun obj => F.args_object_init_2 obj _) F.entry_enumerate_new (meets_enum_any B) ⟨hH, ?_⟩
  have sz : (s.heap.push o).objs.size = s.heap.objs.size + 1 := Heap.size_push ..
  have at1 := Heap.get?_push_size (s.heap.push o) (o := { cls := .type "enumerate", data := .fields #[.none, .bool false, .ref s.heap.objs.size, rawInt 0, .none, .none] }) rfl
  rw [sz] at at1
  show _ ∧ _
  rw [sz]
  exact ⟨⟨_, at1, rfl⟩, h _ at1 (Heap.get?_push_of_some _ (Heap.get?_push_size _ B.free)) fun b o x => Heap.get?_push_of_some _ (Heap.get?_push_of_some _ x)⟩

/-- the signs of a text with their places -/
def Ites (x : Str) : It := ⟨fun i _ => i < x.cps.size, fun i H v H' => ∃ (T : Addr) (c : Nat), v = .ref T ∧ H T = none ∧ H' = upd H T (.tup [.int (i : Nat), .str ⟨#[c]⟩]) ∧ x.cps[i]? = some c, fun i _ => i = x.cps.size⟩
/-- the items of the tuple at a with their places -/
def Itet (K : PySem.W.Frag) (a : Addr) : It :=
  ⟨fun i H => ∃ xs y, SqT K H a xs ∧ xs[i]? = some y, fun i H v H' => ∃ (T : Addr) (y : V), v = .ref T ∧ H T = none ∧ H' = upd H T (.tup [.int (i : Nat), y]) ∧ ∀ xs, SqT K H a xs → xs[i]? = some y, fun i H => ∃ xs, SqT K H a xs ∧ i = xs.length⟩
section
variable {P : Program} {w : World} {K : PySem.W.Frag} {elts : List Expr} {kk : Nat} {tpos : Pos}
theorem turn_enums {x : Str} {t : Tok} (e it : Addr) (hne : e ≠ it) :
    Turn P w K (.Tuple elts kk tpos) (Ites x) [e, it] e (fun i h => (∃ old, IsEnum h e it ((i : Nat) : Int) old) ∧ h.IsStrIter it (strIterType x) x t i) where
  mem := by simp
  obj := fun i h st b hb => by
    obtain ⟨⟨old, he⟩, ⟨o, ho, hc, hd⟩⟩ := st
    rcases (show b = e ∨ b = it by simpa using hb) with z | z
    · rw [z]
      exact ⟨_, he, fun v q => nomatch q⟩
    · rw [z]
      exact ⟨o, ho, fun v q => by rw [hd] at q; cases q⟩
  keep := fun i h h' st k => by
    obtain ⟨⟨old, he⟩, ⟨o, ho, r⟩⟩ := st
    exact ⟨⟨old, k e (by simp) _ he⟩, ⟨o, k it (by simp) _ ho, r⟩⟩
  item := by
    intro X hP hw hK hc i pins s σ H E I hf st hg
    subst hP hw hK
    obtain ⟨⟨old, he⟩, hit⟩ := st
    have hel : e < s.heap.objs.size := Heap.lt_size he
    have hil : it < s.heap.objs.size := by obtain ⟨_, q, _⟩ := hit; exact Heap.lt_size q
    refine wpAny_pyNext_enum_itemD (Draws.text (A := X.A.in1) (I.ok.hd hc) it x t) he hit hg hne (by simpa using hne) fun y h' tk hy ho hit' hT hsz hk => ?_
    obtain ⟨c, u, hcx, rfl⟩ := hy
    refine ⟨_, rfl, wpAny_letOwnedTupleGo_enum (s := { s with heap := h', toks := tk + 1 }) ho fun h'' he' sb => ?_⟩
    have hT2 : h''.get? s.heap.objs.size = some { cls := .type "tuple", data := .seq #[.int i tk, .str ⟨#[c]⟩ u] } := (sb.2 _ (Nat.ne_of_gt hel)).trans hT
    have new : ObjOk X.prog X.w (upd H s.heap.objs.size (.tup [.int (i : Nat), .str ⟨#[c]⟩])) h'' s.heap.objs.size (.tup [.int (i : Nat), .str ⟨#[c]⟩]) :=
      ⟨by show 2 ≤ sizeLine; decide, [.int i tk, .str ⟨#[c]⟩ u], .cons ⟨_, rfl⟩ (.cons ⟨_, rfl⟩ .nil), ⟨_, hT2, rfl, _, rfl⟩⟩
    have I1 : Inv X pins σ (upd H s.heap.objs.size (.tup [.int (i : Nat), .str ⟨#[c]⟩])) { s with heap := h'', toks := tk + 1 } :=
      I.turnedNew (ch := [e, it]) (fun b ob hb q => (sb.2 b (fun z => hb (by simp [z]))).trans (hk b ob (fun z => hb (by simp [z])) (fun z => hb (by simp [z])) q)) hf (Nat.le_refl _) new
    refine ⟨.ref s.heap.objs.size, _, I1, rfl, ⟨_, c, rfl, I.hok.fresh (Nat.le_refl _), rfl, hcx⟩, ⟨⟨Value.str ⟨#[c]⟩ u, ?_⟩, strIter_other hit' sb (Ne.symm hne)⟩, fun b hb => ?_⟩
    · have e1 : ((i + 1 : Nat) : Int) = (i : Int) + 1 := by omega
      rw [e1]
      exact he'
    · have hb' : b < s.heap.objs.size := by
        rcases (show b = e ∨ b = it by simpa using hb) with z | z
        · rw [z]; exact hel
        · rw [z]; exact hil
      rw [upd_ne (Nat.ne_of_lt hb')]
      exact (hf b hb).1
  done := by
    intro X hP hw hK hc i pins s σ H E I hf st hg
    subst hP hw hK
    obtain ⟨⟨old, he⟩, hit⟩ := st
    obtain ⟨f0, f1, f2, f3, f4, f5⟩ := hf it (by simp)
    have hi : i = x.cps.size := hg
    subst hi
    exact wpAny_pyNext_enum_endD (Draws.text (A := X.A.in1) (I.ok.hd hc) it x t) he hit fun h' eb => ⟨rfl, I.turned (t' := s.toks) (fun b o hb q => eb b o hb q) f0 f1 f3 f4 f5⟩
  self := fun A i s Q E st h => by
    obtain ⟨⟨_, he⟩, _⟩ := st
    exact wpAny_pyIter_enum he h
theorem turn_enumt {a : Addr} (e it : Addr) (hne : e ≠ it) (hae : a ≠ e) (hai : a ≠ it) :
    Turn P w K (.Tuple elts kk tpos) (Itet K a) [e, it] e (fun i h => (∃ old, IsEnum h e it ((i : Nat) : Int) old) ∧ h.IsTupleIter it a i) where
  mem := by simp
  obj := fun i h st b hb => by
    obtain ⟨⟨old, he⟩, ⟨o, ho, hc, hd⟩⟩ := st
    rcases (show b = e ∨ b = it by simpa using hb) with z | z
    · rw [z]
      exact ⟨_, he, fun v q => nomatch q⟩
    · rw [z]
      exact ⟨o, ho, fun v q => by rw [hd] at q; cases q⟩
  keep := fun i h h' st k => by
    obtain ⟨⟨old, he⟩, ⟨o, ho, r⟩⟩ := st
    exact ⟨⟨old, k e (by simp) _ he⟩, ⟨o, k it (by simp) _ ho, r⟩⟩
  item := by
    intro X hP hw hK hc i pins s σ H E I hf st hg
    subst hP hw hK
    obtain ⟨⟨old, he⟩, hit⟩ := st
    obtain ⟨xs, y, hq, hx⟩ := hg
    obtain ⟨its, rv, p, hz⟩ := I.tuple hq
    obtain ⟨u, hu, ru⟩ := rv.get hx
    have hel : e < s.heap.objs.size := Heap.lt_size he
    have hil : it < s.heap.objs.size := by obtain ⟨_, q, _⟩ := hit; exact Heap.lt_size q
    have hlt : i < its.toArray.size := by rw [List.size_toArray]; exact (List.getElem?_eq_some_iff.mp hu).1
    refine wpAny_pyNext_enum_itemD (St := fun i h => h.IsTupleIter it a i ∧ h.IsTuple a its.toArray) (Draws.tuple (A := X.A.in1) (I.ok.hd hc) it a hai its.toArray) he ⟨hit, p⟩ hlt hne (by simp [hne, Ne.symm hae]) fun y' h' tk hy ho hit' hT hsz hk => ?_
    have ey : y' = u := by
      have hy' : its.toArray[i]? = some y' := hy
      rw [List.getElem?_toArray, hu] at hy'
      exact (Option.some.inj hy').symm
    subst ey
    refine ⟨_, rfl, wpAny_letOwnedTupleGo_enum (s := { s with heap := h', toks := tk + 1 }) ho fun h'' he' sb => ?_⟩
    have hT2 : h''.get? s.heap.objs.size = some { cls := .type "tuple", data := .seq #[.int i tk, y'] } := (sb.2 _ (Nat.ne_of_gt hel)).trans hT
    have new : ObjOk X.prog X.w (upd H s.heap.objs.size (.tup [.int (i : Nat), y])) h'' s.heap.objs.size (.tup [.int (i : Nat), y]) :=
      ⟨by show 2 ≤ sizeLine; decide, [.int i tk, y'], .cons ⟨_, rfl⟩ (.cons ru .nil), ⟨_, hT2, rfl, _, rfl⟩⟩
    have I1 : Inv X pins σ (upd H s.heap.objs.size (.tup [.int (i : Nat), y])) { s with heap := h'', toks := tk + 1 } :=
      I.turnedNew (ch := [e, it]) (fun b ob hb q => (sb.2 b (fun z => hb (by simp [z]))).trans (hk b ob (fun z => hb (by simp [z])) (fun z => hb (by simp [z])) q)) hf (Nat.le_refl _) new
    refine ⟨.ref s.heap.objs.size, _, I1, rfl, ⟨_, y, rfl, I.hok.fresh (Nat.le_refl _), rfl, fun ys hy => by rw [I.tuple_inj hy hq]; exact hx⟩, ⟨⟨y', ?_⟩, ?_⟩, fun b hb => ?_⟩
    · have e1 : ((i + 1 : Nat) : Int) = (i : Int) + 1 := by omega
      rw [e1]
      exact he'
    · obtain ⟨o, ho2, r⟩ := hit'.1
      exact ⟨o, (sb.2 it (Ne.symm hne)).trans ho2, r⟩
    · have hb' : b < s.heap.objs.size := by
        rcases (show b = e ∨ b = it by simpa using hb) with z | z
        · rw [z]; exact hel
        · rw [z]; exact hil
      rw [upd_ne (Nat.ne_of_lt hb')]
      exact (hf b hb).1
  done := by
    intro X hP hw hK hc i pins s σ H E I hf st hg
    subst hP hw hK
    obtain ⟨⟨old, he⟩, hit⟩ := st
    obtain ⟨f0, f1, f2, f3, f4, f5⟩ := hf it (by simp)
    obtain ⟨xs, hq, hi⟩ := hg
    obtain ⟨its, rv, p, hz⟩ := I.tuple hq
    have hi2 : i = its.toArray.size := by rw [List.size_toArray, hi, rv.length]
    subst hi2
    exact wpAny_pyNext_enum_endD (St := fun i h => h.IsTupleIter it a i ∧ h.IsTuple a its.toArray) (Draws.tuple (A := X.A.in1) (I.ok.hd hc) it a hai its.toArray) he ⟨hit, p⟩ fun h' eb => ⟨rfl, I.turned (t' := s.toks) (fun b o hb q => eb b o hb q) f0 f1 f3 f4 f5⟩
  self := fun A i s Q E st h => by
    obtain ⟨⟨_, he⟩, _⟩ := st
    exact wpAny_pyIter_enum he h
end
def iEnumS (ta : TA) : TI := fun σ H R => ta σ H fun vs H1 => ∃ x, vs = [.str x] ∧ R (Ites x) H1
def iEnumT (K : PySem.W.Frag) (ta : TA) : TI := fun σ H R => ta σ H fun vs H1 => ∃ a xs, vs = [.ref a] ∧ SqT K H1 a xs ∧ R (Itet K a) H1
section
variable {X : Cx} {e : Expr} {ta : TA} {p pos tpos : Pos} {elts : List Expr} {kk : Nat}
theorem pi_enumS (hg : Gl X "enumerate") (hm : X.mg "enumerate" = none) (ha : PA X [e] ta) (hs : starEach [e] X.env = [(false, eval e X.env)] := by rfl) : PI X (.Tuple elts kk tpos) (.Call (.Name "enumerate" p) [e] [] pos) (iEnumS ta) := by
  refine ⟨fun pins s σ H R I h => ?_⟩
  refine Call_ (ld_blt I hg hm boot_enumerate (PyProof.Rows.callWith_type1 (thn (ha.run pos pins s σ H _ I h) fun us s1 ⟨vs, H1, I1, r1, x, ex, q⟩ => ?_) hs rfl))
  subst ex
  cases r1 with
  | @cons _ u _ _ r rr =>
    cases rr
    obtain ⟨t, rfl⟩ := r
    refine enum_any (begins_text x t) trivial fun h' he hit hk => wpAny_pyIter_enum he ?_
    have I2 : Inv X pins σ H1 { s1 with heap := h' } := I1.kept (t' := s1.toks) hk
    refine ⟨s1.heap.objs.size + 1, [s1.heap.objs.size + 1, s1.heap.objs.size], _, _, H1, rfl, I2, turn_enums (x := x) (t := t) _ _ (Nat.succ_ne_self _), ⟨⟨.none, he⟩, ⟨_, hit, rfl, rfl⟩⟩, fun b hb => ?_, q⟩
    have hle : s1.heap.objs.size ≤ b := by
      rcases (show b = s1.heap.objs.size + 1 ∨ b = s1.heap.objs.size by simpa using hb) with z | z
      · rw [z]; exact Nat.le_add_right _ _
      · rw [z]; exact Nat.le_refl _
    exact I1.fpOk hle (I1.hok.fresh hle)
theorem pi_enumT (hg : Gl X "enumerate") (hm : X.mg "enumerate" = none) (ha : PA X [e] ta) (hs : starEach [e] X.env = [(false, eval e X.env)] := by rfl) : PI X (.Tuple elts kk tpos) (.Call (.Name "enumerate" p) [e] [] pos) (iEnumT X.K ta) := by
  refine ⟨fun pins s σ H R I h => ?_⟩
  refine Call_ (ld_blt I hg hm boot_enumerate (PyProof.Rows.callWith_type1 (thn (ha.run pos pins s σ H _ I h) fun us s1 ⟨vs, H1, I1, r1, a, xs, ex, hq, q⟩ => ?_) hs rfl))
  subst ex
  cases r1 with
  | @cons _ u _ _ r rr =>
    cases rr
    obtain rfl : u = Value.ref a := r
    obtain ⟨its, rv, p', hz⟩ := I1.tuple hq
    have hal : a < s1.heap.objs.size := by obtain ⟨_, z, _⟩ := p'; exact Heap.lt_size z
    refine enum_any (begins_tuple a its.toArray) p' fun h' he hit hk => wpAny_pyIter_enum he ?_
    have I2 : Inv X pins σ H1 { s1 with heap := h' } := I1.kept (t' := s1.toks) hk
    refine ⟨s1.heap.objs.size + 1, [s1.heap.objs.size + 1, s1.heap.objs.size], _, _, H1, rfl, I2, turn_enumt (a := a) _ _ (Nat.succ_ne_self _) (Nat.ne_of_lt (Nat.lt_succ_of_lt hal)) (Nat.ne_of_lt hal), ⟨⟨.none, he⟩, ⟨_, hit, rfl, rfl⟩⟩, fun b hb => ?_, q⟩
    have hle : s1.heap.objs.size ≤ b := by
      rcases (show b = s1.heap.objs.size + 1 ∨ b = s1.heap.objs.size by simpa using hb) with z | z
      · rw [z]; exact Nat.le_add_right _ _
      · rw [z]; exact Nat.le_refl _
    exact I1.fpOk hle (I1.hok.fresh hle)
end
/-- enumerate in a for: an instance of Walk -/
theorem walk_enumS {x : Str} : Walk (Ites x) x.cps.size (fun _ => True) (fun i H v H' => ∃ (T : Addr) (c : Nat), v = .ref T ∧ H T = none ∧ H' = upd H T (.tup [.int (i : Nat), .str ⟨#[c]⟩]) ∧ x.cps[i]? = some c) :=
  ⟨fun i H hi _ => hi, fun H _ => rfl, fun i H v H' hi _ y => y⟩
theorem walk_enumT {K : PySem.W.Frag} {a : Addr} {xs : List V} : Walk (Itet K a) xs.length (fun H => SqT K H a xs) (fun i H v H' => ∃ (T : Addr) (y : V), v = .ref T ∧ H T = none ∧ H' = upd H T (.tup [.int (i : Nat), y]) ∧ xs[i]? = some y) :=
  ⟨fun i H hi g => ⟨xs, xs[i], g, List.getElem?_eq_getElem hi⟩, fun H g => ⟨xs, g, rfl⟩, fun i H v H' hi g ⟨T, y, e1, e2, e3, e4⟩ => ⟨T, y, e1, e2, e3, e4 xs g⟩⟩
theorem walk_zips {xs : List Str} {m : Nat} : Walk (Itzs xs m) m (fun _ => True) (fun i H x H' => ∃ (T : Addr) (cs : List Nat), x = .ref T ∧ H T = none ∧ H' = upd H T (.tup (cs.map fun c => V.str ⟨#[c]⟩)) ∧ cs.length = xs.length ∧ ∀ (k : Nat) (y : Str), xs[k]? = some y → ∃ c, y.cps[i]? = some c ∧ cs[k]? = some c) :=
  ⟨fun i H hi _ => hi, fun H _ => rfl, fun i H v H' hi _ y => y⟩
end TH
end
section
set_option Elab.async false
set_option maxRecDepth 100000
set_option maxHeartbeats 4000000
set_option linter.all false
namespace TH
open PySem PySem.Spec PyProof.Rows L2
section
open PySem.W
variable {prog : Program} {w : World} {M : Model} {A : Around} {E : Value → Shared → Prop} {s : Shared} {K : Frag} {x C D f : Addr} {ox : Obj} {od : Option Obj} {nm : String}
/-- the class at D, straight over object, knows nothing of the operator -/
structure NoOp (K : Frag) (D : Addr) (nm : String) : Prop where
  cls : ∃ cd, clsIn K D = some cd ∧ cd.mro = [.ref D, .type "object"]
  f1 : findIn K (.ref D) (PySem.dunder nm) = some none
  r1 : findIn K (.ref D) (dunderR nm) = some none
  f0 : findIn K (.type "object") (PySem.dunder nm) = some none
  r0 : findIn K (.type "object") (dunderR nm) = some none
theorem NoOp.fills {h : Heap} (N : NoOp K D nm) (X : K.In h) : Looks M h (fillsNumberSlot (.ref D) nm) false := by
  intro A Q E s k q
  obtain ⟨cd, hcd, hm⟩ := N.cls
  have X' : K.In s.heap := X.keeps k
  have L1 : Looks M s.heap (typeLookup (.ref D) (PySem.dunder nm)) none := looks_findIn X' N.f1
  have L2 : Looks M s.heap (typeLookup (.ref D) (dunderR nm)) none := looks_findIn X' N.r1
  have L3 : Looks M s.heap (typeLookup (.type "object") (PySem.dunder nm)) none := looks_findIn X' N.f0
  have L4 : Looks M s.heap (typeLookup (.type "object") (dunderR nm)) none := looks_findIn X' N.r0
  unfold fillsNumberSlot
  refine wpAny_bind ((looks_clsIn X' hcd).andThen (f := fun cd => pure cd.mro) .now A _ E s (fun _ _ e => e) ?_)
  rw [hm, List.anyM_cons]
  refine wpAny_bind ?_
  show wpAny M A (List.anyM _ [PySem.dunder nm, dunderR nm]) _ _ _
  rw [List.anyM_cons]
  refine wpAny_bind (wpAny_bind (L1.here (wpAny_pure ?_)))
  rw [if_neg Bool.false_ne_true, List.anyM_cons]
  refine wpAny_bind (wpAny_bind (L2.here (wpAny_pure ?_)))
  rw [if_neg Bool.false_ne_true, List.anyM_nil]
  refine wpAny_pure ?_
  rw [if_neg Bool.false_ne_true, List.anyM_cons]
  refine wpAny_bind (wpAny_bind (L3.here (wpAny_bind (L4.here (wpAny_pure ?_)))))
  show wpAny M A (if false = true then _ else _) _ _ _
  rw [if_neg Bool.false_ne_true, List.anyM_nil]
  exact wpAny_pure q
theorem binop_two {op : Operator} {b : Value} {Q : Value → Shared → Prop} (X : K.In s.heap) (I : InstAt s.heap x ox C od) (hb : Looks (model prog w) s.heap (typeOf b) (.ref D)) (hCD : C ≠ D) (hc : selfFirst K C = true) (N : NoOp K D op.info.2)
    (hs : findIn K (.ref C) (PySem.dunder op.info.2) = some (some (.ref f))) (hf : isFn K (.ref f) = true)
    (h : wpAny (model prog w) A (call (.ref f) [.ref x, b]) (PySem.W.CmpBack Q) E s) : wpAny (model prog w) A (binaryOp op (.ref x) b) Q E s := by
  obtain ⟨cd, rest, hcd, hm⟩ := ksp_first hc
  have hne : (Value.ref C == Value.ref D) = false := by simp [hCD]
  unfold binaryOp
  refine wpAny_holding (wpAny_bind ?_)
  unfold binaryOp1
  refine wpAny_bind (I.type.here (wpAny_bind (hb.here (wpAny_bind ((fills_K X hcd hm hs).here ?_)))))
  simp only [hne, Bool.false_eq_true, if_false]
  refine wpAny_bind ((N.fills X).here ?_)
  simp only [Bool.and_false, Bool.false_eq_true, if_false, Bool.false_and]
  refine wpAny_bind (wpAny_pure ?_)
  simp only [Bool.false_eq_true, if_false, if_true]
  refine wpAny_bind (m := tryMethod (.ref x) _ b) ?_
  unfold tryMethod
  refine wpAny_bind (special_fn X I hs (beq_iff_eq.mp hf) (wpAny_mono h (fun v s' hv => ?_) fun _ _ e => e))
  cases v <;> first | exact hv.elim | exact wpAny_pure (wpAny_pure (wpAny_pure hv))
end
/-- a op b: a an instance of C whose def for it is at g, b one of D -/
def rTwo (C D : Addr) (sp : Sp) (E : XK) : R2 := fun x y H Q => ∃ a dx fs b dy gs, x = .ref a ∧ y = .ref b ∧ H a = some (.ins C dx fs) ∧ H b = some (.ins D dy gs) ∧ sp [x, y] H Q E
/-- C(*e), the class by its name; c(*e), the class in a slot -/
def tMakeS (K : PySem.W.Frag) (C : Addr) (sp : Sp) (E : XK) (te : TE) : TE := fun σ H Q => te σ H fun y H1 => ∃ a xs, y = V.ref a ∧ (SqT K H1 a xs ∨ SqL K H1 a xs) ∧ ∀ x dx, H1 x = Option.none → H1 dx = Option.none → dx ≠ x →
  sp (V.ref x :: xs) (upd (upd H1 dx (.own x)) x (.ins C dx [])) (fun v H2 => v = .non ∧ Q (.ref x) H2) E
section
variable {X : Cx} {CX : CXT} {k : Nat} {f C : Addr} {sp : Sp} {E : XK} {x : Str} {e : Expr} {te tf : TE} {p spo pos : Pos}
theorem pe_makeS (M : Mk X.K C f) (F : FnR X.prog X.w X.K X.mg X.base CX k f sp) (hr : Room (k + 1) X.A) (hg : Gl X x) (hm : X.mg x = some (.ref C)) (hx : Passes CX X E) (he : PE X e te) (hdb : (x == ("__debug__" : Str)) = false := by decide)
    (hst : starEach [.Starred e spo] X.env = [(true, eval e X.env)] := by rfl) : PE X (.Call (.Name x p) [.Starred e spo] [] pos) (tMakeS X.K C sp E te) := by
  refine ⟨fun pins s σ H Q I h => ?_⟩
  refine wpAny_Call_Name_kw (ld_glob I hg hm ?_ hdb)
  refine PySem.W.callWith_S (h₀ := X.base) I.ok.mod.kin M.kp (thn (he.run pins s σ H _ I h) fun v s1 ⟨y, H1, I1, ry, a, xs, ey, hxs, q⟩ => ?_) hst
  subst ey
  obtain rfl : v = Value.ref a := ry
  exact StX.star_any I1 hxs fun us s2 I2 rv => ⟨I2.kIn, StX.run_makeR M F hr hx I2 rv q⟩
/-- the class is what the name of the def holds -/
theorem pe_makeSv (M : Mk X.K C f) (F : FnR X.prog X.w X.K X.mg X.base CX k f sp) (hr : Room (k + 1) X.A) (hf : PE X (.Name x p) tf) (hx : Passes CX X E) (he : PE X e te)
    (hst : starEach [.Starred e spo] X.env = [(true, eval e X.env)] := by rfl) : PE X (.Call (.Name x p) [.Starred e spo] [] pos) (fun σ H Q => tf σ H fun c H1 => c = .ref C ∧ tMakeS X.K C sp E te σ H1 Q) := by
  refine ⟨fun pins s σ H Q I h => ?_⟩
  refine wpAny_Call_Name_kw (thn (hf.run pins s σ H _ I h) fun u s0 ⟨c, H0, I0, rc, ec, h⟩ => ?_)
  subst ec
  obtain rfl : u = Value.ref C := rc
  refine PySem.W.callWith_S (h₀ := X.base) I.ok.mod.kin M.kp (thn (he.run pins s0 σ H0 _ I0 h) fun v s1 ⟨y, H1, I1, ry, a, xs, ey, hxs, q⟩ => ?_) hst
  subst ey
  obtain rfl : v = Value.ref a := ry
  exact StX.star_any I1 hxs fun us s2 I2 rv => ⟨I2.kIn, StX.run_makeR M F hr hx I2 rv q⟩
end
end TH
end
section
set_option Elab.async false
set_option maxRecDepth 100000
set_option maxHeartbeats 4000000
set_option linter.all false
namespace TH
open PySem PySem.Spec PyProof.Rows L2
theorem thnN {α : Type} {n : Nat} {t : Sem α} {Q Q' : α → Shared → Prop} {M : Model} {A : Around} {E : Value → Shared → Prop} {s : Shared} (hn : n ≤ s.toks) (h : wpAny M A t Q E s) (hQ : ∀ a s', n ≤ s'.toks → Q a s' → Q' a s') : wpAny M A t Q' E s :=
  wpAny_mono (wpAny_toks_of hn h) (fun a s' z => hQ a s' z.1 z.2) fun _ _ z => z.2
def PEn (n : Nat) (X : Cx) (e : Expr) (t : TE) : Prop :=
  ∀ (pins : List (Addr × Obj)) (s : Shared) (σ : L2.St) (H : Hp) (Q : VK), n ≤ s.toks → Inv X pins σ H s → t σ H Q → wpAny (model X.prog X.w) X.A (eval e X.env) (EP X pins σ Q) X.xe s
def PTn (n : Nat) (X : Cx) (e : Expr) (t : TT) : Prop :=
  ∀ (pins : List (Addr × Obj)) (s : Shared) (σ : L2.St) (H : Hp) (Q : Bool → Hp → Prop), n ≤ s.toks → Inv X pins σ H s → t σ H Q → wpAny (model X.prog X.w) X.A (isTrue e X.env (eval e X.env)) (TP X pins σ Q) X.xe s
def PWn (n : Nat) (X : Cx) (e : Expr) (t : TT) : Prop :=
  ∀ (whole : Sem Value) (pins : List (Addr × Obj)) (s : Shared) (σ : L2.St) (H : Hp) (Q : Bool → Hp → Prop), n ≤ s.toks → Inv X pins σ H s → t σ H Q → wpAny (model X.prog X.w) X.A (isTrue e X.env whole) (TP X pins σ Q) X.xe s
def PAn (n : Nat) (X : Cx) (es : List Expr) (t : TA) : Prop :=
  ∀ (pos : Pos) (pins : List (Addr × Obj)) (s : Shared) (σ : L2.St) (H : Hp) (Q : List V → Hp → Prop), n ≤ s.toks → Inv X pins σ H s → t σ H Q → wpAny (model X.prog X.w) X.A (spliced (backTo pos (starEach es X.env))) (AP X pins σ Q) X.xe s
def PSn (n : Nat) (X : Cx) (st : Stmt) (t : TS) : Prop :=
  ∀ (pins : List (Addr × Obj)) (s : Shared) (σ : L2.St) (H : Hp) (D : Ends), n ≤ s.toks → Inv X pins σ H s → t D σ H → wpAny (model X.prog X.w) X.A (exec st X.env) (SP X pins D) X.xe s
def PSsn (n : Nat) (X : Cx) (st : List Stmt) (t : TS) : Prop :=
  ∀ (pins : List (Addr × Obj)) (s : Shared) (σ : L2.St) (H : Hp) (D : Ends), n ≤ s.toks → Inv X pins σ H s → t D σ H → wpAny (model X.prog X.w) X.A (execs st X.env) (SP X pins D) X.xe s
def OpRn (n : Nat) (X : Cx) (f : Value → Value → Sem Value) (r : R2) : Prop :=
  ∀ (pins : List (Addr × Obj)) (s : Shared) (σ : L2.St) (H : Hp) (x y : V) (v u : Value) (Q : VK), n ≤ s.toks → Inv X pins σ H s → RelV x v → RelV y u → r x y H Q → wpAny (model X.prog X.w) X.A (f v u) (EP X pins σ Q) X.xe s
/-- a def called, its promise kept wherever n tokens are out -/
def FnRn (n : Nat) (P : Program) (w : World) (K : PySem.W.Frag) (mg : Str → Option Value) (base : Heap) (CX : CXT) (k : Nat) (f : Addr) (sp : Sp) : Prop :=
  ∀ (A : Around) (outer : List Env) (s : Shared) (H : Hp) (us : List Value) (vs : List V) (Q : VK) (E : XK), n ≤ s.toks → Room k A → Env0 P w K mg base A outer s H → Vals vs us → sp vs H Q E →
    codeAny (model P w) A (.call (.ref f) ⟨us, []⟩) (CR CX outer P w H s Q E) s
section
variable {X : Cx} {n : Nat}
theorem _root_.L2.PE.up {e : Expr} {t : TE} (h : PE X e t) : PEn n X e t := fun pins s σ H Q _ I q => h.run pins s σ H Q I q
theorem _root_.L2.PT.up {e : Expr} {t : TT} (h : PT X e t) : PTn n X e t := fun pins s σ H Q _ I q => h.run pins s σ H Q I q
theorem _root_.L2.PA.up {es : List Expr} {t : TA} (h : PA X es t) : PAn n X es t := fun pos pins s σ H Q _ I q => h.run pos pins s σ H Q I q
theorem _root_.L2.PS.up {st : Stmt} {t : TS} (h : PS X st t) : PSn n X st t := fun pins s σ H D _ I q => h.run pins s σ H D I q
theorem _root_.L2.PSs.up {st : List Stmt} {t : TS} (h : PSs X st t) : PSsn n X st t := fun pins s σ H D _ I q => h.run pins s σ H D I q
theorem PWn.pt {e : Expr} {t : TT} (h : PWn n X e t) : PTn n X e t := h _
theorem pssn_cons {st : Stmt} {rest : List Stmt} {t u : TS} (h1 : PSn n X st t) (h2 : PSsn n X rest u) : PSsn n X (st :: rest) (tSeq t u) := by
  intro pins s σ H D hn I h
  refine wpAny_execs_cons (thnN hn (h1 pins s σ H { D with nx := u D } hn I h) fun f s1 hn1 q => ?_)
  cases f with
  | next =>
    obtain ⟨σ1, H1, I1, q1⟩ := q
    exact h2 pins s1 σ1 H1 D hn1 I1 q1
  | ret v => exact q
  | brk => exact q
  | cont => exact q
theorem pssn_one {st : Stmt} {t : TS} (h1 : PSn n X st t) : PSsn n X [st] t := by
  intro pins s σ H D hn I h
  refine wpAny_execs_cons (thnN hn (h1 pins s σ H D hn I h) fun f s1 _ q => ?_)
  cases f with
  | next => exact wpAny_execs_nil q
  | ret v => exact q
  | brk => exact q
  | cont => exact q
theorem psn_ret {e : Expr} {te : TE} {pos : Pos} (he : PEn n X e te) : PSn n X (.Return (some e) pos) (tRet te) := fun pins s σ H D hn I h =>
  wpAny_Return_some (thn (he pins s σ H _ hn I h) fun _ _ ⟨x, H1, I1, r1, q1⟩ => ⟨x, σ, H1, I1, r1, q1⟩)
theorem psn_if {c : Expr} {a b : List Stmt} {tc : TT} {t u : TS} {pos : Pos} (hc : PTn n X c tc) (ha : PSsn n X a t) (hb : PSsn n X b u) : PSn n X (.If c a b pos) (tIfS tc t u) := by
  intro pins s σ H D hn I h
  refine wpAny_If (thnN hn (hc pins s σ H _ hn I h) fun d s1 hn1 ⟨H1, I1, q1⟩ => ?_)
  cases d with
  | true => exact ha pins s1 σ H1 D hn1 I1 q1
  | false => exact hb pins s1 σ H1 D hn1 I1 q1
theorem psn_set {i : Nat} {x : Str} {e : Expr} {te : TE} {pos pos' : Pos} (hN : X.N.Nodup) (hi : X.N[i]? = some x) (hx : Loc X.env.scope x) (he : PEn n X e te) (hs : swapsWith e (some (.Name x pos')) pos.line X.env = pure false := by rfl)
    (hf : X.fn x = true ∨ X.env.scope.names.lookup x = some .local := by first | exact .inl rfl | exact .inr rfl | assumption) : PSn n X (.Assign [.Name x pos'] e pos) (tAsg te (gName i)) := fun pins s σ H D hn I h =>
  wpAny_Assign_Name (thn (he pins s σ H _ hn I h) fun _ s1 ⟨y, H1, I1, r1, q1⟩ => store_ok I1 hN hi hx r1 (fun _ I2 => ⟨_, H1, I2, q1⟩) hf) hs
theorem pan_nil : PAn n X [] tNil := pa_nil.up
theorem pan_cons {e : Expr} {es : List Expr} {te : TE} {ta : TA} (he : PEn n X e te) (hr : PAn n X es ta) (hs : starEach (e :: es) X.env = (false, eval e X.env) :: starEach es X.env := by rfl) : PAn n X (e :: es) (tCons te ta) := by
  intro pos pins s σ H Q hn I h
  rw [hs]
  refine Calls.spliced_cons (thnN hn (he pins s σ H _ hn I h) fun v s1 hn1 ⟨x, H1, I1, r1, q1⟩ => ?_)
  exact thn (hr pos pins s1 σ H1 _ hn1 I1 q1) fun us s2 ⟨vs, H2, I2, r2, q2⟩ => ⟨x :: vs, H2, I2, .cons r1 r2, q2⟩
theorem run_fnRn {pins : List (Addr × Obj)} {σ : L2.St} {H : Hp} {s : Shared} {CX : CXT} {k : Nat} {f : Addr} {sp : Sp} {E : XK} {Q : VK} {us : List Value} {vs : List V} (hn : n ≤ s.toks) (F : FnRn n X.prog X.w X.K X.mg X.base CX k f sp) (hr : Room k X.A) (hx : Passes CX X E) (I : Inv X pins σ H s) (r : Vals vs us) (h : sp vs H Q E) :
    codeAny (model X.prog X.w) X.A (.call (.ref f) ⟨us, []⟩) (fun r s' => match r with | .ok (.ret v) => EP X pins σ Q v s' | .ok _ => False | .error e => X.xe e s') s := by
  refine codeAny_mono (F X.A X.stack s H us vs Q E hn hr I.env0 r h) fun r s' hq => ?_
  cases r with
  | error e => exact hx pins σ H s e s' I hq
  | ok fl =>
    cases fl with
    | ret u => exact I.after hq
    | next => exact False.elim hq
    | brk => exact False.elim hq
    | cont => exact False.elim hq
/-- x(e, ..), x a def of the module -/
def tCal (sp : Sp) (E : XK) (t : TA) : TE := fun σ H Q => t σ H fun vs H1 => sp vs H1 Q E
theorem pen_call {CX : CXT} {k : Nat} {f : Addr} {sp : Sp} {E : XK} {x : Str} {e : Expr} {es : List Expr} {t : TA} {p pos : Pos} (F : FnRn n X.prog X.w X.K X.mg X.base CX k f sp) (hr : Room k X.A) (hg : Gl X x) (hm : X.mg x = some (.ref f)) (hk : PySem.W.keepIn X.K (.ref f) = true) (hx : Passes CX X E)
    (ha : PAn n X (e :: es) t) (hdb : (x == ("__debug__" : Str)) = false := by decide) (he : starEach (e :: es) X.env = (false, eval e X.env) :: starEach es X.env := by rfl) (hpl : (backTo pos (starEach es X.env)).any (·.1) = false := by rfl) :
    PEn n X (.Call (.Name x p) (e :: es) [] pos) (tCal sp E t) := by
  intro pins s σ H Q hn I h
  refine wpAny_Call_Name_kw (ld_glob I hg hm ?_ hdb)
  exact PySem.W.callWith_K (h₀ := X.base) I.ok.mod.kin hk (thnN hn (ha pos pins s σ H _ hn I h) fun us s1 hn1 ⟨vs, H1, I1, r, q⟩ => ⟨I1.kIn, wpAny_call (run_fnRn hn1 F hr hx I1 r q)⟩) he hpl
theorem pen_callTy {T : String} {r : List V → Hp → VK → Prop} {x : Str} {e : Expr} {es : List Expr} {t : TA} {p pos : Pos} (hc : CallR X (.type T) r) (hg : Gl X x) (hm : X.mg x = none) (hv : bootBuiltins x = some (.type T)) (ha : PAn n X (e :: es) t) (hne : x ≠ "__name__" := by decide) (hdb : (x == ("__debug__" : Str)) = false := by decide)
    (he : starEach (e :: es) X.env = (false, eval e X.env) :: starEach es X.env := by rfl) (hpl : (backTo pos (starEach es X.env)).any (·.1) = false := by rfl) : PEn n X (.Call (.Name x p) (e :: es) [] pos) (tCB r t) := by
  intro pins s σ H Q hn I h
  refine wpAny_Call_Name_kw (ld_blt I hg hm hv ?_ hne hdb)
  exact PyProof.Rows.callWith_type1 (thn (ha pos pins s σ H _ hn I h) fun us s1 ⟨vs, H1, I1, r1, q1⟩ => hc pins s1 σ H1 vs us Q I1 r1 q1) he hpl
theorem pen_op {op : Operator} {r : R2} {a b : Expr} {ta tb : TE} {pos : Pos} (ho : OpRn n X (binaryOp op) r) (ha : PEn n X a ta) (hb : PEn n X b tb) : PEn n X (.BinOp a op b pos) (tOp r ta tb) := fun pins s σ H Q hn I h =>
  wpAny_BinOp (thnN hn (ha pins s σ H _ hn I h) fun v s1 hn1 ⟨x, H1, I1, rx, q1⟩ => thnN hn1 (hb pins s1 σ H1 _ hn1 I1 q1) fun u s2 hn2 ⟨y, H2, I2, ry, q2⟩ => ho pins s2 σ H2 x y v u Q hn2 I2 rx ry q2)
theorem ptn_cmpR {op : CmpOp} {r : R2} {a b : Expr} {ta tb : TE} {pos : Pos} (ho : OpR X (compareOp op) r) (ha : PEn n X a ta) (hb : PEn n X b tb) (hm : behindInMarks op b = false) : PTn n X (.Compare a [op] [b] pos) (tTest (tOp r ta tb)) := by
  intro pins s σ H Q hn I h
  refine wpAny_isTrue_Compare1 (thnN hn (ha pins s σ H _ hn I h) fun v s1 hn1 ⟨x, H1, I1, r1, q1⟩ => thn (hb pins s1 σ H1 _ hn1 I1 q1) fun u s2 ⟨y, H2, I2, r2, q2⟩ => thn (ho pins s2 σ H2 x y v u _ I2 r1 r2 q2) fun c s3 ⟨z, H3, I3, r3, k, e, q3⟩ => ?_) hm
  subst e
  cases r3
  exact wpAny_truthy_bool ⟨H3, I3, q3⟩
theorem ptn_val {e : Expr} {t : TE} (h : PEn n X e t) (he : ∀ whole, isTrue e X.env whole = (do let v ← whole; standAt e.pos; holding [v] (truthy v)) := by intro _; rfl) : PTn n X e (tB t) := by
  intro pins s σ H Q hn I hw
  rw [he]
  refine wpAny_bind (thn (h pins s σ H _ hn I hw) fun v s1 ⟨x, H1, I1, r1, c, e1, q1⟩ => ?_)
  subst e1
  cases r1
  exact wpAny_bind (wpAny_standAt (wpAny_holding (wpAny_truthy_bool ⟨H1, I1, q1⟩)))
end
/-- nothing raised: whatever is wished of what is raised -/
theorem pssn_nox {X : Cx} {n : Nat} {st : List Stmt} {t : TS} (h : PSsn n X.nox st t) : PSsn n X st t := fun pins s σ H D hn I q =>
  wpAny_mono (h pins s σ H D hn (I.wish _) q) (fun _ _ z => z.unwish) fun _ _ z => False.elim z
theorem fn_n {CX : CXT} {P : Program} {w : World} {K : PySem.W.Frag} {mg : Str → Option Value} {base : Heap} {n k : Nat} {f : Addr} {x qual : Str} {st : Stmt} {fd : FuncData} {N ps : List Str} {sp : Sp} (F : L2.Fun K x qual st f fd) (b : Binds K fd ps []) (S : FnScope N ps (defScope st)) (len : ∀ vs H Q E, sp vs H Q E → vs.length = ps.length)
    (hbody : ∀ (cdv : Value) (A : Around) (outer : List Env) (s : Shared) (H : Hp) (vs : List V) (Q : VK) (E : XK), Room k (A.deeper (envOfC qual (defScope st) s.heap.objs.size f cdv)) → sp vs H Q E →
      ∃ t, PSsn n (cxOf CX P w K mg base N qual (defScope st) f cdv A outer s H E).nox (defBody st) t ∧ t { nx := fun _ H' => Q .non H', rt := Q } (start N vs) H) : FnRn n P w K mg base CX (k + 1) f sp := by
  obtain ⟨oc, od, kV, doc, pm, an, cdv, ct, osl, rfl, lk, hcd⟩ := F.ex
  intro A outer s H us vs Q E hn hr e0 r hsp
  have hl : vs.length = ps.length := len vs H Q E hsp
  have KX : K.In s.heap := e0.mod.kin.keeps fun b o e => (e0.bs b o e).1
  have lim : s.heap.NoLimit := e0.mod.nolimit.keeps fun b o e => (e0.bs b o e).1
  have hkind : ∀ y ∈ ps.zip us, (defScope st).names.lookup y.1 = some .local ∨ ((defScope st).names.lookup y.1 = some .cell ∧ ((cellsFrom (s.heap.objs.size + 1) (defScope st).names []).lookup y.1).isSome = true) := fun ⟨m, v⟩ hy => by
    rcases S.par m (List.of_mem_zip hy).1 with q | q
    · exact .inl q
    · exact .inr ⟨q, PySem.W.cellsFrom_some _ _ _ (.inl q)⟩
  have hul : us.length = ps.length := by rw [← r.length]; exact hl
  have hb := b s us KX (by rw [List.append_nil]; exact hul)
  rw [List.append_nil] at hb
  refine codeAny_call_function hr.depth (KX _ _ lk) rfl S.co S.gen rfl (PySem.W.codeRec_of KX hcd) (hb _ _ _ _ ?_)
  refine wpAny_with_toks hn (wpAny_mono (wpAny_newFunctionEnv_cells (Q := fun env s1 => n ≤ s1.toks → _) S.kind hkind fun env he s1 x hn1 => ?_) (fun _ _ z => z) fun _ _ z _ => z)
  subst he
  refine ⟨lim.keeps x.toInCall.keep, codeAny_func ?_⟩
  obtain ⟨t, ht, hq⟩ := hbody cdv A outer s H vs Q E (hr.deeper _) hsp
  have I : Inv (cxOf CX P w K mg base N qual (defScope st) f cdv A outer s H E) [] (start N vs) H s1 := inv_start S hr.hd e0 hl r x
  refine wpAny_mono (pssn_nox ht [] s1 (start N vs) H _ hn1 I hq) (fun fl s' hs => ?_) fun e s' hs => hs
  have fin : ∀ {σ' : L2.St} {H' : Hp} {v : V} {u : Value}, Inv (cxOf CX P w K mg base N qual (defScope st) f cdv A outer s H E) [] σ' H' s' → RelV v u → Q v H' → CE outer P w H s Q u s' :=
    fun {σ' H' v u} J rv q => ⟨v, H', J.os, J.bare, J.base, J.hok, rv, q⟩
  cases fl with
  | ret u =>
    obtain ⟨v, σ', H', J, rv, q⟩ := hs
    exact fin J rv q
  | next =>
    obtain ⟨σ', H', J, q⟩ := hs
    exact fin (v := V.non) (u := Value.none) J rfl q
  | brk =>
    obtain ⟨_, _, _, q⟩ := hs
    exact False.elim q
  | cont =>
    obtain ⟨_, _, _, q⟩ := hs
    exact False.elim q
end TH
end
section
set_option Elab.async false
set_option maxRecDepth 100000
set_option maxHeartbeats 4000000
set_option linter.all false
namespace TH
open PySem PySem.Spec PyProof.Rows L2
section
variable {X : Cx} {n : Nat}
/-- what a turn leaves of the iterator's own objects -/
theorem turn_back {pins : List (Addr × Obj)} {fp : List Addr} {it : Addr} {tg : Expr} {J : It} {tn : Nat → Heap → Prop} {i : Nat} {h5 : Heap} {σ7 : L2.St} {H7 : Hp} {s7 : Shared} (T : Turn X.prog X.w X.K tg J fp it tn) (st5 : tn i h5)
    (I7 : Inv X (pins ++ pinsAt fp h5) σ7 H7 s7) : tn i s7.heap ∧ ∀ b ∈ fp, H7 b = none := by
  have key : ∀ b ∈ fp, ∀ o, h5.get? b = some o → s7.heap.get? b = some o ∧ H7 b = none := fun b hb o e => by
    obtain ⟨z1, z2, _⟩ := I7.pin (b, o) (List.mem_append_right _ (List.mem_append_right _ (mem_pinsAt hb e)))
    exact ⟨z1, z2⟩
  refine ⟨T.keep _ _ _ st5 fun b hb o e => (key b hb o e).1, fun b hb => ?_⟩
  obtain ⟨o, e, _⟩ := T.obj _ _ st5 b hb
  exact (key b hb o e).2
theorem psn_for {tg iter : Expr} {body : List Stmt} {wi : TI} {g : TG} {tb : TS} {pos : Pos} (hp : PassesOwn (model X.prog X.w) X.A X.env X.xe) (hc : X.calm = true) (hi : PI X tg iter wi) (hg : PG X tg g) (hb : PSsn n X body tb)
    (hs : ∀ x, foldedSetIterable iter X.env x = pure x := by intro _; rfl) : PSn n X (.For tg iter body [] pos) (tFor wi g tb) := by
  intro pins s σ H D hn I h
  refine wpAny_For (thnN hn (hi.run pins s σ H _ I h) fun v s1 hn1 h1 => thnN hn1 h1 fun itv s2 hn2 h2 => ?_) hs
  obtain ⟨it, fp, tn, J, H2, rfl, I2, T, st2, f2, W, ⟨m0, w0⟩, turn⟩ := h2
  refine codeAny_forLoop_any (fun m s' => n ≤ s'.toks ∧ ∃ i σ' H', Inv X pins σ' H' s' ∧ tn i s'.heap ∧ (∀ b ∈ fp, H' b = none) ∧ W i m σ' H') ?_ m0 ⟨hn2, 0, σ, H2, I2, st2, fun b hb => (f2 b hb).1, w0⟩
  rintro m s3 ⟨hn3, i, σ3, H3, I3, st3, fr3, w3⟩
  have ok3 : ∀ {H' : Hp}, (∀ b ∈ fp, H' b = none) → ∀ b ∈ fp, FpOk X pins H' b := fun z b hb => ⟨z b hb, (f2 b hb).2⟩
  rcases turn i m σ3 H3 w3 with ⟨stop, qn⟩ | ⟨go, N, hN, step⟩
  · refine wpAny_passesOwn hp (thn (T.done X rfl rfl rfl hc i pins s3 σ3 H3 X.xe I3 (ok3 fr3) st3 stop) fun r s4 hr => ?_)
    obtain ⟨rfl, I4⟩ := hr
    exact wpAny_execs_nil ⟨σ3, H3, I4, qn⟩
  · refine wpAny_passesOwn hp (thnN hn3 (T.item X rfl rfl rfl hc i pins s3 σ3 H3 X.xe I3 (ok3 fr3) st3 go) fun r s4 hn4 hr => ?_)
    obtain ⟨u, rfl, h4⟩ := hr
    refine wpAny_passesOwn hp (thnN hn4 h4 fun _ s5 hn5 ⟨x, H5, I5, r5, y5, st5, fr5⟩ => ?_)
    have J5 := I5.pinned (ok3 fr5) (T.obj _ _ st5)
    refine wpAny_passesOwn hp (thnN hn5 (hg.run _ s5 σ3 H5 x u _ J5 r5 (step x H5 y5)) fun _ s6 hn6 ⟨σ6, H6, I6, q6⟩ => ?_)
    refine wpAny_passesOwn hp (thnN hn6 (hb _ s6 σ6 H6 _ hn6 I6 q6) fun f s7 hn7 q7 => ?_)
    have more : ∀ {σ7 : L2.St} {H7 : Hp}, Inv X (pins ++ pinsAt fp s5.heap) σ7 H7 s7 → N σ7 H7 → ∃ m', m' < m ∧ (n ≤ s7.toks ∧ ∃ i σ' H', Inv X pins σ' H' s7 ∧ tn i s7.heap ∧ (∀ b ∈ fp, H' b = none) ∧ W i m' σ' H') := fun {σ7 H7} I7 z => by
      obtain ⟨m', hm, w7⟩ := hN σ7 H7 z
      obtain ⟨t1, t2⟩ := turn_back T st5 I7
      exact ⟨m', hm, hn7, i + 1, σ7, H7, I7.unpinned, t1, t2, w7⟩
    cases f with
    | next => obtain ⟨σ7, H7, I7, z⟩ := q7; exact more I7 z
    | cont => obtain ⟨σ7, H7, I7, z⟩ := q7; exact more I7 z
    | brk => obtain ⟨σ7, H7, I7, z⟩ := q7; exact ⟨σ7, H7, I7.unpinned, z⟩
    | ret v => obtain ⟨x7, σ7, H7, I7, r7, z⟩ := q7; exact ⟨x7, σ7, H7, I7.unpinned, r7, z⟩
/-- e.f, a property whose getter promises without tokens; e wants them -/
theorem pen_prop {CX : CXT} {k : Nat} {C p g : Addr} {f : Str} {fd : FuncData} {ps : List Str} {sp : Sp} {dvs : List V} {ds : List Value} {E : XK} {e : Expr} {pos : Pos} {ta : TE} (he : PEn n X e ta) (c : Cls X.K C) (hp : PropOf X.K C f p g)
    (F : FnOk X.prog X.w X.K X.mg X.base CX k g fd ps sp) (hr : Room (k + 1) X.A) (hb : Binds X.K fd ps ds) (hd : Vals dvs ds) (hx : Passes CX X.nox E) (hab : attributeBase e f X.env (eval e X.env) = eval e X.env) :
    PEn n X (.Attribute e f pos) (tProp C sp dvs E ta) := by
  intro pins s σ H Q hn I h
  refine attr_of hab (thn (he pins s σ H _ hn I h) fun u s1 ⟨x, H1, I1, rx, a, dx, fs, ex, ea, q⟩ => ?_)
  subst ex
  obtain rfl : u = Value.ref a := rx
  exact getprop_ok I1 ea c hp F hr hb hd hx q
theorem ptn_not {a : Expr} {tA : TT} {pos : Pos} (ha : PTn n X a tA) : PTn n X (.UnaryOp .Not a pos) (tNot tA) := fun pins s σ H Q hn I h => isTrue_not (ha pins s σ H (fun c H1 => Q (!c) H1) hn I h)
/-- where nothing may be raised -/
theorem thnFN {α : Type} {t : Sem α} {Q Q' : α → Shared → Prop} {M : Model} {A : Around} {E : Value → Shared → Prop} {s : Shared} (hn : n ≤ s.toks) (h : wpAny M A t Q (fun _ _ => False) s) (hQ : ∀ a s', n ≤ s'.toks → Q a s' → Q' a s') : wpAny M A t Q' E s :=
  wpAny_mono (wpAny_toks_of hn h) (fun a s' z => hQ a s' z.1 z.2) fun _ _ z => False.elim z.2
end
section
variable {X : Cx} {n : Nat} {pins : List (Addr × Obj)} {σ : L2.St}
/-- the loop's own context -/
abbrev blkE (X : Cx) (scope : Scope) (s : Shared) : Env := compEnvC scope (cellsFrom (s.heap.objs.size + 1) scope.names (cloFrom X.env.cells scope.names [])) s.heap.objs.size X.env
/-- the iterator's own objects, within the block: as they were, not tracked -/
theorem blk_fp {B : Cx} {fp : List Addr} (hx : ∀ b ∈ fp, b ∈ B.ex) (hp : B.pn = []) {σ' : L2.St} {H' : Hp} {s' : Shared} (J : Inv B [] σ' H' s') (z : ∀ b ∈ fp, H' b = none) : ∀ b ∈ fp, FpOk B [] H' b := fun b hb =>
  ⟨z b hb, (J.ok.exf b (hx b hb)).1, J.ok.exfs b (hx b hb), .inl (hx b hb), fun x c e => (J.ok.exf b (hx b hb)).2 x c e, fun p hp' => by
    rw [hp] at hp'
    cases hp'⟩
/-- a turn's end: the loop's word again -/
theorem blk_turn {B : Cx} {tg : Expr} {J : It} {fp : List Addr} {it : Addr} {tn : Nat → Heap → Prop} {i : Nat} {h7 : Heap} {vs : List Nat} {σ8 : L2.St} {H' : Hp} {s' : Shared} (T : Turn B.prog B.w B.K tg J fp it tn) (st : tn i h7)
    (w8 : wipe σ8 vs = wipe σ vs) (I' : Inv B ([] ++ pinsAt fp h7) σ8 H' s') : Inv B [] (wipe σ vs) H' s' ∧ tn i s'.heap ∧ ∀ b ∈ fp, H' b = none := by
  obtain ⟨t1, t2⟩ := turn_back T st I'
  refine ⟨(I'.unpinned (pins := [])).weak (by rw [← w8, wipe_length]) fun j v e => ?_, t1, t2⟩
  rw [← w8] at e
  exact (wipe_some e).1
/-- what a comprehension with `tYes` reads of its loop -/
abbrev LcW (g : TG) (te : TE) (vs : List Nat) (σ : L2.St) (J : It) (D : Addr) (W : Nat → Nat → Hp → Prop) (Qd : Hp → Prop) : Prop := ∀ i m H, W i m H →
  (J.stop i H ∧ Qd H) ∨ (J.go i H ∧ ∃ Nx : Hp → Prop, (∀ H', Nx H' → ∃ m', m' < m ∧ W (i + 1) m' H') ∧ ∀ x H', J.yld i H x H' → g x (wipe σ vs) H' fun σ2 H2 => wipe σ2 vs = wipe σ vs ∧ tYes σ2 H2 fun b H3 =>
    if b = true then te σ2 H3 fun y H4 => ∃ acc, H4 D = some (.lst acc) ∧ acc.length < sizeLine ∧ Nx (upd H4 D (.lst (acc ++ [y]))) else Nx H3)
/-- the loop of the block, in the block's own context B -/
theorem lcn_loop {B : Cx} {elt tg iter : Expr} {scope : Scope} {pos : Pos} {g : TG} {te : TE} {vs : List Nat} {J : It} {fp : List Addr} {it D : Addr} {tn : Nat → Heap → Prop} {W : Nat → Nat → Hp → Prop} {Qd : Hp → Prop} {R : Result → Shared → Prop} {H : Hp} {s : Shared} {m0 : Nat}
    (hx : ∀ b ∈ fp, b ∈ B.ex) (hpn : B.pn = []) (hxe : B.xe = fun _ _ => False) (hc : B.calm = true) (T : Turn B.prog B.w B.K tg J fp it tn) (pg : PG B tg g) (pe : PEn n B elt te) (turn : LcW g te vs σ J D W Qd)
    (fin : ∀ H' s', Inv B [] (wipe σ vs) H' s' → Qd H' → R (.ok .next) s') (hn : n ≤ s.toks) (I : Inv B [] (wipe σ vs) H s) (st : tn 0 s.heap) (hf : ∀ b ∈ fp, H b = none) (w0 : W 0 m0 H) :
    codeAny (model B.prog B.w) B.A (.compLoop (.ListComp elt [⟨tg, iter, [], 0⟩] scope pos) 0 (.ref it) (.ref D) B.env) R s := by
  refine compLoop_any (fun m t => n ≤ t.toks ∧ ∃ i H', Inv B [] (wipe σ vs) H' t ∧ tn i t.heap ∧ (∀ b ∈ fp, H' b = none) ∧ W i m H') ?_ m0 ⟨hn, 0, H, I, st, hf, w0⟩
  rintro m t ⟨hm, i, H1, I1, st1, f1, w1⟩
  rcases turn i m H1 w1 with ⟨stop, qd⟩ | ⟨go, Nx, hNx, step⟩
  · refine thnFN hm (T.done B rfl rfl rfl hc i [] t _ H1 (fun _ _ => False) I1 (blk_fp hx hpn I1 f1) st1 stop) fun r t2 _ ⟨e, I2⟩ => ?_
    rw [e]
    exact fin H1 t2 I2 qd
  · refine thnFN hm (T.item B rfl rfl rfl hc i [] t _ H1 (fun _ _ => False) I1 (blk_fp hx hpn I1 f1) st1 go) fun r t2 hm2 ⟨u, e, more⟩ => ?_
    rw [e]
    refine thnFN hm2 more fun _ t3 hm3 ⟨x, H3, I3, rx, y3, st3, f3⟩ => ?_
    have pinned := I3.pinned (blk_fp hx hpn I3 f3) (T.obj _ _ st3)
    have h4 := pg.run _ t3 _ H3 x u _ pinned rx (step x H3 y3)
    rw [hxe] at h4
    refine thnFN hm3 h4 fun _ t4 hm4 ⟨σ4, H4, I4, w4, q4⟩ => ?_
    refine wpAny_tests_nil ?_
    have h5 := pe _ t4 σ4 H4 _ hm4 I4 (show te σ4 H4 _ from q4)
    rw [hxe] at h5
    show if true = true then _ else _
    rw [if_pos rfl]
    refine thnFN hm4 h5 fun z t5 hm5 ⟨yv, H5, I5, r5, acc, hD, hz, nx⟩ => ?_
    refine thnFN hm5 (app_ok (X := B) (E := fun _ _ => False) (Q := fun _ t6 => ∃ H6, Inv B _ σ4 H6 t6 ∧ Nx H6) I5 hD hz r5 fun t6 I6 => ⟨_, I6, nx⟩) fun _ t6 hm6 ⟨H6, I6, nx6⟩ => ?_
    obtain ⟨m', lt, w6⟩ := hNx H6 nx6
    obtain ⟨k1, k2, k3⟩ := blk_turn T st3 w4 I6
    exact ⟨m', lt, hm6, i + 1, H6, k1, k2, k3, w6⟩
theorem lcn_core {s : Shared} {H : Hp} {Q : VK} {elt tg iter : Expr} {scope : Scope} {own : List (Str × Nat)} {pos pos' : Pos} {wi : TI} {g : TG} {te : TE} {use : Option (Value → Sem Unit)} {Qf : Value → Shared → Prop}
    (hc : X.calm = true) (hN : X.N.Nodup) (hn : n ≤ s.toks) (I : Inv X pins σ H s) (hi : PI X tg iter wi) (ok : BlkOk X.N X.env.scope scope own)
    (hg : ∀ (s : Shared) (H : Hp) (C : Addr) (cl : List (Str × Addr)) (fp : List Addr), PG (X.blk s H scope (compEnvC scope cl C X.env) fp) tg g)
    (he : ∀ (s : Shared) (H : Hp) (C : Addr) (cl : List (Str × Addr)) (fp : List Addr), PEn n (X.blk s H scope (compEnvC scope cl C X.env) fp) elt te) (hs : ∀ x, foldedSetIterable iter X.env x = pure x)
    (h : tLc wi g tYes te (own.map (·.2)) σ H Q)
    (hRR : ∀ D C s' m H', Inv X pins σ H' s' → Q (.ref D) H' → s'.heap.Ns C m → FpOk X pins H' C → compPost (model X.prog X.w) X.A X.xe use Qf (.ref D) C (.ok .next) s') :
    wpAny (model X.prog X.w) X.A (comprehension (.ListComp elt [⟨tg, iter, [], 0⟩] scope pos) scope X.env pos' (newList []) false (eval iter X.env) use) Qf X.xe s := by
  have known : ∀ y ∈ scope.names, y.2 = .free → ∃ c, X.env.cells.lookup y.1 = some c := fun y hy e => (ok.free y hy e).elim (fun k => I.ok.has _ (.inl k)) fun k => I.ok.has _ (.inr k)
  refine wpAny_comprehension_free (use := use) rfl hs (closure_ok known) ok.kind (fun y hy e => by rw [ok.uniq y hy, e]) ?_
  refine thnN hn (hi.run pins s σ H _ I h) fun xv s1 hn1 hx => thnN hn1 hx fun itv s2 hn2 h2 => ?_
  obtain ⟨it, fp, tn, J, H2, rfl, I2, T, st2, f2, q⟩ := h2
  refine wpAny_newObj_type (newEnv_comp ?_) (by show 0 ≤ sizeLine; decide)
  have free2 : H2 s2.heap.objs.size = none := I2.hok.fresh (Nat.le_refl _)
  have below : ∀ b ∈ fp, b < s2.heap.objs.size := fun b hb => by
    obtain ⟨o, e, _⟩ := T.obj _ _ st2 b hb
    exact Heap.lt_size e
  have laid3 : Inv X pins σ (upd H2 s2.heap.objs.size (.lst [])) { s2 with heap := s2.heap.push { cls := .type "list", data := .seq ([] : List Value).toArray } } :=
    I2.laid (t' := s2.toks) (fun b o e => Heap.get?_push_of_some _ e) (Nat.le_refl _) ⟨Nat.zero_le _, [], 0, .nil, Heap.get?_push_size _ rfl⟩
  have st3 : tn 0 (s2.heap.push { cls := .type "list", data := .seq ([] : List Value).toArray }) := T.keep _ _ _ st2 fun b _ o e => Heap.get?_push_of_some _ e
  obtain ⟨W, ⟨m0, w0⟩, turn⟩ := q _ free2
  generalize hD : s2.heap.objs.size = D at free2 below laid3 turn w0 ⊢
  generalize hH3 : upd H2 D (.lst []) = H3 at laid3 w0
  have f3 : ∀ b ∈ fp, FpOk X pins H3 b ∧ b < ({ s2 with heap := s2.heap.push { cls := .type "list", data := .seq ([] : List Value).toArray } } : Shared).heap.objs.size := fun b hb => by
    have lt := below b hb
    refine ⟨⟨?_, (f2 b hb).2⟩, ?_⟩
    · rw [← hH3, upd_ne (Nat.ne_of_lt lt)]
      exact (f2 b hb).1
    · show b < (s2.heap.push _).objs.size
      rw [Heap.size_push, hD]
      exact Nat.lt_succ_of_lt lt
  generalize hs3 : ({ s2 with heap := s2.heap.push { cls := .type "list", data := .seq ([] : List Value).toArray } } : Shared) = s3 at laid3 f3
  have h3 : s2.heap.push { cls := .type "list", data := .seq ([] : List Value).toArray } = s3.heap := by rw [← hs3]
  have hn3 : n ≤ s3.toks := by rw [← hs3]; exact hn2
  rw [h3] at st3
  have I4 := block_start laid3 ok hN f3
  have st4 : tn 0 (pushCells (s3.heap.push { cls := .type "dict", data := .dict #[] }) scope.names) := T.keep _ _ _ st3 fun b _ o e => pushCells_keeps _ _ _ _ (Heap.get?_push_of_some _ e)
  show codeAny _ _ (.compStart (.ListComp elt [⟨tg, iter, [], 0⟩] scope pos) 0 (.ref it) (.ref D) (blkE X scope s3)) (compPost (model X.prog X.w) X.A X.xe use Qf (.ref D) s3.heap.objs.size) { s3 with heap := pushCells (s3.heap.push { cls := .type "dict", data := .dict #[] }) scope.names }
  have loop : codeAny (model X.prog X.w) X.A (.compLoop (.ListComp elt [⟨tg, iter, [], 0⟩] scope pos) 0 (.ref it) (.ref D) (blkE X scope s3)) (compPost (model X.prog X.w) X.A X.xe use Qf (.ref D) s3.heap.objs.size) { s3 with heap := pushCells (s3.heap.push { cls := .type "dict", data := .dict #[] }) scope.names } := by
    refine lcn_loop (B := X.blk s3 H3 scope (blkE X scope s3) fp) (n := n) (J := J) (Qd := Q (.ref D)) (W := W) (vs := own.map (·.2)) (σ := σ) (fun b hb => hb) rfl rfl hc T (hg _ _ _ _ _) (he _ _ _ _ _) turn ?_ hn3 I4 st4 (fun b hb => (f3 b hb).1.1) w0
    intro H' s' J' qd
    have back : Inv X pins σ H' s' := laid3.call' (ch := fp) J'.os J'.base J'.hok J'.bare fun b hb => ⟨(f3 b hb).1.2.2.2.1, (f3 b hb).1.2.1, (f3 b hb).1.2.2.2.2.1, (f3 b hb).1.2.2.2.2.2⟩
    obtain ⟨m, hm, _⟩ := J'.loc
    exact hRR D s3.heap.objs.size s' m H' back qd hm (laid3.fpOk (Nat.le_refl _) J'.free)
  exact codeAny_compStart_list loop (T.self X.A 0 _ _ _ st4 loop)
/-- [e for x in xs], e wants n tokens out -/
theorem pen_lc {elt tg iter : Expr} {scope : Scope} {own : List (Str × Nat)} {pos : Pos} {wi : TI} {g : TG} {te : TE} (hc : X.calm = true) (hN : X.N.Nodup) (hi : PI X tg iter wi) (ok : BlkOk X.N X.env.scope scope own)
    (hg : ∀ (s : Shared) (H : Hp) (C : Addr) (cl : List (Str × Addr)) (fp : List Addr), PG (X.blk s H scope (compEnvC scope cl C X.env) fp) tg g)
    (he : ∀ (s : Shared) (H : Hp) (C : Addr) (cl : List (Str × Addr)) (fp : List Addr), PEn n (X.blk s H scope (compEnvC scope cl C X.env) fp) elt te) (hs : ∀ x, foldedSetIterable iter X.env x = pure x := by intro _; rfl) :
    PEn n X (.ListComp elt [⟨tg, iter, [], 0⟩] scope pos) (tLc wi g tYes te (own.map (·.2))) := by
  intro pins s σ H Q hn I h
  rw [eval_ListComp]
  refine lcn_core hc hN hn I hi ok hg he hs h fun D C s' m H' I' q hns f => ⟨m, hns, fun h2 sb => ?_⟩
  obtain ⟨a0, a1, _, a3, a4, a5⟩ := f
  exact ⟨.ref D, H', I'.turned (t' := s'.toks) (fun b o hb e => (sb.2 b hb).trans e) a0 a1 a3 a4 a5, rfl, q⟩
/-- y = [e for x in xs] on one line, y a local -/
theorem psn_setLc {i : Nat} {y : Str} {py : Pos} {elt tg iter : Expr} {scope : Scope} {own : List (Str × Nat)} {pos spos : Pos} {wi : TI} {g : TG} {te : TE} (hc : X.calm = true) (hN : X.N.Nodup) (hy : X.N[i]? = some y) (hyl : X.env.scope.names.lookup y = some .local)
    (hsw : swapsWith (.ListComp elt [⟨tg, iter, [], 0⟩] scope pos) (some (.Name y py)) spos.line X.env = pure true) (hi : PI X tg iter wi) (ok : BlkOk X.N X.env.scope scope own)
    (hg : ∀ (s : Shared) (H : Hp) (C : Addr) (cl : List (Str × Addr)) (fp : List Addr), PG (X.blk s H scope (compEnvC scope cl C X.env) fp) tg g)
    (he : ∀ (s : Shared) (H : Hp) (C : Addr) (cl : List (Str × Addr)) (fp : List Addr), PEn n (X.blk s H scope (compEnvC scope cl C X.env) fp) elt te) (hs : ∀ x, foldedSetIterable iter X.env x = pure x := by intro _; rfl) :
    PSn n X (.Assign [.Name y py] (.ListComp elt [⟨tg, iter, [], 0⟩] scope pos) spos) (tAsg (tLc wi g tYes te (own.map (·.2))) (gName i)) := by
  intro pins s σ H D hn I h
  rw [exec_Assign_Name_used _ _ _ _ hsw]
  refine wpAny_bind (wpAny_standAt (wpAny_bind ?_))
  show wpAny _ X.A (do let _ ← comprehension (.ListComp elt [⟨tg, iter, [], 0⟩] scope pos) scope X.env (firstIterPos [⟨tg, iter, [], 0⟩] pos) (newList []) false (eval iter X.env) (some (assign (.Name y py) X.env))) _ _ s
  have h' : tLc wi g tYes te (own.map (·.2)) σ H (fun x H1 => gName i x σ H1 D.nx) := h
  refine wpAny_bind (thn (lcn_core (Qf := fun _ s' => SP X pins D .next s') hc hN hn I hi ok hg he hs h' fun L C s' m H' I' q hns f => ?_) fun _ s' hq => wpAny_pure (wpAny_pure hq))
  show wpAny _ _ (assign (.Name y py) X.env (.ref L)) _ _ _
  refine wpAny_assign_Name (store_ok2 (v := V.ref L) I' hN hy (.inl hyl) rfl (fun s2 I2 ⟨a, sb, ha⟩ => ?_) (.inr hyl))
  obtain ⟨a0, a1, _, a3, a4, a5⟩ := f
  have haC : C ≠ a := ha.elim (fun z => by rw [z]; exact a1) fun z e => a4 y a z e.symm
  exact ⟨m, hns.sameBut sb haC, fun h3 sb3 => ⟨_, H', I2.turned (t' := s2.toks) (fun b o hb e => (sb3.2 b hb).trans e) a0 a1 a3 a4 a5, q⟩⟩
end
end TH
end
section
set_option maxHeartbeats 4000000
set_option linter.all false
namespace TM
/-- is it a tilt along rows -/
def isH (c : Nat) : Bool := c == 108 || c == 114
end TM
end
section
set_option maxHeartbeats 4000000
set_option linter.all false
namespace TM
def mb (l : List Nat) : List Nat := l.filter fun c => c != 46
def dots (n : Nat) : List Nat := List.replicate n 46
def sl (s : Bool) (l : List Nat) : List Nat := if s then mb l ++ dots (l.length - (mb l).length) else dots (l.length - (mb l).length) ++ mb l
theorem mb_le (l : List Nat) : (mb l).length ≤ l.length := List.length_filter_le _ _
theorem mb_dots (n : Nat) : mb (dots n) = [] := by
  unfold mb dots
  rw [List.filter_eq_nil_iff]
  intro a ha
  rw [(List.mem_replicate.mp ha).2]
  decide
theorem mb_app (a b : List Nat) : mb (a ++ b) = mb a ++ mb b := List.filter_append ..
theorem mb_mb (l : List Nat) : mb (mb l) = mb l := by unfold mb; rw [List.filter_filter]; simp
theorem sl_len (s : Bool) (l : List Nat) : (sl s l).length = l.length := by
  have := mb_le l
  cases s <;> simp [sl, dots] <;> omega
theorem mb_sl (s : Bool) (l : List Nat) : mb (sl s l) = mb l := by
  cases s <;> simp [sl, mb_app, mb_dots, mb_mb]
theorem sl_sl (s s' : Bool) (l : List Nat) : sl s (sl s' l) = sl s l := by
  have h := sl_len s' l
  have h2 := mb_sl s' l
  unfold sl at h h2 ⊢
  rw [h, h2]
/-- where a slid line is empty -/
theorem sl_at (s : Bool) (l : List Nat) (j : Nat) (hj : j < l.length) : ((sl s l).getD j 46 = 46) ↔ (if s then (mb l).length ≤ j else j < l.length - (mb l).length) := by
  have hm : ∀ c ∈ mb l, c ≠ 46 := fun c hc => by
    have := (List.mem_filter.mp hc).2
    simpa using this
  have hle := mb_le l
  rw [List.getD_eq_getElem?_getD]
  cases s with
  | true =>
    simp only [sl, if_true]
    by_cases h : j < (mb l).length
    · rw [List.getElem?_append_left h, List.getElem?_eq_getElem h]
      have := hm _ (List.getElem_mem h)
      constructor
      · intro e
        exact absurd e this
      · intro e
        omega
    · rw [List.getElem?_append_right (by omega)]
      unfold dots
      rw [List.getElem?_replicate]
      constructor
      · intro _
        omega
      · intro _
        split <;> rfl
  | false =>
    simp only [sl, Bool.false_eq_true, if_false]
    by_cases h : j < l.length - (mb l).length
    · rw [List.getElem?_append_left (by simp [dots]; omega)]
      unfold dots
      rw [List.getElem?_replicate, if_pos h]
      exact ⟨fun _ => h, fun _ => rfl⟩
    · have hk : j - (l.length - (mb l).length) < (mb l).length := by omega
      rw [List.getElem?_append_right (by simp [dots]; omega)]
      have e : (dots (l.length - (mb l).length)).length = l.length - (mb l).length := by simp [dots]
      rw [e, List.getElem?_eq_getElem hk]
      have := hm _ (List.getElem_mem hk)
      exact ⟨fun q => absurd q this, fun q => absurd q h⟩
/-- pushed to one end -/
def Ju (s : Bool) (l : List Nat) : Prop := ∀ j, j + 1 < l.length → if s then l.getD j 46 = 46 → l.getD (j + 1) 46 = 46 else l.getD (j + 1) 46 = 46 → l.getD j 46 = 46
theorem all_dots : ∀ {l : List Nat}, (∀ j, j + 1 < l.length → l.getD j 46 = 46 → l.getD (j + 1) 46 = 46) → l.getD 0 46 = 46 → l = dots l.length
  | [], _, _ => rfl
  | [a], _, h0 => by
    have : a = 46 := h0
    subst this
    rfl
  | a :: b :: r, h, h0 => by
    have ha : a = 46 := h0
    have hb : b = 46 := h 0 (by simp) h0
    have z := all_dots (l := b :: r) (fun j hj q => h (j + 1) (by simp at hj ⊢; omega) q) hb
    subst ha
    rw [z]
    simp [dots, List.replicate_succ]
theorem ju_left : ∀ {l : List Nat}, Ju true l → sl true l = l
  | [], _ => rfl
  | a :: r, h => by
    have h' : ∀ j, j + 1 < (a :: r).length → (a :: r).getD j 46 = 46 → (a :: r).getD (j + 1) 46 = 46 := fun j hj => by simpa using h j hj
    by_cases e : a = 46
    · have z := all_dots h' (show a = 46 from e)
      rw [z]
      simp only [sl, if_true, mb_dots]
      simp [dots]
    · have z := ju_left (l := r) fun j hj => by
        have q := h' (j + 1) (by simp at hj ⊢; omega)
        simpa using q
      simp only [sl, if_true] at z ⊢
      have em : mb (a :: r) = a :: mb r := by simp [mb, List.filter_cons, e]
      have el : (a :: r).length - (mb (a :: r)).length = r.length - (mb r).length := by rw [em]; simp
      rw [el, em, List.cons_append, z]
theorem ju_rev {l : List Nat} (h : Ju false l) : Ju true l.reverse := fun j hj => by
  have hj' : j + 1 < l.length := by simpa using hj
  have z := h (l.length - 1 - (j + 1)) (by omega)
  simp only [if_true]
  simp only [Bool.false_eq_true, if_false] at z
  have e : l.length - 1 - (j + 1) + 1 = l.length - 1 - j := by omega
  rw [e] at z
  rw [List.getD_eq_getElem?_getD, List.getElem?_reverse (by omega), List.getD_eq_getElem?_getD, List.getElem?_reverse (by omega)]
  rw [List.getD_eq_getElem?_getD, List.getD_eq_getElem?_getD] at z
  exact z
theorem sl_rev (l : List Nat) : sl false l = (sl true l.reverse).reverse := by
  have e : mb l.reverse = (mb l).reverse := by unfold mb; rw [List.filter_reverse]
  simp [sl, e, dots]
theorem ju_sl {s : Bool} {l : List Nat} (h : Ju s l) : sl s l = l := by
  cases s with
  | true => exact ju_left h
  | false => rw [sl_rev, ju_left (ju_rev h), List.reverse_reverse]
theorem sl_ju (s : Bool) (l : List Nat) : Ju s (sl s l) := fun j hj => by
  rw [sl_len] at hj
  have h1 := sl_at s l j (by omega)
  have h2 := sl_at s l (j + 1) hj
  cases s with
  | true =>
    simp only [if_true] at h1 h2 ⊢
    rw [h1, h2]
    omega
  | false =>
    simp only [Bool.false_eq_true, if_false] at h1 h2 ⊢
    rw [h1, h2]
    omega
abbrev Grid := List (List Nat)
def tr (m : Nat) (g : Grid) : Grid := (List.range m).map fun j => g.map fun r => r.getD j 46
def Rect (n m : Nat) (g : Grid) : Prop := g.length = n ∧ ∀ r ∈ g, r.length = m
theorem tr_rect {n m : Nat} {g : Grid} (h : Rect n m g) : Rect m n (tr m g) := by
  refine ⟨by simp [tr], fun r hr => ?_⟩
  obtain ⟨j, _, rfl⟩ := List.mem_map.mp hr
  simp [h.1]
theorem tr_get {m j : Nat} {g : Grid} (hj : j < m) : (tr m g)[j]? = some (g.map fun r => r.getD j 46) := by
  unfold tr
  rw [List.getElem?_map, List.getElem?_range hj]
  rfl
theorem tr_tr {n m : Nat} {g : Grid} (h : Rect n m g) : tr n (tr m g) = g := by
  refine List.ext_getElem? fun i => ?_
  by_cases hi : i < n
  · rw [tr_get hi]
    have hi' : i < g.length := by rw [h.1]; exact hi
    rw [List.getElem?_eq_getElem hi']
    congr 1
    have hl : g[i].length = m := h.2 _ (List.getElem_mem hi')
    refine List.ext_getElem? fun j => ?_
    rw [List.getElem?_map]
    by_cases hj : j < m
    · rw [tr_get hj]
      show some ((g.map fun r => r.getD j 46).getD i 46) = _
      rw [List.getD_eq_getElem?_getD, List.getElem?_map, List.getElem?_eq_getElem hi']
      show some (g[i].getD j 46) = _
      rw [List.getD_eq_getElem?_getD, List.getElem?_eq_getElem (by omega)]
      rfl
    · rw [List.getElem?_eq_none (by rw [(tr_rect h).1]; omega), List.getElem?_eq_none (by omega)]
      rfl
  · rw [List.getElem?_eq_none (by rw [(tr_rect (tr_rect h)).1]; omega), List.getElem?_eq_none (by rw [h.1]; omega)]
def LT (s : Bool) (g : Grid) : Grid := g.map (sl s)
def UT (s : Bool) (n m : Nat) (g : Grid) : Grid := tr n (LT s (tr m g))
theorem lt_rect {s : Bool} {n m : Nat} {g : Grid} (h : Rect n m g) : Rect n m (LT s g) := by
  refine ⟨by simp [LT, h.1], fun r hr => ?_⟩
  obtain ⟨q, hq, rfl⟩ := List.mem_map.mp hr
  rw [sl_len]
  exact h.2 q hq
theorem ut_rect {s : Bool} {n m : Nat} {g : Grid} (h : Rect n m g) : Rect n m (UT s n m g) := tr_rect (lt_rect (tr_rect h))
theorem lt_lt (a b : Bool) (g : Grid) : LT b (LT a g) = LT b g := by
  unfold LT
  rw [List.map_map]
  refine List.map_congr_left fun r _ => ?_
  exact sl_sl b a r
theorem ut_ut {a b : Bool} {n m : Nat} {g : Grid} (h : Rect n m g) : UT b n m (UT a n m g) = UT b n m g := by
  unfold UT
  rw [tr_tr (lt_rect (tr_rect h)), lt_lt]
/-- the core: a tray pushed to one side stays pushed to it when it is tilted along the other axis -/
theorem lul {a o : Bool} {n m : Nat} {g : Grid} (h : Rect n m g) : LT a (UT o n m (LT a g)) = UT o n m (LT a g) := by
  have hy := lt_rect (s := a) h
  generalize ey : LT a g = y at hy
  have hju : ∀ r ∈ y, Ju a r := fun r hr => by
    rw [← ey] at hr
    obtain ⟨q, _, rfl⟩ := List.mem_map.mp hr
    exact sl_ju a q
  have hz := ut_rect (s := o) hy
  suffices H : ∀ r ∈ UT o n m y, Ju a r by
    unfold LT
    conv => rhs; rw [← List.map_id (UT o n m y)]
    exact List.map_congr_left fun r hr => ju_sl (H r hr)
  intro r hr
  obtain ⟨i, hi, rfl⟩ := List.mem_map.mp hr
  have hi' := List.mem_range.mp hi
  have cnt : ∀ j, j + 1 < m → if a then (mb (y.map fun r => r.getD (j + 1) 46)).length ≤ (mb (y.map fun r => r.getD j 46)).length else (mb (y.map fun r => r.getD j 46)).length ≤ (mb (y.map fun r => r.getD (j + 1) 46)).length := by
    intro j hj
    have key : ∀ (z : Grid), (∀ r ∈ z, r.length = m ∧ Ju a r) → if a then (mb (z.map fun r => r.getD (j + 1) 46)).length ≤ (mb (z.map fun r => r.getD j 46)).length else (mb (z.map fun r => r.getD j 46)).length ≤ (mb (z.map fun r => r.getD (j + 1) 46)).length := by
      intro z
      induction z with
      | nil => intro _; cases a <;> simp [mb]
      | cons r z ih =>
        intro hz
        have q1 := ih fun r' hr' => hz r' (List.mem_cons_of_mem _ hr')
        obtain ⟨hl, hJ⟩ := hz r (List.mem_cons_self ..)
        have hJ' := hJ j (by omega)
        cases a with
        | true =>
          simp only [if_true] at q1 hJ' ⊢
          simp only [mb, List.map_cons, List.filter_cons] at q1 ⊢
          by_cases e : r.getD j 46 = 46
          · rw [hJ' e, e]
            simpa using q1
          · by_cases e2 : r.getD (j + 1) 46 = 46
            · rw [e2]
              simp only [bne_self_eq_false, Bool.false_eq_true, if_false]
              rw [if_pos (by simpa using e)]
              simp only [List.length_cons]
              omega
            · rw [if_pos (by simpa using e2), if_pos (by simpa using e)]
              simp only [List.length_cons]
              omega
        | false =>
          simp only [Bool.false_eq_true, if_false] at q1 hJ' ⊢
          simp only [mb, List.map_cons, List.filter_cons] at q1 ⊢
          by_cases e : r.getD (j + 1) 46 = 46
          · rw [hJ' e, e]
            simpa using q1
          · by_cases e2 : r.getD j 46 = 46
            · rw [e2]
              simp only [bne_self_eq_false, Bool.false_eq_true, if_false]
              rw [if_pos (by simpa using e)]
              simp only [List.length_cons]
              omega
            · rw [if_pos (by simpa using e2), if_pos (by simpa using e)]
              simp only [List.length_cons]
              omega
    exact key y fun r hr => ⟨hy.2 r hr, hju r hr⟩
  have at_ : ∀ j, j < m → ((LT o (tr m y)).map fun r => r.getD i 46).getD j 46 = (sl o (y.map fun r => r.getD j 46)).getD i 46 := fun j hj => by
    rw [List.getD_eq_getElem?_getD, List.getElem?_map, LT, List.getElem?_map, tr_get hj]
    rfl
  intro j hj
  have hjm : j + 1 < m := by
    have : ((LT o (tr m y)).map fun r => r.getD i 46).length = m := by simp [LT, (tr_rect hy).1]
    omega
  rw [at_ j (by omega), at_ (j + 1) hjm]
  have s1 := sl_at o (y.map fun r => r.getD j 46) i (by simp [hy.1]; exact hi')
  have s2 := sl_at o (y.map fun r => r.getD (j + 1) 46) i (by simp [hy.1]; exact hi')
  have c := cnt j hjm
  have l1 : (y.map fun r => r.getD j 46).length = n := by simp [hy.1]
  have l2 : (y.map fun r => r.getD (j + 1) 46).length = n := by simp [hy.1]
  rw [l1] at s1
  rw [l2] at s2
  cases a <;> cases o <;> simp only [if_true, Bool.false_eq_true, if_false] at c s1 s2 ⊢ <;> rw [s1, s2] <;> omega
theorem ulu {a o : Bool} {n m : Nat} {g : Grid} (h : Rect n m g) : UT a n m (LT o (UT a n m g)) = LT o (UT a n m g) := by
  have z := lul (a := a) (o := o) (tr_rect h)
  have e1 : LT o (UT a n m g) = tr n (UT o m n (LT a (tr m g))) := by
    unfold UT
    rw [tr_tr (lt_rect (tr_rect (lt_rect (tr_rect h))))]
  have hr : Rect m n (UT o m n (LT a (tr m g))) := ut_rect (lt_rect (tr_rect h))
  rw [e1]
  show tr n (LT a (tr m (tr n (UT o m n (LT a (tr m g)))))) = _
  rw [tr_tr hr, z]
/-- a tilt -/
def tilt (n m : Nat) (g : Grid) (c : Nat) : Grid := if isH c then LT (c == 108) g else UT (c == 117) n m g
theorem tilt_rect {n m c : Nat} {g : Grid} (h : Rect n m g) : Rect n m (tilt n m g c) := by
  unfold tilt
  split
  · exact lt_rect h
  · exact ut_rect h
def tilts (n m : Nat) (t : List Nat) (g : Grid) : Grid := t.foldl (tilt n m) g
theorem tilts_rect {n m : Nat} : ∀ (t : List Nat) {g : Grid}, Rect n m g → Rect n m (tilts n m t g)
  | [], _, h => h
  | c :: t, g, h => tilts_rect t (tilt_rect (c := c) h)
theorem tilts_snoc {n m c : Nat} (t : List Nat) (g : Grid) : tilts n m (t ++ [c]) g = tilt n m (tilts n m t g) c := by simp [tilts]
end TM
end
section
set_option Elab.async false
set_option maxRecDepth 100000
set_option linter.all false
namespace TK
open PySem L2
def top (i : Nat) : Stmt := PySem.Challenge.pw_tiltheap_k05_rounds_of_a_word.main.body.getD i (.Pass ⟨0, 0, 0, 0⟩)
abbrev sUnknownMarbleInit : Stmt := inClass (top 6) 0
abbrev sIsNumber : Stmt := top 11
abbrev sIsPlace : Stmt := top 12
abbrev sCheckNumber : Stmt := top 13
abbrev sCheckMarble : Stmt := top 14
abbrev sCheckPlace : Stmt := top 15
abbrev sIsTilt : Stmt := top 21
abbrev sWordInit : Stmt := inClass (top 22) 1
abbrev sWordText : Stmt := inClass (top 22) 2
abbrev sFirstWrongIndex : Stmt := top 23
abbrev sTrayInit : Stmt := inClass (top 28) 0
abbrev sTrayOfText : Stmt := inClass (top 28) 1
abbrev sTrayRows : Stmt := inClass (top 28) 2
abbrev sTrayMarbles : Stmt := inClass (top 28) 3
abbrev sTrayHeight : Stmt := inClass (top 28) 4
abbrev sTrayWidth : Stmt := inClass (top 28) 5
abbrev sTrayAt : Stmt := inClass (top 28) 6
abbrev sTrayCall : Stmt := inClass (top 28) 7
abbrev sTrayContains : Stmt := inClass (top 28) 8
abbrev sTrayRshift : Stmt := inClass (top 28) 9
abbrev sTrayEq : Stmt := inClass (top 28) 10
abbrev sFirstWrongCell : Stmt := top 29
abbrev sIsRow : Stmt := top 30
abbrev sTilted : Stmt := top 31
abbrev sSlid : Stmt := top 32
abbrev sAfterRounds : Stmt := top 35
abbrev sMarbleAfter : Stmt := top 36
abbrev sExchange : Stmt := top 37
abbrev sCircles : Stmt := top 38
abbrev sBackAfter : Stmt := top 39
abbrev sIsBack : Stmt := top 40
abbrev sCircleFrom : Stmt := top 41
abbrev sLawTaken : Stmt := top 43
abbrev sLawAlike : Stmt := top 44
abbrev sLawRaised : Stmt := top 45
abbrev sLawRows : Stmt := top 46
abbrev sLawText : Stmt := top 47
abbrev sLawTilted : Stmt := top 48
abbrev sLawAfter : Stmt := top 49
abbrev sLawPlaces : Stmt := top 50
abbrev sLawCircles : Stmt := top 51
abbrev sLawBusy : Stmt := top 52
abbrev sLawAreRounds : Stmt := top 53
abbrev sLaw : Stmt := top 54
/-- a text by its signs; one sign -/
abbrev S (t : List Nat) : Str := ⟨t.toArray⟩
abbrev sg (c : Nat) : V := .str ⟨#[c]⟩
theorem S_len (t : List Nat) : (S t).length = t.length := SX.S_len t
theorem S_size (t : List Nat) : (S t).cps.size = t.length := by simp [S]
theorem S_at (t : List Nat) (i : Nat) : (S t).cps[i]? = t[i]? := by simp [S]
theorem S_list (t : List Nat) : (S t).cps.toList = t := by simp [S]
theorem S_of (z : Str) : z = S z.cps.toList := (SX.S_tl z).symm
theorem S_inj {a b : List Nat} (h : S a = S b) : a = b := SX.S_inj h
theorem join_S (a : List Nat) (ys : List (List Nat)) : Txt.join (S a) (ys.map S) = S (TL.joinL a ys) := SX.join_S a ys
theorem joinL_nil : ∀ l : List (List Nat), TL.joinL [] l = l.flatten
  | [] => rfl
  | [p] => by simp [TL.joinL]
  | p :: q :: r => by
    have := joinL_nil (q :: r)
    simp only [TL.joinL, List.nil_append, this, List.flatten_cons]
theorem flat_ones : ∀ l : List Nat, (l.map fun c => [c]).flatten = l
  | [] => rfl
  | c :: r => by simp [flat_ones r]
theorem join_signs (l : List Nat) : Txt.join (Str.ofString "") (l.map fun c => S [c]) = S l := by
  have e := join_S [] (l.map fun c => [c])
  rw [List.map_map, joinL_nil, flat_ones] at e
  exact e
theorem sum_ones (l : List Nat) : ((l.map fun c => S [c]).map (·.length)).sum = l.length := by
  induction l with
  | nil => rfl
  | cons c r ih =>
    rw [List.map_cons, List.map_cons, List.sum_cons, ih]
    show 1 + r.length = r.length + 1
    omega
theorem same_new {H : Hp} {l : Addr} {o : HO} (h : H l = none) : Same H (upd H l o) := fun b o' e => by
  rw [upd_ne (ne_of_none e h)]
  exact e
theorem _root_.L2.Same.tup {K : PySem.W.Frag} {H H' : Hp} {a : Addr} {xs : List V} (e : Same H H') (h : SqT K H a xs) : SqT K H' a xs := by
  rcases h with (h | ⟨o, h⟩) | h
  · exact .inl (.inl (e _ _ h))
  · exact .inl (.inr ⟨o, e _ _ h⟩)
  · exact .inr h
/-- a store at an address that was new -/
theorem same_put {H H1 : Hp} {l : Addr} {o : HO} (s : Same H H1) (h : H l = none) : Same H (upd H1 l o) := fun b o' e => by
  rw [upd_ne (ne_of_none e h)]
  exact s b o' e
end TK
end
section
set_option Elab.async false
set_option maxRecDepth 100000
set_option linter.all false
namespace TK
open PySem L2 TM
/-- what is written about words -/
structure TxtW (K : PySem.W.Frag) (mg : Str → Option Value) : Prop where
  len : mg "len" = none
  isi : mg "isinstance" = none
  str : mg "str" = none
  enum : mg "enumerate" = none
  AR : ∃ u, mg "ALONG_ROWS" = some u ∧ RelV (.str (S [108, 114])) u
  AC : ∃ u, mg "ALONG_COLUMNS" = some u ∧ RelV (.str (S [117, 100])) u
section
variable {P : Program} {w : World} {K : PySem.W.Frag} {mg : Str → Option Value} {base : Heap}
theorem dAR (c : Nat) : decide (c ∈ (S [108, 114]).cps.toList) = isH c := by
  rw [S_list]
  by_cases h : isH c = true
  · rw [h, decide_eq_true]
    simpa [isH] using h
  · rw [Bool.not_eq_true] at h
    rw [h, decide_eq_false]
    simpa [isH] using h
end
end TK
end
section
set_option Elab.async false
set_option maxRecDepth 100000
set_option linter.all false
namespace TK
open PySem L2 TM
/-- is it a tilt's letter -/
def isT (c : Nat) : Bool := decide (c ∈ [108, 114, 117, 100])
/-- a word's text: tilts, so many at most -/
def Good (t : List Nat) : Prop := t.length ≤ 60 ∧ ∀ c ∈ t, isT c = true
def WordAt (C : Addr) (H : Hp) (a : Addr) (t : List Nat) : Prop := ∃ dx, H a = some (.ins C dx [("_text", .str (S t))])
theorem WordAt.same {C a : Addr} {H H' : Hp} {t : List Nat} (h : WordAt C H a t) (s : Same H H') : WordAt C H' a t := by
  obtain ⟨dx, h⟩ := h
  exact ⟨dx, s _ _ h⟩
/-- the class Word as the top has made it -/
structure ClsW (K : PySem.W.Frag) (mg : Str → Option Value) (C : Addr) : Prop where
  cl : Cls K C
  nT : NoAttr K C "_text"
  mgC : mg "Word" = some (.ref C)
  mx : ∃ mc u, ClX.CRead K C mc ∧ ClX.CVal K C mc "MAX_TILTS" (.int 60) u
section
variable {P : Program} {w : World} {K : PySem.W.Frag} {mg : Str → Option Value} {base : Heap} {C fT : Addr} {fdT : FuncData}
theorem scIt : FnScope ["value"] ["value"] (defScope sIsTilt) := ⟨rfl, rfl, rfl, by decide +kernel, rfl, by decide +kernel, by decide +kernel⟩
def spIt : Sp := fun vs H Q _ => ∃ c : Nat, vs = [sg c] ∧ Q (.bl (isT c)) H
theorem ok_it {f : Addr} {fd : FuncData} (F : Fun K "is_tilt" "is_tilt" sIsTilt f fd) (T : TxtW K mg) : FnOk P w K mg base CX0 1 f fd ["value"] spIt := by
  refine F.ok scIt (fun vs H Q E h => ?_) (fun cdv A outer s H vs Q E hr h => ?_)
  · obtain ⟨t, rfl, _⟩ := h
    rfl
  · obtain ⟨c, rfl, k⟩ := h
    refine ⟨_, pss_one (ps_ret (pe_and (pe_callB call_isi (by rfl) T.isi (by decide +kernel) (pa_cons (pv 0) (pa_cons (pe_bltn (v := .ty "str") (by rfl) T.str (by decide +kernel) rfl) pa_nil)))
      (pe_and (pe_cmpR op_eq (pe_callB call_len_str (by rfl) T.len PySem.boot_len (pa_cons (pv 0) pa_nil)) pe_int (nomark _))
        (pe_one (pe_cmpR op_in_sign (pv 0) (pe_op op_add_str (C8.pe_gc rfl T.AR) (C8.pe_gc rfl T.AC)) (by rfl)))))), ?_⟩
    refine ⟨_, rfl, _, _, _, _, true, rfl, .ty _, .base (.str _), kit_ty (by decide +kernel), true, rfl, iteT ?_⟩
    refine ⟨_, rfl, _, rfl, by show 1 ≤ sizeLine; decide, rfl, true, rfl, iteT ?_⟩
    refine ⟨_, rfl, _, _, rfl, rfl, by show 4 ≤ sizeLine; decide, c, _, rfl, rfl, ?_⟩
    exact k
theorem scFwi : FnScope ["text", "index", "letter"] ["text"] (defScope sFirstWrongIndex) := ⟨rfl, rfl, rfl, by decide +kernel, rfl, by decide +kernel, by decide +kernel⟩
def spFwi : Sp := fun vs H Q _ => ∃ t : List Nat, vs = [.str (S t)] ∧ Good t ∧ ∀ H', Same H H' → Q .non H'
theorem ok_fwi {f : Addr} {fd : FuncData} (F : Fun K "_first_wrong_index" "_first_wrong_index" sFirstWrongIndex f fd) (T : TxtW K mg) (CW : ClsW K mg C) (FT : Fun K "is_tilt" "is_tilt" sIsTilt fT fdT) (bT : Binds K fdT ["value"] []) (mT : mg "is_tilt" = some (.ref fT)) :
    FnOk P w K mg base CX0 2 f fd ["text"] spFwi := by
  have GT : FnOk P w K mg base CX0 1 fT fdT ["value"] spIt := ok_it FT T
  refine F.ok scFwi (fun vs H Q E h => ?_) (fun cdv A outer s H vs Q E hr h => ?_)
  · obtain ⟨t, rfl, _⟩ := h
    rfl
  · obtain ⟨t, rfl, ⟨hl, hg⟩, k⟩ := h
    refine ⟨_, pss_cons (ps_if (pt_not (pt_val (pe_callB call_isi (by rfl) T.isi (by decide +kernel) (pa_cons (pv 0) (pa_cons (pe_bltn (v := .ty "str") (by rfl) T.str (by decide +kernel) rfl) pa_nil))))) pss_never pss_nil)
      (pss_cons (ps_for PassesOwn.never rfl (TH.pi_enumS (by rfl) T.enum (pa_cons (pv 0) pa_nil)) (pg_tup rfl (pgs_cons (pg_name (i := 1) scFwi.nd rfl (.inl rfl)) (pgs_cons (pg_name (i := 2) scFwi.nd rfl (.inl rfl)) pgs_nil)))
        (pss_one (ps_if (PW.pt (pw_or (pt_cmpR op_ge (pv 1) (ClX.pe_cval (pe_glob (v := .ref C) rfl CW.mgC rfl)) (nomark _)) (pw_or1 (pt_not (pt_val (pe_call GT hr rfl mT FT.kp bT .nil pass0 (pa_cons (pv 2) pa_nil))))))) pss_never pss_nil)))
      (pss_one (ps_ret pe_non))), ?_⟩
    refine ⟨_, rfl, _, _, _, _, true, rfl, .ty _, .base (.str _), kit_ty (by decide +kernel), true, rfl, iteF ?_⟩
    refine ⟨_, rfl, _, rfl, for_it TH.walk_enumS (fun i σ H1 => ∃ v1 v2, σ = [some (.str (S t)), v1, v2] ∧ Same H H1) ⟨none, none, rfl, Same.refl H⟩ (fun _ _ _ _ _ => True.intro) ?_ ?_⟩
    · rintro i x σ H1 H2 hi ⟨v1, v2, rfl, sm⟩ ⟨p, c, rfl, hn, rfl, hc⟩
      rw [S_at] at hc
      have hit : i < t.length := (List.getElem?_eq_some_iff.mp hc).1
      have hcm : isT c = true := hg c (List.mem_of_getElem? hc)
      refine ⟨p, _, rfl, SqT.of upd_same, rfl, ?_⟩
      obtain ⟨mc, u, cr, cv⟩ := CW.mx
      refine ⟨_, _, rfl, _, _, rfl, rfl, _, rfl, C, mc, _, u, rfl, cr, cv, _, _, rfl, rfl, _, rfl, ?_⟩
      have e1 : decide ((i : Int) ≥ (60 : Int)) = false := decide_eq_false (by omega)
      rw [e1]
      refine iteF ⟨_, rfl, c, rfl, true, by rw [hcm], iteF ⟨_, _, rfl, sm.trans (same_new hn)⟩⟩
    · rintro σ H1 ⟨v1, v2, rfl, sm⟩
      exact k _ sm
theorem scWi : FnScope ["self", "text", "wrong"] ["self", "text"] (defScope sWordInit) := ⟨rfl, rfl, rfl, by decide +kernel, rfl, by decide +kernel, by decide +kernel⟩
def spWi (C : Addr) : Sp := fun vs H Q _ => ∃ (p dx : Addr) (t : List Nat), vs = [.ref p, .str (S t)] ∧ H p = some (.ins C dx []) ∧ Good t ∧ ∀ H', WordAt C H' p t → (∀ b o, H b = some o → b ≠ p → H' b = some o) → Q .non H'
theorem ok_wi {f fW : Addr} {fd fdW : FuncData} (F : Fun K "__init__" "Word.__init__" sWordInit f fd) (CW : ClsW K mg C) (GW : FnOk P w K mg base CX0 2 fW fdW ["text"] spFwi) (kW : PySem.W.keepIn K (.ref fW) = true) (bW : Binds K fdW ["text"] []) (mW : mg "_first_wrong_index" = some (.ref fW)) :
    FnOk P w K mg base CX0 3 f fd ["self", "text"] (spWi C) := by
  refine F.ok scWi (fun vs H Q E h => ?_) (fun cdv A outer s H vs Q E hr h => ?_)
  · obtain ⟨p, dx, t, rfl, _⟩ := h
    rfl
  · obtain ⟨p, dx, t, rfl, hp, hg, k⟩ := h
    refine ⟨_, pss_cons (ps_set (i := 2) scWi.nd rfl (.inl rfl) (pe_call GW hr rfl mW kW bW .nil pass0 (pa_cons (pv 1) pa_nil)))
      (pss_cons (ps_if (pt_cmpR op_notN (pv 2) pe_non (nomark _)) pss_never pss_nil)
      (pss_one (ps_fld (pv 0) (pv 1) rfl))), ?_⟩
    refine ⟨_, rfl, t, rfl, hg, fun H1 sm => ?_⟩
    refine ⟨_, rfl, rfl, _, rfl, iteF ?_⟩
    refine ⟨_, rfl, _, rfl, p, C, dx, [], rfl, sm _ _ hp, CW.cl, CW.nT, (by show 0 < 1000; decide), ?_⟩
    exact k _ ⟨dx, upd_same⟩ fun b o e hb => by rw [upd_ne hb]; exact sm _ _ e
end
end TK
end
section
set_option Elab.async false
set_option maxRecDepth 100000
set_option linter.all false
namespace TK
open PySem L2 TM
def letters : List Nat := [97, 98, 99, 100, 101, 102, 103, 104, 105, 106, 107, 108, 109, 110, 111, 112, 113, 114, 115, 116, 117, 118, 119, 120, 121, 122]
/-- a cell's sign: empty or a marble -/
def Cell (c : Nat) : Prop := c = 46 ∨ (97 ≤ c ∧ c ≤ 122)
theorem cell_in {c : Nat} (h : Cell c) : c ∈ [46] ++ letters := by
  unfold Cell at h
  simp only [letters, List.mem_append, List.mem_cons, List.not_mem_nil, or_false]
  omega
/-- rows that make a tray -/
structure VG (n m : Nat) (g : Grid) : Prop where
  rc : Rect n m g
  n1 : 1 ≤ n
  n8 : n ≤ 8
  m1 : 1 ≤ m
  m8 : m ≤ 8
  ok : ∀ r ∈ g, ∀ c ∈ r, Cell c
  nd : (mb g.flatten).Nodup
abbrev rowV (g : Grid) : List V := g.map fun r => V.str (S r)
theorem fresh {a b : List Nat} {c : Nat} (h : (mb (a ++ c :: b)).Nodup) : c ∉ mb a := fun hc => by
  have h46 : (c != 46) = true := (List.mem_filter.mp hc).2
  have e : mb (c :: b) = c :: mb b := by
    unfold mb
    rw [List.filter_cons, if_pos h46]
  rw [mb_app, e] at h
  exact (List.nodup_append.mp h).2.2 c hc c List.mem_cons_self rfl
/-- what comes ahead of the cell in column j of row i -/
def ahead (g : Grid) (r : List Nat) (i j : Nat) : List Nat := (g.take i).flatten ++ r.take j
theorem ahead_step {g : Grid} {r : List Nat} {i j c : Nat} (hc : r[j]? = some c) : ahead g r i (j + 1) = ahead g r i j ++ [c] := by
  unfold ahead
  rw [List.take_add_one, hc, List.append_assoc]
  rfl
theorem ahead_row {g : Grid} {r : List Nat} {i : Nat} (hr : g[i]? = some r) : (g.take (i + 1)).flatten = ahead g r i r.length := by
  unfold ahead
  rw [List.take_add_one, hr, List.take_length]
  simp
theorem ahead_all {g : Grid} {r : List Nat} {i j c : Nat} (hr : g[i]? = some r) (hc : r[j]? = some c) : ∃ b, g.flatten = ahead g r i j ++ c :: b := by
  have hi := (List.getElem?_eq_some_iff.mp hr).1
  have hj := (List.getElem?_eq_some_iff.mp hc).1
  have e1 : g = g.take i ++ r :: g.drop (i + 1) := by
    have := (List.getElem?_eq_some_iff.mp hr).2
    rw [← this]
    simp
  have e2 : r = r.take j ++ c :: r.drop (j + 1) := by
    have := (List.getElem?_eq_some_iff.mp hc).2
    rw [← this]
    simp
  refine ⟨r.drop (j + 1) ++ (g.drop (i + 1)).flatten, ?_⟩
  unfold ahead
  conv => lhs; rw [e1, List.flatten_append, List.flatten_cons, e2]
  simp
theorem mb_step {a : List Nat} {c : Nat} (h : c ≠ 46) : mb (a ++ [c]) = mb a ++ [c] := by
  rw [mb_app]
  simp [mb, h]
theorem mb_dot {a : List Nat} : mb (a ++ [46]) = mb a := by
  rw [mb_app]
  simp [mb]
/-- what is written about trays; t0: the text EMPTY's own token -/
structure TxtT (K : PySem.W.Frag) (mg : Str → Option Value) (t0 : Tok) : Prop where
  EM : mg "EMPTY" = some (.str (S [46]) t0)
  LE : ∃ u, mg "LETTERS" = some u ∧ RelV (.str (S letters)) u
  MS : ∃ u, mg "MAX_SIDE" = some u ∧ RelV (.int 8) u
  set : mg "set" = none
  zip : mg "zip" = none
  tup : mg "tuple" = none
theorem TxtT.em {K : PySem.W.Frag} {mg : Str → Option Value} {t0 : Tok} (T : TxtT K mg t0) : ∃ u, mg "EMPTY" = some u ∧ RelV (.str (S [46])) u := ⟨_, T.EM, ⟨_, rfl⟩⟩
section
variable {P : Program} {w : World} {K : PySem.W.Frag} {mg : Str → Option Value} {base : Heap} {t0 : Tok} {fR : Addr} {fdR : FuncData}
theorem scIr : FnScope ["row"] ["row"] (defScope sIsRow) := ⟨rfl, rfl, rfl, by decide +kernel, rfl, by decide +kernel, by decide +kernel⟩
def spIr : Sp := fun vs H Q _ => ∃ r : List Nat, vs = [.str (S r)] ∧ 1 ≤ r.length ∧ r.length ≤ 8 ∧ Q (.bl true) H
theorem ok_ir {f : Addr} {fd : FuncData} (F : Fun K "_is_row" "_is_row" sIsRow f fd) (T : TxtW K mg) (U : TxtT K mg t0) : FnOk P w K mg base CX0 1 f fd ["row"] spIr := by
  refine F.ok scIr (fun vs H Q E h => ?_) (fun cdv A outer s H vs Q E hr h => ?_)
  · obtain ⟨t, rfl, _⟩ := h
    rfl
  · obtain ⟨r, rfl, h1, h8, k⟩ := h
    refine ⟨_, pss_one (ps_ret (pe_and (pe_callB call_isi (by rfl) T.isi (by decide +kernel) (pa_cons (pv 0) (pa_cons (pe_bltn (v := .ty "str") (by rfl) T.str (by decide +kernel) rfl) pa_nil)))
      (pe_one (pe_chain op_le op_le pe_int (pe_callB call_len_str (by rfl) T.len PySem.boot_len (pa_cons (pv 0) pa_nil)) (C8.pe_gc rfl U.MS))))), ?_⟩
    refine ⟨_, rfl, _, _, _, _, true, rfl, .ty _, .base (.str _), kit_ty (by decide +kernel), true, rfl, iteT ?_⟩
    have hs : (S r).length ≤ sizeLine := by
      rw [S_len]
      show _ ≤ 16777216
      omega
    refine ⟨_, rfl, _, rfl, hs, _, _, rfl, rfl, _, rfl, ?_⟩
    have e1 : decide ((1 : Int) ≤ ((S r).length : Int)) = true := decide_eq_true (by rw [S_len]; omega)
    have e2 : decide (((S r).length : Int) ≤ (8 : Int)) = true := decide_eq_true (by rw [S_len]; omega)
    rw [e1]
    refine iteT ⟨_, _, rfl, rfl, ?_⟩
    show Q (V.bl (decide (((S r).length : Int) ≤ (8 : Int)))) H
    rw [e2]
    exact k
/-- the marbles of l are in the set at p -/
def Seen (P : Program) (w : World) (H : Hp) (p : Addr) (l : List Nat) (k : Nat) : Prop := ∃ (Z : Key → Bool) (n : Nat), H p = some (SetK P w p Z n) ∧ n ≤ k ∧ ∀ c : Nat, Z (.inr (S [c])) = decide (c ∈ mb l)
theorem one_inj {c d : Nat} : (Sum.inr (S [c]) : Key) = .inr (S [d]) ↔ c = d := ⟨fun h => by
  have := S_inj (Sum.inr.inj h)
  simpa using this, fun h => by rw [h]⟩
theorem scFc : FnScope ["rows", "seen", "number", "row", "column", "cell"] ["rows"] (defScope sFirstWrongCell) := ⟨rfl, rfl, rfl, by decide +kernel, rfl, by decide +kernel, by decide +kernel⟩
def spFc (K : PySem.W.Frag) : Sp := fun vs H Q _ => ∃ (a : Addr) (n m : Nat) (g : Grid), vs = [.ref a] ∧ SqT K H a (rowV g) ∧ VG n m g ∧ ∀ H', Same H H' → Q .non H'
theorem ok_fc {f : Addr} {fd : FuncData} (F : Fun K "_first_wrong_cell" "_first_wrong_cell" sFirstWrongCell f fd) (T : TxtW K mg) (U : TxtT K mg t0) (FR : Fun K "_is_row" "_is_row" sIsRow fR fdR) (bR : Binds K fdR ["row"] []) (mR : mg "_is_row" = some (.ref fR)) :
    FnOk P w K mg base CX0 2 f fd ["rows"] (spFc K) := by
  have GR : FnOk P w K mg base CX0 1 fR fdR ["row"] spIr := ok_ir FR T U
  refine F.ok scFc (fun vs H Q E h => ?_) (fun cdv A outer s H vs Q E hr h => ?_)
  · obtain ⟨a, n, m, g, rfl, _⟩ := h
    rfl
  · obtain ⟨a, n, m, g, rfl, hS, G, k⟩ := h
    refine ⟨_, pss_cons (ps_if (pt_not (pt_truth (pv 0) (by intro _; rfl))) pss_never pss_nil)
      (pss_cons (ps_set (i := 1) scFc.nd rfl (.inl rfl) (pe_callTy0 cr_set0K (by rfl) U.set (by decide +kernel)))
      (pss_cons (ps_for PassesOwn.never rfl (TH.pi_enumT (by rfl) T.enum (pa_cons (pv 0) pa_nil)) (pg_tup rfl (pgs_cons (pg_name (i := 2) scFc.nd rfl (.inl rfl)) (pgs_cons (pg_name (i := 3) scFc.nd rfl (.inl rfl)) pgs_nil)))
        (pss_cons (ps_if (PW.pt (pw_or (pt_cmpR op_ge (pv 2) (C8.pe_gc rfl U.MS) (nomark _)) (pw_or (pt_not (pt_val (pe_call GR hr rfl mR FR.kp bR .nil pass0 (pa_cons (pv 3) pa_nil))))
            (pw_or1 (pt_cmpR op_ne (pe_callB call_len_str (by rfl) T.len PySem.boot_len (pa_cons (pv 3) pa_nil)) (pe_callB call_len_str (by rfl) T.len PySem.boot_len (pa_cons (pe_ix ix_tup (pv 0) pe_int (fun _ _ => rfl)) pa_nil)) (nomark _)))))) pss_never pss_nil)
        (pss_one (ps_for PassesOwn.never rfl (TH.pi_enumS (by rfl) T.enum (pa_cons (pv 3) pa_nil)) (pg_tup rfl (pgs_cons (pg_name (i := 4) scFc.nd rfl (.inl rfl)) (pgs_cons (pg_name (i := 5) scFc.nd rfl (.inl rfl)) pgs_nil)))
          (pss_cons (ps_if (PW.pt (pw_or (pt_cmpR or_sinK (pv 5) (pv 1) (by rfl)) (pw_or1 (pt_cmpR op_notIn_sign (pv 5) (pe_op op_add_str (C8.pe_gc rfl U.em) (C8.pe_gc rfl U.LE)) (by rfl))))) pss_never pss_nil)
          (pss_one (ps_if (pt_cmpR op_ne (pv 5) (C8.pe_gc rfl U.em) (nomark _)) (pss_one (ps_expr (pe_saddK (pv 1) (pa_cons (pv 5) pa_nil)))) pss_nil)))))))
      (pss_one (ps_ret pe_non)))), ?_⟩
    have hg0 : (rowV g).isEmpty = false := by
      have := G.rc.1
      have := G.n1
      cases g with
      | nil => simp at *; omega
      | cons _ _ => rfl
    refine ⟨_, rfl, true, .inr (.inl ⟨_, hS, by rw [hg0]; rfl⟩), iteF ?_⟩
    refine ⟨rfl, fun p hp => ?_⟩
    refine ⟨_, rfl, a, rowV g, rfl, (same_new hp).tup hS, for_it TH.walk_enumT (fun i σ H1 => ∃ v2 v3 v4 v5, σ = [some (.ref a), some (.ref p), v2, v3, v4, v5] ∧ Same H H1 ∧ Seen P w H1 p (g.take i).flatten (i * 8))
      ⟨none, none, none, none, rfl, same_new hp, _, 0, upd_same, Nat.zero_le _, fun c => by simp [mb]⟩ (fun i σ H1 _ ⟨_, _, _, _, _, sm, _⟩ => sm.tup hS) ?_ ?_⟩
    · rintro i x σ H1 H2 hi ⟨v2, v3, v4, v5, rfl, sm, se⟩ ⟨q, y, rfl, hq, rfl, hy⟩
      obtain ⟨r, hr', rfl⟩ : ∃ r, g[i]? = some r ∧ y = V.str (S r) := by
        rw [List.getElem?_map] at hy
        cases e : g[i]? with
        | none => rw [e] at hy; cases hy
        | some r => rw [e] at hy; exact ⟨r, rfl, (Option.some.inj hy).symm⟩
      have hin : i < n := by
        have := (List.getElem?_eq_some_iff.mp hr').1
        rw [G.rc.1] at this
        exact this
      have hrm : r ∈ g := List.mem_of_getElem? hr'
      have hrl : r.length = m := G.rc.2 r hrm
      have n8 := G.n8
      have m1 := G.m1
      have m8 := G.m8
      refine ⟨_, _, rfl, SqT.of upd_same, rfl, _, _, rfl, _, _, rfl, rfl, ?_⟩
      have e1 : decide ((i : Int) ≥ (8 : Int)) = false := decide_eq_false (by omega)
      refine ⟨_, rfl, _, _, rfl, rfl, _, rfl, ?_⟩
      rw [e1]
      refine iteF ⟨_, rfl, r, rfl, by omega, by omega, true, rfl, iteF ?_⟩
      have sm2 : Same H (upd H1 q (.tup [.int (i : Nat), .str (S r)])) := sm.trans (same_new hq)
      have hs : (S r).length ≤ sizeLine := by
        rw [S_len]
        show _ ≤ 16777216
        omega
      obtain ⟨r0, hr0, hr0l⟩ : ∃ r0, g[0]? = some r0 ∧ r0.length = m := by
        have h0 : 0 < g.length := by rw [G.rc.1]; exact G.n1
        exact ⟨g[0], List.getElem?_eq_getElem h0, G.rc.2 _ (List.getElem_mem h0)⟩
      have hs0 : (S r0).length ≤ sizeLine := by
        rw [S_len]
        show _ ≤ 16777216
        omega
      refine ⟨_, rfl, _, rfl, hs, _, rfl, a, _, _, _, rfl, rfl, sm2.tup hS, atI_nat (j := 0) (v := V.str (S r0)) (by rw [List.getElem?_map, hr0]; all_goals rfl), _, rfl, hs0, rfl, _, rfl, ?_⟩
      have e2 : (!decide (V.int ((S r).length : Int) = V.int ((S r0).length : Int))) = false := by
        rw [S_len, S_len, hrl, hr0l]
        simp
      rw [e2]
      refine iteF ?_
      have se2 : Seen P w (upd H1 q (.tup [.int (i : Nat), .str (S r)])) p (g.take i).flatten (i * 8) := by
        obtain ⟨Z, n', h1, h2, h3⟩ := se
        exact ⟨Z, n', by rw [upd_ne (ne_of_none h1 hq)]; exact h1, h2, h3⟩
      refine ⟨_, rfl, S r, rfl, for_it TH.walk_enumS (fun j σ H2 => ∃ v4 v5, σ = [some (.ref a), some (.ref p), some (.int (i : Nat)), some (.str (S r)), v4, v5] ∧ Same H H2 ∧ Seen P w H2 p (ahead g r i j) (i * 8 + j))
        ⟨v4, v5, rfl, sm2, by unfold ahead; rw [List.take_zero, List.append_nil]; exact se2⟩ (fun _ _ _ _ _ => True.intro) ?_ ?_⟩
      · rintro j x σ H2 H3 hj ⟨v4, v5, rfl, sm, Z, k', hZ, hk', hz⟩ ⟨q', c, rfl, hq', rfl, hc⟩
        rw [S_at] at hc
        have hjm : j < m := by
          have := (List.getElem?_eq_some_iff.mp hc).1
          omega
        have hcell : Cell c := G.ok r hrm c (List.mem_of_getElem? hc)
        obtain ⟨b, hb⟩ := ahead_all hr' hc
        have hnew : c ∉ mb (ahead g r i j) := fresh (by rw [← hb]; exact G.nd)
        have hZ2 : upd H2 q' (.tup [.int (j : Nat), .str ⟨#[c]⟩]) p = some (SetK P w p Z k') := by rw [upd_ne (ne_of_none hZ hq')]; exact hZ
        refine ⟨_, _, rfl, SqT.of upd_same, rfl, _, _, rfl, _, _, rfl, rfl, ?_⟩
        have e3 : Z (.inr (S [c])) = false := by rw [hz c]; exact decide_eq_false hnew
        refine ⟨_, rfl, _, rfl, .inr (S [c]), p, Z, k', rfl, rfl, hZ2, _, rfl, ?_⟩
        rw [show (if false = true then !Z (.inr (S [c])) else Z (.inr (S [c]))) = false from e3]
        refine iteF ⟨_, rfl, _, _, rfl, rfl, by show 27 ≤ sizeLine; decide, c, _, rfl, rfl, _, rfl, ?_⟩
        have e4 : decide (c ∈ ((S [46] ++ S letters) : Str).cps.toList) = true := by
          rw [SX.S_cat]
          exact decide_eq_true (by rw [S_list]; exact cell_in hcell)
        rw [e4]
        refine iteF ⟨_, rfl, rfl, _, rfl, ?_⟩
        by_cases h46 : c = 46
        · subst h46
          refine iteF ⟨_, _, rfl, sm.trans (same_new hq'), Z, k', hZ2, by omega, fun d => ?_⟩
          rw [ahead_step hc, mb_dot]
          exact hz d
        · rw [show (!decide (sg c = V.str (S [46]))) = true by simp [h46]]
          refine iteT ⟨_, rfl, ⟨p, Z, k', rfl, hZ2⟩, _, rfl, p, .inr (S [c]), Z, k', rfl, rfl, hZ2, ?_, ?_⟩
          · show _ < 4096
            omega
          · refine ⟨_, _, rfl, same_put (sm.trans (same_new hq')) hp, _, _, upd_same, ?_, fun d => ?_⟩
            · rw [if_neg (by rw [e3]; exact Bool.false_ne_true)]
              omega
            · rw [ahead_step hc, mb_step h46, hz d]
              by_cases hd : d = c
              · subst hd; simp
              · rw [show decide ((Sum.inr (S [d]) : Key) = .inr (S [c])) = false from decide_eq_false fun z => hd (one_inj.mp z), Bool.or_false]
                simp [hd]
      · rintro σ H2 ⟨v4, v5, rfl, sm, se⟩
        refine ⟨_, _, _, _, rfl, sm, ?_⟩
        rw [ahead_row hr']
        rw [S_size] at se
        obtain ⟨Z, k', h1, h2, h3⟩ := se
        exact ⟨Z, k', h1, by omega, h3⟩
    · rintro σ H1 ⟨v2, v3, v4, v5, rfl, sm, se⟩
      exact k _ sm
end
end TK
end
section
set_option Elab.async false
set_option maxRecDepth 100000
set_option linter.all false
namespace TK
open PySem L2 TM
structure ClsT (K : PySem.W.Frag) (mg : Str → Option Value) (D : Addr) : Prop where
  cl : Cls K D
  nR : NoAttr K D "_rows"
  mgC : mg "Tray" = some (.ref D)
def TrayAt (K : PySem.W.Frag) (D : Addr) (H : Hp) (p : Addr) (g : Grid) : Prop := ∃ dx a, H p = some (.ins D dx [("_rows", .ref a)]) ∧ SqT K H a (rowV g)
theorem TrayAt.same {K : PySem.W.Frag} {D p : Addr} {H H' : Hp} {g : Grid} (h : TrayAt K D H p g) (s : Same H H') : TrayAt K D H' p g := by
  obtain ⟨dx, a, h, t⟩ := h
  exact ⟨dx, a, s _ _ h, s.tup t⟩
theorem VG.len {n m : Nat} {g : Grid} (G : VG n m g) : g.length ≤ 8 := by rw [G.rc.1]; exact G.n8
theorem VG.row {n m : Nat} {g : Grid} (G : VG n m g) {r : List Nat} (h : r ∈ g) : r.length ≤ 8 := by rw [G.rc.2 r h]; exact G.m8
theorem VG.ne {n m : Nat} {g : Grid} (G : VG n m g) : g ≠ [] := fun e => by
  have := G.n1
  have := G.rc.1
  subst e
  simp at *
  omega
theorem joinL_len (sep : List Nat) (k : Nat) : ∀ g : Grid, (∀ r ∈ g, r.length ≤ k) → (TL.joinL sep g).length ≤ g.length * (k + sep.length)
  | [], _ => Nat.zero_le _
  | [p], h => by
    have := h p List.mem_cons_self
    show p.length ≤ 1 * _
    omega
  | p :: q :: r, h => by
    have h1 := joinL_len sep k (q :: r) fun z hz => h z (List.mem_cons_of_mem _ hz)
    have h2 := h p List.mem_cons_self
    simp only [TL.joinL, List.length_append, List.length_cons, Nat.add_mul, Nat.mul_add] at *
    omega
theorem lf_not {n m : Nat} {g : Grid} (G : VG n m g) : ∀ r ∈ g, 10 ∉ r := fun r hr h10 => by
  have := G.ok r hr 10 h10
  unfold Cell at this
  omega
theorem split_back {n m : Nat} {g : Grid} (G : VG n m g) : Txt.split (S (TL.joinL [10] g)) (S [10]) = g.map S := by
  rw [SX.split_S (by simp) (by rfl), SX.spl_join G.ne (lf_not G)]
section
variable {P : Program} {w : World} {K : PySem.W.Frag} {mg : Str → Option Value} {base : Heap} {D fF : Addr} {fdF : FuncData}
theorem scTi : FnScope ["self", "rows", "wrong", "row", "column"] ((["self"] : List Str) ++ (["rows"] : List Str)) (defScope sTrayInit) := ⟨rfl, rfl, rfl, by decide +kernel, rfl, by decide +kernel, by decide +kernel⟩
def spTi (K : PySem.W.Frag) (D : Addr) : Sp := fun vs H Q _ => ∃ (p dx a : Addr) (n m : Nat) (g : Grid), vs = [.ref p, .ref a] ∧ H p = some (.ins D dx []) ∧ SqT K H a (rowV g) ∧ VG n m g ∧ ∀ H', TrayAt K D H' p g → (∀ b o, H b = some o → b ≠ p → H' b = some o) → Q .non H'
theorem seq_but {K : PySem.W.Frag} {H H' : Hp} {p a : Addr} {o : HO} {xs : List V} (h : SqT K H a xs) (hp : H p = some o) (ho : ∀ u xs, o ≠ .frz u (.tup xs) ∧ o ≠ .tup xs) (kp : ∀ b o, H b = some o → b ≠ p → H' b = some o) : SqT K H' a xs := by
  rcases h with (h | ⟨u, h⟩) | h
  · exact .inl (.inl (kp _ _ h fun e => by subst e; exact (ho ⟨.none, none, .plain, #[]⟩ xs).2 (Option.some.inj (hp.symm.trans h))))
  · exact .inl (.inr ⟨u, kp _ _ h fun e => by subst e; exact (ho u xs).1 (Option.some.inj (hp.symm.trans h))⟩)
  · exact .inr h
theorem ok_ti {f : Addr} {fd : FuncData} (F : Fun K "__init__" "Tray.__init__" sTrayInit f fd) (CT : ClsT K mg D) (GF : FnOk P w K mg base CX0 2 fF fdF ["rows"] (spFc K)) (kF : PySem.W.keepIn K (.ref fF) = true) (bF : Binds K fdF ["rows"] []) (mF : mg "_first_wrong_cell" = some (.ref fF)) :
    FnR P w K mg base CX0 3 f (fun vs H Q E => ∃ ws rest, vs = ws ++ rest ∧ ws.length = 1 ∧ rest.length ≤ sizeLine ∧ ∀ p, H p = Option.none → spTi K D (ws ++ [V.ref p]) (upd H p (.tup rest)) Q E) := by
  obtain ⟨oc, od, kV, doc, pm, an, cdv, ct, osl, rfl, lk, hcd⟩ := F.ex
  refine StX.fn_star (ps := ["self"]) (pv := "rows") lk hcd scTi StX.cxUp_none (StX.bind_star1 (B := fun us => bindArgs (PySem.W.fnOf "__init__" "Tray.__init__" (defArgs sTrayInit) (defBody sTrayInit) (defScope sTrayInit) .none kV doc pm an cdv ct) ⟨us, []⟩) (p1 := "self") (pv := "rows") (fun _ => rfl) fun _ _ _ => rfl) fun A outer s H vs Q E hr h => ?_
  obtain ⟨p, dx, a, n, m, g, rfl, hp, hS, G, k⟩ := h
  refine ⟨_, pss_cons (ps_set (i := 2) scTi.nd rfl (.inl rfl) (pe_call GF hr rfl mF kF bF .nil pass0 (pa_cons (pv 1) pa_nil)))
    (pss_cons (ps_if (pt_cmpR op_notN (pv 2) pe_non (nomark _)) pss_never pss_nil)
    (pss_one (ps_fld (pv 0) (pv 1) rfl))), ?_⟩
  refine ⟨_, rfl, a, n, m, g, rfl, hS, G, fun H1 sm => ?_⟩
  refine ⟨_, rfl, rfl, _, rfl, iteF ?_⟩
  refine ⟨_, rfl, _, rfl, p, D, dx, [], rfl, sm _ _ hp, CT.cl, CT.nR, (by show 0 < 1000; decide), ?_⟩
  refine k _ ⟨dx, a, upd_same, ?_⟩ fun b o e hb => by rw [upd_ne hb]; exact sm _ _ e
  exact seq_but (sm.tup hS) (sm _ _ hp) (fun _ _ => ⟨by simp, by simp⟩) fun b o e hb => by rw [upd_ne hb]; exact e
theorem scOt : FnScope ["cls", "text", "rows"] ["cls", "text"] (defScope sTrayOfText) := ⟨rfl, rfl, rfl, by decide +kernel, rfl, by decide +kernel, by decide +kernel⟩
def spOt (K : PySem.W.Frag) (D : Addr) : Sp := fun vs H Q _ => ∃ (n m : Nat) (g : Grid), vs = [.ref D, .str (S (TL.joinL [10] g))] ∧ VG n m g ∧ ∀ H' p, Same H H' → TrayAt K D H' p g → Q (.ref p) H'
theorem ok_ot {f fI : Addr} {fd : FuncData} (F : Fun K "of_text" "Tray.of_text" sTrayOfText f fd) (T : TxtW K mg) (M : Mk K D fI)
    (GI : FnR P w K mg base CX0 3 fI (fun vs H Q E => ∃ ws rest, vs = ws ++ rest ∧ ws.length = 1 ∧ rest.length ≤ sizeLine ∧ ∀ p, H p = Option.none → spTi K D (ws ++ [V.ref p]) (upd H p (.tup rest)) Q E)) :
    FnOk P w K mg base CX0 5 f fd ["cls", "text"] (spOt K D) := by
  refine F.ok scOt (fun vs H Q E h => ?_) (fun cdv A outer s H vs Q E hr h => ?_)
  · obtain ⟨n, m, g, rfl, _⟩ := h
    rfl
  · obtain ⟨n, m, g, rfl, G, k⟩ := h
    refine ⟨_, pss_cons (ps_if (pt_not (pt_val (pe_callB call_isi (by rfl) T.isi (by decide +kernel) (pa_cons (pv 1) (pa_cons (pe_bltn (v := .ty "str") (by rfl) T.str (by decide +kernel) rfl) pa_nil))))) pss_never pss_nil)
      (pss_cons (ps_set (i := 2) scOt.nd rfl (.inl rfl) (pe_split (pv 1) pe_str))
      (pss_one (ps_ret (TH.pe_makeSv M GI hr (pv 0) pass0 (pv 2))))), ?_⟩
    refine ⟨_, rfl, _, _, _, _, true, rfl, .ty _, .base (.str _), kit_ty (by decide +kernel), true, rfl, iteF ?_⟩
    have hl : (S (TL.joinL [10] g)).length + 2 ≤ sizeLine := by
      have h1 := joinL_len [10] 8 g fun r hr => G.row hr
      have h2 := G.len
      rw [S_len]
      show _ ≤ 16777216
      have : g.length * (8 + [10].length) = g.length * 9 := rfl
      omega
    refine ⟨_, rfl, ⟨_, rfl⟩, _, _, rfl, rfl, rfl, hl, fun l hl => ?_⟩
    have e : (Txt.split (S (TL.joinL [10] g)) (Str.ofString "\n")).map V.str = rowV g := by
      have := split_back G
      rw [show Str.ofString "\n" = S [10] from rfl, this, List.map_map]
      rfl
    rw [e]
    refine ⟨_, rfl, rfl, _, rfl, l, rowV g, rfl, .inr (SqL.of upd_same), fun x dx nx ndx nex => ?_⟩
    refine ⟨[.ref x], rowV g, rfl, rfl, ?_, fun p hp => ?_⟩
    · have := G.len
      rw [List.length_map]
      show _ ≤ 16777216
      omega
    have hpx : x ≠ p := fun z => by rw [← z, upd_same] at hp; cases hp
    refine ⟨x, dx, p, n, m, g, rfl, by rw [upd_ne hpx, upd_same], SqT.of upd_same, G, fun H' ht kp => ⟨rfl, ?_⟩⟩
    refine k _ _ (fun b o e => ?_) ht
    have hbl : b ≠ l := ne_of_none e hl
    have e1 : upd H l (.lst (rowV g)) b = some o := by rw [upd_ne hbl]; exact e
    have hbx : b ≠ x := ne_of_none e1 nx
    have hbd : b ≠ dx := ne_of_none e1 ndx
    have e2 : (upd (upd (upd H l (.lst (rowV g))) dx (.own x)) x (.ins D dx [])) b = some o := by rw [upd_ne hbx, upd_ne hbd]; exact e1
    exact kp b o (by rw [upd_ne (ne_of_none e2 hp)]; exact e2) hbx
end
end TK
end
section
set_option Elab.async false
set_option maxRecDepth 100000
set_option linter.all false
namespace TH
open PySem PySem.Spec PyProof.Rows L2
section
variable {J J1 : It} {n n1 : Nat} {G G1 : Hp → Prop} {Y Y1 : Nat → Hp → V → Hp → Prop}
/-- the inner walk -/
theorem in_it (w : Walk J1 n1 G1 Y1) {g1 : TG} {tt1 : TT} {te : TE} {vs1 : List Nat} {σ2 : L2.St} {H4 : Hp} {D : Addr} {Qe : Hp → Prop} (Pj : Nat → Hp → Prop) (h0 : Pj 0 H4) (hG : ∀ j H, j ≤ n1 → Pj j H → G1 H)
    (hs : ∀ j x H H', j < n1 → Pj j H → Y1 j H x H' → g1 x (wipe σ2 vs1) H' fun σ3 H5 => wipe σ3 vs1 = wipe σ2 vs1 ∧ tt1 σ3 H5 fun b H6 =>
      if b = true then te σ3 H6 fun y H7 => ∃ acc, H7 D = some (.lst acc) ∧ acc.length < sizeLine ∧ Pj (j + 1) (upd H7 D (.lst (acc ++ [y]))) else Pj (j + 1) H6) (hd : ∀ H, Pj n1 H → Qe H) :
    ∃ W1 : Nat → Nat → Hp → Prop, (∃ m, W1 0 m H4) ∧ ∀ j k H, W1 j k H →
      (J1.stop j H ∧ Qe H) ∨ (J1.go j H ∧ ∃ Nx1 : Hp → Prop, (∀ H', Nx1 H' → ∃ k', k' < k ∧ W1 (j + 1) k' H') ∧ ∀ x H', J1.yld j H x H' → g1 x (wipe σ2 vs1) H' fun σ3 H5 => wipe σ3 vs1 = wipe σ2 vs1 ∧ tt1 σ3 H5 fun b H6 =>
        if b = true then te σ3 H6 fun y H7 => ∃ acc, H7 D = some (.lst acc) ∧ acc.length < sizeLine ∧ Nx1 (upd H7 D (.lst (acc ++ [y]))) else Nx1 H6) := by
  refine ⟨fun i m H => m = n1 - i ∧ i ≤ n1 ∧ Pj i H, ⟨n1, by simp, Nat.zero_le _, h0⟩, ?_⟩
  rintro i m H ⟨rfl, hi, p⟩
  have q := hG i H hi p
  by_cases hlt : i < n1
  · exact .inr ⟨w.goes i H hlt q, Pj (i + 1), fun H' p' => ⟨n1 - (i + 1), by omega, rfl, hlt, p'⟩, fun x H' y => hs i x H H' hlt p (w.yields i H x H' hlt q y)⟩
  · have e : i = n1 := by omega
    subst e
    exact .inl ⟨w.stops H q, hd H p⟩
/-- the outer walk -/
theorem lc2_it (w : Walk J n G Y) {g g1 : TG} {tt tt1 : TT} {wi1 : TI} {te : TE} {vs vs1 : List Nat} {σ : L2.St} {H1 : Hp} {D : Addr} {Qd : Hp → Prop} (Pv : Nat → Hp → Prop) (h0 : Pv 0 (upd H1 D (.lst []))) (hG : ∀ i H, i ≤ n → Pv i H → G H)
    (hs : ∀ i x H H', i < n → Pv i H → Y i H x H' → g x (wipe σ vs) H' fun σ2 H2 => wipe σ2 vs = wipe σ vs ∧ tt σ2 H2 fun b H3 =>
      if b = true then wi1 σ2 H3 fun J1 H4 => ∃ W1 : Nat → Nat → Hp → Prop, (∃ m, W1 0 m H4) ∧ ∀ j k H, W1 j k H →
        (J1.stop j H ∧ Pv (i + 1) H) ∨ (J1.go j H ∧ ∃ Nx1 : Hp → Prop, (∀ H', Nx1 H' → ∃ k', k' < k ∧ W1 (j + 1) k' H') ∧ ∀ x H', J1.yld j H x H' → g1 x (wipe σ2 vs1) H' fun σ3 H5 => wipe σ3 vs1 = wipe σ2 vs1 ∧ tt1 σ3 H5 fun b H6 =>
          if b = true then te σ3 H6 fun y H7 => ∃ acc, H7 D = some (.lst acc) ∧ acc.length < sizeLine ∧ Nx1 (upd H7 D (.lst (acc ++ [y]))) else Nx1 H6)
      else Pv (i + 1) H3) (hd : ∀ H, Pv n H → Qd H) :
    ∃ W : Nat → Nat → Hp → Prop, (∃ m, W 0 m (upd H1 D (.lst []))) ∧ ∀ i m H, W i m H →
      (J.stop i H ∧ Qd H) ∨ (J.go i H ∧ ∃ Nx : Hp → Prop, (∀ H', Nx H' → ∃ m', m' < m ∧ W (i + 1) m' H') ∧ ∀ x H', J.yld i H x H' → g x (wipe σ vs) H' fun σ2 H2 => wipe σ2 vs = wipe σ vs ∧ tt σ2 H2 fun b H3 =>
        if b = true then wi1 σ2 H3 fun J1 H4 => ∃ W1 : Nat → Nat → Hp → Prop, (∃ m, W1 0 m H4) ∧ ∀ j k H, W1 j k H →
          (J1.stop j H ∧ Nx H) ∨ (J1.go j H ∧ ∃ Nx1 : Hp → Prop, (∀ H', Nx1 H' → ∃ k', k' < k ∧ W1 (j + 1) k' H') ∧ ∀ x H', J1.yld j H x H' → g1 x (wipe σ2 vs1) H' fun σ3 H5 => wipe σ3 vs1 = wipe σ2 vs1 ∧ tt1 σ3 H5 fun b H6 =>
            if b = true then te σ3 H6 fun y H7 => ∃ acc, H7 D = some (.lst acc) ∧ acc.length < sizeLine ∧ Nx1 (upd H7 D (.lst (acc ++ [y]))) else Nx1 H6)
        else Nx H3) := by
  refine ⟨fun i m H => m = n - i ∧ i ≤ n ∧ Pv i H, ⟨n, by simp, Nat.zero_le _, h0⟩, ?_⟩
  rintro i m H ⟨rfl, hi, p⟩
  have q := hG i H hi p
  by_cases hlt : i < n
  · exact .inr ⟨w.goes i H hlt q, Pv (i + 1), fun H' p' => ⟨n - (i + 1), by omega, rfl, hlt, p'⟩, fun x H' y => hs i x H H' hlt p (w.yields i H x H' hlt q y)⟩
  · have e : i = n := by omega
    subst e
    exact .inl ⟨w.stops H q, hd H p⟩
end
end TH
end
section
set_option Elab.async false
set_option maxRecDepth 100000
set_option linter.all false
namespace TK
open PySem L2 TM
open PySem.Spec PyProof.Rows TH
section
variable {X : Cx} {n : Nat} {t0 : Tok}
theorem mt_ljustF : MtR X "str.ljust" (fun x xs H Q => ∃ (a : Str) (i : Int) (c : Nat), x = .str a ∧ xs = [.int i, .str ⟨#[c]⟩] ∧ PadOk i = true ∧ Q (.str (Txt.ljustF a i c)) H) := by
  intro pins s σ H x xs v us Q I rx rs h
  obtain ⟨a, i, c, rfl, rfl, hp, q⟩ := h
  obtain ⟨t, rfl⟩ := rx
  obtain ⟨u1, u2, rfl, r1, r2⟩ := vals2 rs
  obtain ⟨t1, rfl⟩ := (show ∃ t, u1 = Value.int i t from r1)
  obtain ⟨t2, rfl⟩ := (show ∃ t, u2 = Value.str ⟨#[c]⟩ t from r2)
  exact ljust_fill hp rfl fun t' k => ⟨.str (Txt.ljustF a i c), H, I.tok k, ⟨t', rfl⟩, q⟩
theorem mt_rjustF : MtR X "str.rjust" (fun x xs H Q => ∃ (a : Str) (i : Int) (c : Nat), x = .str a ∧ xs = [.int i, .str ⟨#[c]⟩] ∧ PadOk i = true ∧ Q (.str (Txt.rjustF a i c)) H) := by
  intro pins s σ H x xs v us Q I rx rs h
  obtain ⟨a, i, c, rfl, rfl, hp, q⟩ := h
  obtain ⟨t, rfl⟩ := rx
  obtain ⟨u1, u2, rfl, r1, r2⟩ := vals2 rs
  obtain ⟨t1, rfl⟩ := (show ∃ t, u1 = Value.int i t from r1)
  obtain ⟨t2, rfl⟩ := (show ∃ t, u2 = Value.str ⟨#[c]⟩ t from r2)
  exact rjust_fill hp rfl fun t' k => ⟨.str (Txt.rjustF a i c), H, I.tok k, ⟨t', rfl⟩, q⟩
/-- o.replace(EMPTY, ''): the signs that are left -/
def tStrike (y : Str) (to : TE) : TE := fun σ H Q => to σ H fun x H1 => ∃ a : Str, x = .str a ∧ a.length + (a.length + 1) * 0 ≤ 16777216 ∧ Q (.str (Txt.replace a y Str.empty)) H1
theorem pen_strike {o : Expr} {to : TE} {x : Str} {y : Str} {k : Nat} {p c apos pos : Pos} (ho : PE X o to) (hg : Gl X x) (hm : X.mg x = some (.str y t0)) (h0 : t0 ≠ 0) (ht : t0 < n) (hy : (y == Str.empty) = false) (hd : (x == ("__debug__" : Str)) = false := by decide)
    (hst : starEach [.Name x p, .Constant (.str Str.empty) k c] X.env = [(false, eval (.Name x p) X.env), (false, eval (.Constant (.str Str.empty) k c) X.env)] := by rfl)
    (hbase : attributeBase o "replace" X.env (eval o X.env) = eval o X.env := by rfl) (hline : (apos.endLine == pos.line) = true := by rfl) :
    PEn n X (.Call (.Attribute o "replace" apos) [.Name x p, .Constant (.str Str.empty) k c] [] pos) (tStrike y to) := by
  intro pins s σ H Q hn I h
  refine PySem.Call_method2 hbase hst hline (thnN hn (ho.run pins s σ H _ I h) fun v s1 hn1 ⟨x1, H1, I1, r1, a, e, hb, q⟩ => ?_)
  subst e
  obtain ⟨ta, rfl⟩ := r1
  refine ⟨"str", _, PySem.F.plainAttrs_str, PySem.F.slot_str_replace, PySem.F.type_str_replace, typeIs_str _ _ _, (fun _ e => nomatch e), Calls.callWith_builtin rfl (Calls.evalArgs_plain (Calls.spliced_cons ?_))⟩
  refine ld_glob I1 hg hm ?_ hd
  refine Calls.spliced_cons (Calls.Constant_str (Calls.spliced_nil ?_))
  have hs : s1.toks ≠ 0 := fun e => by
    rw [e] at hn1
    exact Nat.not_lt_zero _ (Nat.lt_of_lt_of_le ht hn1)
  exact PySem.SC.replace h0 hs (fun e => by rw [e] at ht; exact Nat.lt_irrefl _ (Nat.lt_of_lt_of_le ht hn1)) hy hb fun t' j => ⟨.str (Txt.replace a y Str.empty), H1, I1.tok j, ⟨t', rfl⟩, q⟩
end
theorem strike_mb (l : List Nat) : Txt.replace (S l) (S [46]) Str.empty = S (mb l) := by
  have e := PyProof.Rows.replace_strikes (S l) 46
  rw [S_of (Txt.replace (S l) (S [46]) Str.empty)]
  refine congrArg S ?_
  rw [show (S [46] : Str) = ⟨#[46]⟩ from rfl, show (Str.empty : Str) = ⟨#[]⟩ from rfl, e, S_list]
  rfl
theorem ljust_sl (l : List Nat) : Txt.ljustF (S (mb l)) (l.length : Int) 46 = S (sl true l) := by
  have hle := mb_le l
  unfold Txt.ljustF sl dots
  rw [S_len]
  split
  · rename_i h
    have e : l.length - (mb l).length = 0 := by omega
    rw [if_pos rfl, e]
    simp
  · rw [if_pos rfl]
    unfold Builtin.Str.padded
    simp
theorem rjust_sl (l : List Nat) : Txt.rjustF (S (mb l)) (l.length : Int) 46 = S (sl false l) := by
  have hle := mb_le l
  unfold Txt.rjustF sl dots
  rw [S_len]
  split
  · rename_i h
    have e : l.length - (mb l).length = 0 := by omega
    rw [if_neg Bool.false_ne_true, e]
    simp
  · rw [if_neg Bool.false_ne_true]
    unfold Builtin.Str.padded
    simp
section
variable {P : Program} {w : World} {K : PySem.W.Frag} {mg : Str → Option Value} {base : Heap} {t0 : Tok} {n : Nat}
theorem scSl : FnScope ["line", "to_beginning", "marbles"] ["line", "to_beginning"] (defScope sSlid) := ⟨rfl, rfl, rfl, by decide +kernel, rfl, by decide +kernel, by decide +kernel⟩
def spSl : Sp := fun vs H Q _ => ∃ (l : List Nat) (b : Bool), vs = [.str (S l), .bl b] ∧ l.length ≤ 8 ∧ Q (.str (S (sl b l))) H
theorem ok_sl {f : Addr} {fd : FuncData} (F : Fun K "_slid" "_slid" sSlid f fd) (T : TxtW K mg) (U : TxtT K mg t0) (b : Binds K fd ["line", "to_beginning"] []) (h0 : t0 ≠ 0) (ht : t0 < n) : FnRn n P w K mg base CX0 1 f spSl := by
  refine fn_n F b scSl (fun vs H Q E h => ?_) fun cdv A outer s H vs Q E hr h => ?_
  · obtain ⟨l, b, rfl, _⟩ := h
    rfl
  · obtain ⟨l, b, rfl, h8, k⟩ := h
    have hlen : (S l).length ≤ sizeLine := by
      rw [S_len]
      show _ ≤ 16777216
      omega
    have hpad : PadOk (((S l).length : Nat) : Int) = true := by
      rw [S_len]
      exact padOk_of (by omega) (by omega)
    refine ⟨_, pssn_cons (psn_set (i := 2) scSl.nd rfl (.inl rfl) (pen_strike (pv 0) rfl U.EM h0 ht (by decide +kernel)))
      (pssn_cons (PS.up (ps_if (pt_val (pv 1)) (pss_one (ps_ret (pe_bm PySem.F.plainAttrs_str PySem.F.slot_str_ljust PySem.F.type_str_ljust mt_ljustF (pv 2) (pa_cons (pe_callB call_len_str (by rfl) T.len PySem.boot_len (pa_cons (pv 0) pa_nil)) (pa_cons (C8.pe_gc rfl U.em) pa_nil))))) pss_nil))
      (pssn_one (PS.up (ps_ret (pe_bm PySem.F.plainAttrs_str PySem.F.slot_str_rjust PySem.F.type_str_rjust mt_rjustF (pv 2) (pa_cons (pe_callB call_len_str (by rfl) T.len PySem.boot_len (pa_cons (pv 0) pa_nil)) (pa_cons (C8.pe_gc rfl U.em) pa_nil))))))), ?_⟩
    refine ⟨_, rfl, S l, rfl, ?_, ?_⟩
    · rw [S_len]
      omega
    rw [strike_mb]
    refine ⟨_, rfl, b, rfl, ?_⟩
    cases b with
    | true =>
      refine iteT ⟨_, rfl, rfl, _, rfl, _, rfl, hlen, _, _, 46, rfl, rfl, hpad, ?_⟩
      rw [S_len, ljust_sl]
      exact k
    | false =>
      refine iteF ⟨_, rfl, rfl, _, rfl, _, rfl, hlen, _, _, 46, rfl, rfl, hpad, ?_⟩
      rw [S_len, rjust_sl]
      exact k
end
end TK
end
section
set_option Elab.async false
set_option maxRecDepth 100000
set_option linter.all false
namespace TK
open PySem L2 TM
open PySem.Spec PyProof.Rows TH
theorem at_map {α β : Type} {l : List α} {f : α → β} {i : Nat} {y : β} (h : (l.map f)[i]? = some y) : ∃ r, l[i]? = some r ∧ y = f r := by
  rw [List.getElem?_map] at h
  cases e : l[i]? with
  | none => rw [e] at h; cases h
  | some r => rw [e] at h; exact ⟨r, rfl, (Option.some.inj h).symm⟩
theorem take_map_snoc {α β : Type} {l : List α} {f : α → β} {i : Nat} {r : α} (h : l[i]? = some r) : (l.take (i + 1)).map f = (l.take i).map f ++ [f r] := by
  rw [List.take_add_one, h, List.map_append]
  rfl
/-- what zip hands out: a column -/
theorem col_of {g : Grid} {n m i : Nat} {cs : List Nat} (hr : Rect n m g) (hi : i < m) (hl : cs.length = (g.map S).length) (h : ∀ (k : Nat) (y : Str), (g.map S)[k]? = some y → ∃ c, y.cps[i]? = some c ∧ cs[k]? = some c) : (tr m g)[i]? = some cs := by
  rw [tr_get hi]
  refine congrArg some (List.ext_getElem? fun k => ?_)
  rw [List.getElem?_map]
  cases e : g[k]? with
  | none =>
    have : g.length ≤ k := List.getElem?_eq_none_iff.mp e
    rw [List.length_map] at hl
    rw [List.getElem?_eq_none_iff.mpr (by omega)]
    rfl
  | some r =>
    obtain ⟨c, h1, h2⟩ := h k (S r) (by rw [List.getElem?_map, e]; all_goals rfl)
    rw [S_at] at h1
    rw [h2]
    show some (r.getD i 46) = some c
    rw [List.getD_eq_getElem?_getD, h1]
    rfl
theorem dL (c d : Nat) : decide (sg c = V.str (S [d])) = (c == d) := by
  by_cases h : c = d
  · subst h; simp
  · simp [h]
/-- o.join(e), its reading by K -/
def rJn (K : PySem.W.Frag) : V → List V → Hp → VK → Prop := fun x xs H Q => ∃ a p, ∃ ys : List Str, x = .str a ∧ xs = [.ref p] ∧ (SqL K H p (ys.map V.str) ∨ SqT K H p (ys.map V.str)) ∧ (ys.map (·.length)).sum + ys.length * a.length ≤ 16777216 ∧ Q (.str (Txt.join a ys)) H
theorem pe_joinK {X : Cx} {K : PySem.W.Frag} {o e : Expr} {to te : TE} {apos pos : Pos} (hK : X.K = K) (ho : PE X o to) (he : PE X e te) (hs : starEach [e] X.env = [(false, eval e X.env)] := by rfl) (hbase : attributeBase o "join" X.env (eval o X.env) = eval o X.env := by rfl) (hline : (apos.endLine == pos.line) = true := by rfl) :
    PE X (.Call (.Attribute o "join" apos) [e] [] pos) (tM1 (rJn K) to te) := by
  subst hK
  exact pe_join ho he hs hbase hline
section
variable {P : Program} {w : World} {K : PySem.W.Frag} {mg : Str → Option Value} {base : Heap} {t0 : Tok} {n : Nat} {fS : Addr}
abbrev NTd : List Str := ["rows", "tilt", "columns", "row", "column"]
theorem scTd : FnScope NTd ["rows", "tilt"] (defScope sTilted) := ⟨rfl, rfl, rfl, by decide +kernel, rfl, by decide +kernel, by decide +kernel⟩
def spTd (K : PySem.W.Frag) : Sp := fun vs H Q _ => ∃ (a c h w : Nat) (g : Grid), vs = [.ref a, sg c] ∧ SqT K H a (rowV g) ∧ Rect h w g ∧ 1 ≤ h ∧ h ≤ 8 ∧ 1 ≤ w ∧ w ≤ 8 ∧ ∀ H' b, Same H H' → SqT K H' b (rowV (tilt h w g c)) → Q (.ref b) H'
theorem ok_td {f : Addr} {fd : FuncData} (F : Fun K "_tilted" "_tilted" sTilted f fd) (T : TxtW K mg) (U : TxtT K mg t0) (b : Binds K fd ["rows", "tilt"] []) (GS : FnRn n P w K mg base CX0 1 fS spSl) (kS : PySem.W.keepIn K (.ref fS) = true) (mS : mg "_slid" = some (.ref fS)) : FnRn n P w K mg base CX0 2 f (spTd K) := by
  refine fn_n F b scTd (fun vs H Q E h => ?_) fun cdv A outer s H vs Q E hr h => ?_
  · obtain ⟨a, c, h, w, g, rfl, _⟩ := h
    rfl
  · obtain ⟨a, c, h, w, g, rfl, hS, hr', h1, h8, w1, w8, k⟩ := h
    refine ⟨_, pssn_cons (psn_if (PT.up (pt_cmpR op_in_sign (pv 1) (C8.pe_gc rfl T.AR) (by rfl)))
        (pssn_one (psn_ret (pen_callTy call_tuple_of (by rfl) U.tup (by decide +kernel) (pan_cons (pen_lc (own := [("row", 3)]) (g := gName 3) rfl scTd.nd (pi_tup (pv 0)) (blkOk_by (N := NTd) (sc := defScope sTilted) (by decide +kernel)) (fun _ _ _ _ _ => pg_name (i := 3) scTd.nd rfl (.inl rfl))
          (fun _ _ _ _ _ => pen_call GS hr rfl mS kS pass0 (pan_cons (PE.up (pv 3)) (pan_cons (PE.up (pe_cmpR op_eq (pv 1) pe_str (nomark _))) pan_nil)))) pan_nil)))) (PSs.up pss_nil))
      (pssn_cons (psn_setLc (i := 2) (own := [("column", 4)]) (g := gName 4) rfl scTd.nd rfl rfl (sw_true rfl rfl rfl (by decide +kernel)) (pi_zips (by rfl) U.zip (pv 0)) (blkOk_by (N := NTd) (sc := defScope sTilted) (by decide +kernel)) (fun _ _ _ _ _ => pg_name (i := 4) scTd.nd rfl (.inl rfl))
          (fun _ _ _ _ _ => pen_call GS hr rfl mS kS pass0 (pan_cons (PE.up (pe_joinK (K := K) rfl pe_str (pv 4))) (pan_cons (PE.up (pe_cmpR op_eq (pv 1) pe_str (nomark _))) pan_nil))))
      (pssn_one (PS.up (ps_ret (pe_callTy call_tuple_of (by rfl) U.tup (by decide +kernel) (pa_cons (pe_lc (own := [("row", 3)]) (g := gName 3) (tt := tYes) rfl scTd.nd (pi_zips (by rfl) U.zip (pv 2)) (blkOk_by (N := NTd) (sc := defScope sTilted) (by decide +kernel)) (fun _ _ _ _ _ => pg_name (i := 3) scTd.nd rfl (.inl rfl)) (fun _ _ _ _ _ => pts_nil)
          (fun _ _ _ _ _ => pe_joinK (K := K) rfl pe_str (pv 3))) pa_nil)))))), ?_⟩
    have hrl : ∀ r ∈ g, r.length ≤ 8 := fun r hr => by rw [hr'.2 r hr]; exact w8
    refine ⟨_, rfl, c, S [108, 114], rfl, rfl, _, rfl, ?_⟩
    rw [dAR]
    by_cases hc : isH c = true
    · rw [hc]
      have et : tilt h w g c = TM.LT (c == 108) g := if_pos hc
      refine iteT ⟨_, rfl, a, rfl, ⟨_, hS⟩, fun D hD => lc_tup (K := K) (a := a) (xs := rowV g) (fun i H1 => Same H H1 ∧ H1 D = some (.lst ((g.take i).map fun r => V.str (S (sl (c == 108) r)))))
        ⟨same_new hD, upd_same⟩ (fun i H1 _ ⟨sm, _⟩ => sm.tup hS) ?_ ?_⟩
      · rintro i x H1 hi ⟨sm, hL⟩
        obtain ⟨r, hri, rfl⟩ := at_map hi
        have hrm := List.mem_of_getElem? hri
        refine ⟨rfl, ?_⟩
        refine ⟨_, rfl, _, rfl, rfl, r, c == 108, ?_, hrl r hrm, _, hL, ?_, ?_⟩
        · show [V.str (S r), V.bl (decide (sg c = V.str (S [108])))] = _
          rw [dL]
        · rw [List.length_map, List.length_take]
          show _ < 16777216
          have := hr'.1
          omega
        · refine ⟨same_put sm hD, ?_⟩
          rw [upd_same, take_map_snoc hri]
      · rintro H1 ⟨sm, hL⟩
        rw [List.length_map, List.take_length] at hL
        refine ⟨D, _, rfl, .inl ⟨SqL.of hL, fun l hl => ?_⟩⟩
        refine k _ l (sm.trans (same_new hl)) ?_
        rw [et]
        unfold TM.LT rowV
        rw [List.map_map]
        exact SqT.of upd_same
    · rw [Bool.not_eq_true] at hc
      rw [hc]
      have et : tilt h w g c = UT (c == 117) h w g := if_neg (by rw [hc]; exact Bool.false_ne_true)
      refine iteF ?_
      have hm : ∀ x ∈ g.map S, x.cps.size = w := fun x hx => by
        obtain ⟨r, hr, rfl⟩ := List.mem_map.mp hx
        rw [S_size]
        exact hr'.2 r hr
      have hS' : SqT K H a ((g.map S).map V.str) := by
        rw [List.map_map]
        exact hS
      refine ⟨_, rfl, a, g.map S, w, rfl, .inl hS', ?_, ?_, hm, fun D hD => lc_it walk_zips (fun i H1 => Same H H1 ∧ H1 D = some (.lst (((tr w g).take i).map fun r => V.str (S (sl (c == 117) r)))))
        ⟨same_new hD, upd_same⟩ (fun _ _ _ _ => True.intro) ?_ ?_⟩
      · rw [List.length_map, hr'.1]; omega
      · rw [List.length_map, hr'.1]; omega
      · rintro i x H1 H2 hi ⟨sm, hL⟩ ⟨T, cs, rfl, hT, rfl, hl, hcs⟩
        have hcol := col_of hr' hi hl hcs
        have hlc : cs.length = h := by rw [hl, List.length_map, hr'.1]
        have hL2 : upd H1 T (.tup (cs.map fun c => V.str ⟨#[c]⟩)) D = some (.lst (((tr w g).take i).map fun r => V.str (S (sl (c == 117) r)))) := by
          rw [upd_ne (ne_of_none hL hT)]
          exact hL
        refine ⟨rfl, ?_⟩
        refine ⟨⟨_, rfl⟩, _, rfl, _, T, cs.map fun c => S [c], rfl, rfl, .inr ?_, ?_, _, rfl, rfl, cs, c == 117, ?_, by omega, _, hL2, ?_, ?_⟩
        · rw [List.map_map]
          exact SqT.of upd_same
        · rw [sum_ones, List.length_map]
          show _ + _ * 0 ≤ _
          omega
        · show [V.str (Txt.join (Str.ofString "") (cs.map fun c => S [c])), V.bl (decide (sg c = V.str (S [117])))] = _
          rw [dL, join_signs]
        · rw [List.length_map, List.length_take]
          show _ < 16777216
          omega
        · refine ⟨same_put (sm.trans (same_new hT)) hD, ?_⟩
          rw [upd_same, take_map_snoc hcol]
      · rintro H1 ⟨sm, hL⟩
        have hrt := tr_rect hr'
        have hlt := lt_rect (s := c == 117) hrt
        rw [show (tr w g).take w = tr w g from List.take_of_length_le (by rw [hrt.1]; exact Nat.le_refl _)] at hL
        have hm2 : ∀ x ∈ (TM.LT (c == 117) (tr w g)).map S, x.cps.size = h := fun x hx => by
          obtain ⟨r, hr, rfl⟩ := List.mem_map.mp hx
          rw [S_size]
          exact hlt.2 r hr
        have hL' : SqL K H1 D (((TM.LT (c == 117) (tr w g)).map S).map V.str) := by
          unfold TM.LT
          rw [List.map_map, List.map_map]
          exact SqL.of hL
        refine ⟨_, rfl, D, (TM.LT (c == 117) (tr w g)).map S, h, rfl, .inr hL', ?_, ?_, hm2, fun D2 hD2 => lc_it walk_zips (fun i H2 => Same H H2 ∧ H2 D2 = some (.lst (((UT (c == 117) h w g).take i).map fun r => V.str (S r))))
          ⟨sm.trans (same_new hD2), upd_same⟩ (fun _ _ _ _ => True.intro) ?_ ?_⟩
        · rw [List.length_map, hlt.1]; omega
        · rw [List.length_map, hlt.1]; omega
        · rintro i x H2 H3 hi ⟨sm2, hL2⟩ ⟨T, cs, rfl, hT, rfl, hl, hcs⟩
          have hcol := col_of hlt hi hl hcs
          have hlc : cs.length = w := by rw [hl, List.length_map, hlt.1]
          have hL3 : upd H2 T (.tup (cs.map fun c => V.str ⟨#[c]⟩)) D2 = some (.lst (((UT (c == 117) h w g).take i).map fun r => V.str (S r))) := by
            rw [upd_ne (ne_of_none hL2 hT)]
            exact hL2
          refine ⟨rfl, ?_⟩
          refine ⟨⟨_, rfl⟩, _, rfl, _, T, cs.map fun c => S [c], rfl, rfl, .inr ?_, ?_, _, hL3, ?_, ?_⟩
          · rw [List.map_map]
            exact SqT.of upd_same
          · rw [sum_ones, List.length_map]
            show _ + _ * 0 ≤ _
            omega
          · rw [List.length_map, List.length_take]
            show _ < 16777216
            omega
          · refine ⟨same_put (sm2.trans (same_new hT)) (sm.free hD2), ?_⟩
            rw [upd_same, take_map_snoc (l := UT (c == 117) h w g) hcol, join_signs]
        · rintro H2 ⟨sm2, hL2⟩
          rw [show (UT (c == 117) h w g).take h = UT (c == 117) h w g from List.take_of_length_le (by rw [(ut_rect hr').1]; exact Nat.le_refl _)] at hL2
          refine ⟨D2, _, rfl, .inl ⟨SqL.of hL2, fun l hl => ?_⟩⟩
          refine k _ l (sm2.trans (same_new hl)) ?_
          rw [et]
          exact SqT.of upd_same
end
end TK
end
section
set_option Elab.async false
set_option maxRecDepth 100000
set_option linter.all false
namespace TK
open PySem L2 TM
open PySem.Spec PyProof.Rows TH
theorem mb_flat : ∀ g : Grid, mb g.flatten = (g.map mb).flatten
  | [] => rfl
  | r :: g => by rw [List.flatten_cons, mb_app, mb_flat g]; rfl
theorem flat_cons {f : Nat → Nat} {h : Nat → List Nat} : ∀ l : List Nat, ((l.map fun j => f j :: h j).flatten).Perm (l.map f ++ (l.map h).flatten)
  | [] => List.Perm.refl _
  | a :: l => by
    have ih := flat_cons (f := f) (h := h) l
    simp only [List.map_cons, List.flatten_cons, List.cons_append]
    refine List.Perm.cons _ ((List.Perm.append_left _ ih).trans ?_)
    rw [← List.append_assoc, ← List.append_assoc]
    exact List.Perm.append_right _ List.perm_append_comm
theorem flat_none : ∀ l : List Nat, ((l.map fun _ => ([] : List Nat)).flatten) = []
  | [] => rfl
  | _ :: l => by simp [flat_none l]
theorem get_all {m : Nat} {r : List Nat} (h : r.length = m) : (List.range m).map (fun j => r.getD j 46) = r := by
  subst h
  refine List.ext_getElem? fun k => ?_
  rw [List.getElem?_map]
  by_cases hk : k < r.length
  · rw [List.getElem?_range hk, List.getElem?_eq_getElem hk]
    simp [hk]
  · rw [List.getElem?_eq_none_iff.mpr (by simpa using hk), List.getElem?_eq_none_iff.mpr (by omega)]
    rfl
theorem tr_perm {m : Nat} : ∀ {g : Grid}, (∀ r ∈ g, r.length = m) → ((tr m g).flatten).Perm g.flatten
  | [], _ => by
    unfold tr
    rw [show ((List.range m).map fun j => ([] : Grid).map fun r => r.getD j 46) = (List.range m).map fun _ => [] from rfl, flat_none]
    exact List.Perm.refl _
  | r :: g, h => by
    have ih := tr_perm (g := g) fun z hz => h z (List.mem_cons_of_mem _ hz)
    unfold tr at ih ⊢
    refine (flat_cons (f := fun j => r.getD j 46) (h := fun j => g.map fun r => r.getD j 46) (List.range m)).trans ?_
    rw [get_all (h r List.mem_cons_self), List.flatten_cons]
    exact List.Perm.append_left _ ih
theorem lt_mb (s : Bool) (g : Grid) : mb (TM.LT s g).flatten = mb g.flatten := by
  rw [mb_flat, mb_flat]
  unfold TM.LT
  rw [List.map_map]
  congr 1
  exact List.map_congr_left fun r _ => mb_sl s r
/-- as many marbles, the same ones; and signs that are cells -/
structure Like (g g' : Grid) : Prop where
  pm : (mb g'.flatten).Perm (mb g.flatten)
  ok : (∀ c ∈ g.flatten, Cell c) → ∀ c ∈ g'.flatten, Cell c
theorem Like.trans {a b c : Grid} (x : Like a b) (y : Like b c) : Like a c := ⟨y.pm.trans x.pm, fun h => y.ok (x.ok h)⟩
theorem cell_of {l l' : List Nat} (e : mb l' = mb l) (h : ∀ c ∈ l, Cell c) : ∀ c ∈ l', Cell c := fun c hc => by
  by_cases h46 : c = 46
  · exact .inl h46
  · have : c ∈ mb l' := List.mem_filter.mpr ⟨hc, by simp [h46]⟩
    rw [e] at this
    exact h c (List.mem_filter.mp this).1
theorem like_lt (s : Bool) (g : Grid) : Like g (TM.LT s g) := ⟨by rw [lt_mb], cell_of (lt_mb s g)⟩
theorem like_tr {n m : Nat} {g : Grid} (h : Rect n m g) : Like g (tr m g) :=
  have p := tr_perm (m := m) h.2
  ⟨p.filter _, fun k c hc => k c (p.mem_iff.mp hc)⟩
theorem like_tilt {n m c : Nat} {g : Grid} (h : Rect n m g) : Like g (tilt n m g c) := by
  unfold tilt
  split
  · exact like_lt _ g
  · unfold UT
    exact ((like_tr h).trans (like_lt _ _)).trans (like_tr (lt_rect (tr_rect h)))
theorem VG.tilt {n m c : Nat} {g : Grid} (G : VG n m g) : VG n m (TM.tilt n m g c) := by
  have L := like_tilt (c := c) G.rc
  refine ⟨tilt_rect G.rc, G.n1, G.n8, G.m1, G.m8, fun r hr d hd => ?_, L.pm.nodup_iff.mpr G.nd⟩
  exact L.ok (fun d hd => by
    obtain ⟨r, hr, hd⟩ := List.mem_flatten.mp hd
    exact G.ok r hr d hd) d (List.mem_flatten.mpr ⟨r, hr, hd⟩)
theorem VG.tilts {n m : Nat} : ∀ (t : List Nat) {g : Grid}, VG n m g → VG n m (TM.tilts n m t g)
  | [], _, G => G
  | c :: t, g, G => VG.tilts t (G.tilt (c := c))
section
variable {P : Program} {w : World} {K : PySem.W.Frag} {mg : Str → Option Value} {base : Heap} {t0 : Tok} {n : Nat} {C D pT gT fD fI : Addr} {fdG : FuncData}
theorem scRs : FnScope ["self", "other", "rows", "tilt"] ["self", "other"] (defScope sTrayRshift) := ⟨rfl, rfl, rfl, by decide +kernel, rfl, by decide +kernel, by decide +kernel⟩
def spRs (K : PySem.W.Frag) (C D : Addr) : Sp := fun vs H Q _ => ∃ (p q : Addr) (h w : Nat) (g : Grid) (t : List Nat), vs = [.ref p, .ref q] ∧ TrayAt K D H p g ∧ VG h w g ∧ WordAt C H q t ∧ ∀ H' r, Same H H' → TrayAt K D H' r (tilts h w t g) → Q (.ref r) H'
theorem ok_rs {f : Addr} {fd : FuncData} (F : Fun K "__rshift__" "Tray.__rshift__" sTrayRshift f fd) (T : TxtW K mg) (CW : ClsW K mg C) (CT : ClsT K mg D) (IC : C8.InsC K C) (b : Binds K fd ["self", "other"] [])
    (PT : PropOf K C "text" pT gT) (GT : FnOk P w K mg base CX0 1 gT fdG ["self"] (getSp C "_text")) (bT : Binds K fdG ["self"] [])
    (GD : FnRn n P w K mg base CX0 2 fD (spTd K)) (kD : PySem.W.keepIn K (.ref fD) = true) (mD : mg "_tilted" = some (.ref fD)) (M : Mk K D fI)
    (GI : FnR P w K mg base CX0 3 fI (fun vs H Q E => ∃ ws rest, vs = ws ++ rest ∧ ws.length = 1 ∧ rest.length ≤ sizeLine ∧ ∀ p, H p = Option.none → spTi K D (ws ++ [V.ref p]) (upd H p (.tup rest)) Q E)) :
    FnRn n P w K mg base CX0 5 f (spRs K C D) := by
  refine fn_n F b scRs (fun vs H Q E h => ?_) fun cdv A outer s H vs Q E hr h => ?_
  · obtain ⟨p, q, h, w, g, t, rfl, _⟩ := h
    rfl
  · obtain ⟨p, q, h, w, g, t, rfl, ⟨dx, a, hp, hS⟩, G, ⟨dy, hq⟩, k⟩ := h
    refine ⟨_, pssn_cons (PS.up (ps_if (pt_not (pt_val (pe_callB (C8.call_isC IC) (by rfl) T.isi (by decide +kernel) (pa_cons (pv 1) (pa_cons (pe_glob (v := .ref C) rfl CW.mgC rfl) pa_nil))))) pss_never pss_nil))
      (pssn_cons (PS.up (ps_set (i := 2) scRs.nd rfl (.inl rfl) (pe_fld (pv 0) rfl)))
      (pssn_cons (psn_for PassesOwn.never rfl (pi_str (pe_prop (pv 1) CW.cl PT GT (hr.mono (by decide)) bT .nil pass0 rfl)) (pg_name (i := 3) scRs.nd rfl (.inl rfl))
        (pssn_one (psn_set (i := 2) scRs.nd rfl (.inl rfl) (pen_call GD (hr.mono (by decide)) rfl mD kD pass0 (pan_cons (PE.up (pv 2)) (pan_cons (PE.up (pv 3)) pan_nil))))))
      (pssn_one (PS.up (ps_ret (pe_makeS M GI hr rfl CT.mgC pass0 (pv 2))))))), ?_⟩
    refine ⟨_, rfl, q, dy, _, rfl, hq, true, rfl, iteF ?_⟩
    refine ⟨_, rfl, p, D, dx, _, _, rfl, hp, CT.cl, CT.nR, rfl, ?_⟩
    refine ⟨_, rfl, q, dy, _, rfl, hq, q, dy, _, _, rfl, hq, rfl, S t, rfl, for_it (walk_str (z := S t)) (fun i σ H1 => ∃ b v, σ = [some (.ref p), some (.ref q), some (.ref b), v] ∧ Same H H1 ∧ SqT K H1 b (rowV (tilts h w (t.take i) g)))
      ⟨a, none, rfl, Same.refl H, hS⟩ (fun _ _ _ _ _ => True.intro) ?_ ?_⟩
    · rintro i x σ H1 H2 hi ⟨b, v, rfl, sm, hb⟩ ⟨rfl, c, hc, rfl⟩
      rw [S_at] at hc
      have et : tilts h w (t.take (i + 1)) g = TM.tilt h w (tilts h w (t.take i) g) c := by
        rw [List.take_add_one, hc]
        exact tilts_snoc _ _
      have G2 := VG.tilts (t.take i) G
      refine ⟨_, rfl, _, rfl, b, c, h, w, _, rfl, hb, G2.rc, G.n1, G.n8, G.m1, G.m8, fun H3 b3 sm3 hb3 => ?_⟩
      rw [et]
      exact ⟨b3, _, rfl, sm.trans sm3, hb3⟩
    · rintro σ H1 ⟨b, v, rfl, sm, hb⟩
      rw [S_size, List.take_length] at hb
      have G2 := VG.tilts t G
      refine ⟨_, rfl, b, _, rfl, .inl hb, fun x dx nx ndx nex => ?_⟩
      refine ⟨[.ref x], rowV (tilts h w t g), rfl, rfl, ?_, fun p hp => ?_⟩
      · have := G2.len
        rw [List.length_map]
        show _ ≤ 16777216
        omega
      have hpx : x ≠ p := fun z => by rw [← z, upd_same] at hp; cases hp
      refine ⟨x, dx, p, h, w, _, rfl, by rw [upd_ne hpx, upd_same], SqT.of upd_same, G2, fun H' ht kp => ⟨rfl, ?_⟩⟩
      refine k _ _ (sm.trans fun b o e => ?_) ht
      have hbx : b ≠ x := ne_of_none e nx
      have hbd : b ≠ dx := ne_of_none e ndx
      have e2 : (upd (upd H1 dx (.own x)) x (.ins D dx [])) b = some o := by rw [upd_ne hbx, upd_ne hbd]; exact e
      exact kp b o (by rw [upd_ne (ne_of_none e2 hp)]; exact e2) hbx
end
end TK
end
section
set_option Elab.async false
set_option maxRecDepth 100000
set_option linter.all false
namespace TK
open PySem L2 TM
structure TxtL (K : PySem.W.Frag) (mg : Str → Option Value) : Prop where
  int : mg "int" = none
  range : mg "range" = none
  min : mg "min" = none
/-- the script's list at a, where the drawing stands at r -/
def RowAt (K : PySem.W.Frag) (a : Addr) (ns : List Int) (H : Hp) (r : Addr) : Prop := ∃ i seed rest : Int, H r = some (.lst [.ref a, .int i, .int seed, .int rest]) ∧ 0 ≤ i ∧ SqL K H a (ns.map V.int)
def But (r : Addr) (H H' : Hp) : Prop := ∀ b o, H b = some o → b ≠ r → H' b = some o
theorem But.refl (r : Addr) (H : Hp) : But r H H := fun _ _ h _ => h
theorem But.trans {r : Addr} {H H1 H2 : Hp} (a : But r H H1) (b : But r H1 H2) : But r H H2 := fun c o h n => b c o (a c o h n) n
theorem But.same {r : Addr} {H H' : Hp} (s : Same H H') : But r H H' := fun b o h _ => s b o h
theorem RowAt.same {K : PySem.W.Frag} {a r : Addr} {ns : List Int} {H H' : Hp} (R : RowAt K a ns H r) (s : Same H H') : RowAt K a ns H' r := by
  obtain ⟨i, d, e, h, hi, q⟩ := R
  exact ⟨i, d, e, s _ _ h, hi, s.seq q⟩
theorem row_seq {K : PySem.W.Frag} {a r : Addr} {ns : List Int} {H : Hp} {i d e : Int} {o : HO} (h : H r = some (.lst [.ref a, .int i, .int d, .int e])) (q : SqL K H a (ns.map V.int)) : SqL K (upd H r o) a (ns.map V.int) := by
  have hne : ∀ {u : HO}, H a = some u → (∀ xs, u = .lst xs → xs ≠ [.ref a, .int i, .int d, .int e]) → a ≠ r := fun hu hn e' => by
    subst e'
    exact hn _ (Option.some.inj (hu.symm.trans h)) rfl
  rcases q with (q | ⟨u, q⟩) | q
  · refine .inl (.inl ?_)
    rw [upd_ne (hne q fun xs e => by
      cases e
      intro z
      cases ns with
      | nil => simp at z
      | cons n r => simp at z)]
    exact q
  · refine .inl (.inr ⟨u, ?_⟩)
    rw [upd_ne (hne q fun xs e => by cases e)]
    exact q
  · exact .inr q
theorem fmod_in {k m : Int} (h : 1 ≤ m) : 0 ≤ k.fmod m ∧ k.fmod m < m := by
  rw [Int.fmod_eq_emod_of_nonneg _ (by omega)]
  exact ⟨Int.emod_nonneg _ (by omega), Int.emod_lt_of_pos _ (by omega)⟩
section
variable {P : Program} {w : World} {K : PySem.W.Frag} {mg : Str → Option Value} {base : Heap}
theorem scTk : FnScope ["_law_row", "_law_many", "_law_found", "_law_cell"] ["_law_row", "_law_many"] (defScope sLawTaken) := ⟨rfl, rfl, rfl, by decide +kernel, rfl, by decide +kernel, by decide +kernel⟩
def spTk (K : PySem.W.Frag) (a : Addr) (ns : List Int) : Sp := fun vs H Q _ => ∃ (r : Addr) (m : Int), vs = [.ref r, .int m] ∧ RowAt K a ns H r ∧ 1 ≤ m ∧ m ≤ 1000000000 ∧ ∀ H' (k : Nat), (k : Int) < m → RowAt K a ns H' r → But r H H' → Q (.int k) H'
theorem ok_tk {a : Addr} {ns : List Int} {f : Addr} {fd : FuncData} (F : Fun K "_law_taken" "_law_taken" sLawTaken f fd) (T : TxtW K mg) (L : TxtL K mg) : FnOk P w K mg base CX0 1 f fd ["_law_row", "_law_many"] (spTk K a ns) := by
  refine F.ok scTk (fun vs H Q E h => ?_) (fun cdv A outer s H vs Q E hr h => ?_)
  · obtain ⟨r, m, rfl, _⟩ := h
    rfl
  · obtain ⟨r, m, rfl, ⟨i, d, e, hR, hi, hS⟩, m1, m2, k⟩ := h
    have nd := scTk.nd
    refine ⟨_, pss_cons (ps_if (pt_cmpR op_gt (pe_ix ix_list (pv 0) pe_int (fun _ _ => rfl)) pe_int (nomark _))
        (pss_cons (ps_set (i := 2) nd rfl (.inl rfl) (pe_op op_modN (pe_callTy call_int1 (by rfl) L.int (by decide +kernel) (pa_cons (pe_ix ix_list (pv 0) pe_int (fun _ _ => rfl)) pa_nil)) (pv 1)))
        (pss_cons (ps_asg (pe_op op_fdivN (pe_ix ix_list (pv 0) pe_int (fun _ _ => rfl)) (pv 1)) (pg_sub (pv 0) pe_int set_list))
        (pss_one (ps_ret (pv 2))))) pss_nil)
      (C8.pss_cut (ps_asg (pe_op op_add (pe_ix ix_list (pv 0) pe_int (fun _ _ => rfl)) pe_int) (pg_sub (pv 0) pe_int set_list))
      (pss_cons (ps_if (pt_cmpR op_gt (pe_ix ix_list (pv 0) pe_int (fun _ _ => rfl)) (pe_callB call_len_seq (by rfl) T.len PySem.boot_len (pa_cons (pe_ix ix_list (pv 0) pe_int (fun _ _ => rfl)) pa_nil)) (nomark _))
        (pss_cons (ps_asg (pe_op op_modN (pe_callTy call_int1 (by rfl) L.int (by decide +kernel) (pa_cons (pe_op op_add (pe_op op_mul (pe_ix ix_list (pv 0) pe_int (fun _ _ => rfl)) pe_int) pe_int) pa_nil)) pe_int) (pg_sub (pv 0) pe_int set_list))
        (pss_one (ps_ret (pe_op op_modN (pe_callTy call_int1 (by rfl) L.int (by decide +kernel) (pa_cons (pe_op op_fdivN (pe_ix ix_list (pv 0) pe_int (fun _ _ => rfl)) pe_int) pa_nil)) (pv 1))))) pss_nil)
      (pss_cons (ps_set (i := 3) nd rfl (.inl rfl) (pe_ix ix_list (pe_ix ix_list (pv 0) pe_int (fun _ _ => rfl)) (pe_op op_sub (pe_ix ix_list (pv 0) pe_int (fun _ _ => rfl)) pe_int) (fun _ _ => rfl)))
      (C8.pss_cut (ps_asg (pe_op op_modN (pe_callTy call_int1 (by rfl) L.int (by decide +kernel) (pa_cons (pe_op op_add (pe_op op_add (pe_op op_mul (pe_ix ix_list (pv 0) pe_int (fun _ _ => rfl)) pe_int) (pv 3)) pe_int) pa_nil)) pe_int) (pg_sub (pv 0) pe_int set_list))
      (C8.pss_cut (ps_if (pt_cmpR op_ge (pv 3) (pe_op op_pow pe_int pe_int) (nomark _)) (pss_one (ps_asg (pe_op op_fdivN (pv 3) (pv 1)) (pg_sub (pv 0) pe_int set_list))) pss_nil)
      (pss_one (ps_ret (pe_op op_modN (pe_callTy call_int1 (by rfl) L.int (by decide +kernel) (pa_cons (pv 3) pa_nil)) (pv 1))))))))), ?_⟩
    have m0 : m ≠ 0 := by omega
    have mb : m ≠ 0 ∧ m.natAbs < 1073741824 := ⟨m0, by omega⟩
    have row : ∀ {H1 : Hp} {i d e : Int}, H1 r = some (.lst [.ref a, .int i, .int d, .int e]) → 0 ≤ i → SqL K H1 a (ns.map V.int) → RowAt K a ns H1 r := fun h1 h2 h3 => ⟨_, _, _, h1, h2, h3⟩
    have but : ∀ {H1 : Hp} {o : HO}, But r H H1 → But r H (upd H1 r o) := fun b c o h n => by rw [upd_ne n]; exact b c o h n
    refine ⟨_, rfl, r, _, _, _, rfl, rfl, SqL.of hR, rfl, _, _, rfl, rfl, _, rfl, ?_⟩
    by_cases he : e > 0
    · rw [decide_eq_true he]
      refine iteT ⟨_, rfl, r, _, _, _, rfl, rfl, SqL.of hR, rfl, .inl ⟨_, rfl, _, rfl, _, _, rfl, rfl, m0, ?_⟩⟩
      refine ⟨_, rfl, r, _, _, _, rfl, rfl, SqL.of hR, rfl, _, rfl, _, _, rfl, rfl, mb, _, rfl, r, _, _, 3, rfl, rfl, hR, rfl, ?_⟩
      refine ⟨_, rfl, ?_⟩
      have hk := fmod_in (k := e) m1
      have := k (upd H r (.lst [.ref a, .int i, .int d, .int (e.fdiv m)])) (e.fmod m).toNat (by omega) (row upd_same hi (row_seq hR hS)) (but (But.refl r H))
      rw [Int.toNat_of_nonneg hk.1] at this
      exact this
    · rw [decide_eq_false he]
      refine iteF ?_
      refine ⟨fun σ H1 => σ = [some (.ref r), some (.int m), none, none] ∧ H1 r = some (.lst [.ref a, .int (i + 1), .int d, .int e]) ∧ SqL K H1 a (ns.map V.int) ∧ But r H H1, ?_, ?_⟩
      · refine ⟨_, rfl, r, _, _, _, rfl, rfl, SqL.of hR, rfl, _, _, rfl, rfl, _, rfl, r, _, _, 1, rfl, rfl, hR, rfl, ?_⟩
        exact ⟨rfl, upd_same, row_seq hR hS, but (But.refl r H)⟩
      rintro σ H1 ⟨rfl, hR1, hS1, b1⟩
      refine ⟨_, rfl, r, _, _, _, rfl, rfl, SqL.of hR1, rfl, _, rfl, r, _, _, _, rfl, rfl, SqL.of hR1, rfl, a, _, rfl, .inl hS1, _, _, rfl, rfl, _, rfl, ?_⟩
      rw [List.length_map]
      by_cases hl : i + 1 > (ns.length : Int)
      · rw [decide_eq_true hl]
        refine iteT ⟨_, rfl, r, _, _, _, rfl, rfl, SqL.of hR1, rfl, _, _, rfl, rfl, .inr (by decide), _, _, rfl, rfl, .inl ⟨_, rfl, _, _, rfl, rfl, (by show (2147483647 : Int) ≠ 0; decide), _, rfl, r, _, _, 2, rfl, rfl, hR1, rfl, ?_⟩⟩
        refine ⟨_, rfl, r, _, _, _, rfl, rfl, SqL.of upd_same, rfl, _, _, rfl, rfl, (by show (7 : Int) ≠ 0 ∧ (7 : Int).natAbs < 1073741824; decide), .inl ⟨_, rfl, _, rfl, _, _, rfl, rfl, m0, ?_⟩⟩
        have hk := fmod_in (k := ((d * 48271 + 11).fmod 2147483647).fdiv 7) m1
        have := k (upd H1 r (.lst [.ref a, .int (i + 1), .int ((d * 48271 + 11).fmod 2147483647), .int e])) (((d * 48271 + 11).fmod 2147483647).fdiv 7 |>.fmod m).toNat (by omega) (row upd_same (by omega) (row_seq hR1 hS1)) (but b1)
        rw [Int.toNat_of_nonneg hk.1] at this
        exact this
      · rw [decide_eq_false hl]
        refine iteF ?_
        obtain ⟨c, hc⟩ : ∃ c, ns[i.toNat]? = some c := ⟨_, List.getElem?_eq_getElem (by omega)⟩
        refine ⟨_, rfl, r, _, _, _, rfl, rfl, SqL.of hR1, rfl, _, rfl, r, _, _, _, rfl, rfl, SqL.of hR1, rfl, _, _, rfl, rfl, a, _, _, .int c, rfl, rfl, hS1, ?_, ?_⟩
        · rw [show i + 1 - 1 = ((i.toNat : Nat) : Int) by omega]
          exact atI_nat (by rw [List.getElem?_map, hc]; all_goals rfl)
        refine ⟨fun σ H2 => ∃ d' : Int, σ = [some (.ref r), some (.int m), none, some (.int c)] ∧ H2 r = some (.lst [.ref a, .int (i + 1), .int d', .int e]) ∧ SqL K H2 a (ns.map V.int) ∧ But r H H2, ?_, ?_⟩
        · refine ⟨_, rfl, r, _, _, _, rfl, rfl, SqL.of hR1, rfl, _, _, rfl, rfl, .inr (by decide), _, rfl, _, _, rfl, rfl, _, _, rfl, rfl, .inl ⟨_, rfl, _, _, rfl, rfl, (by show (2147483647 : Int) ≠ 0; decide), _, rfl, r, _, _, 2, rfl, rfl, hR1, rfl, ?_⟩⟩
          exact ⟨_, rfl, upd_same, row_seq hR1 hS1, but b1⟩
        rintro σ H2 ⟨d', rfl, hR2, hS2, b2⟩
        refine ⟨fun σ H3 => ∃ e' : Int, σ = [some (.ref r), some (.int m), none, some (.int c)] ∧ H3 r = some (.lst [.ref a, .int (i + 1), .int d', .int e']) ∧ SqL K H3 a (ns.map V.int) ∧ But r H H3, ?_, ?_⟩
        · refine ⟨_, rfl, _, _, rfl, rfl, ⟨by decide, by decide, by decide⟩, _, _, rfl, rfl, _, rfl, ?_⟩
          refine ite2 (fun _ => ?_) fun _ => ?_
          · refine ⟨_, rfl, _, rfl, _, _, rfl, rfl, mb, _, rfl, r, _, _, 3, rfl, rfl, hR2, rfl, ?_⟩
            exact ⟨_, rfl, upd_same, row_seq hR2 hS2, but b2⟩
          · exact ⟨e, rfl, hR2, hS2, b2⟩
        rintro σ H3 ⟨e', rfl, hR3, hS3, b3⟩
        refine ⟨_, rfl, .inl ⟨_, rfl, _, rfl, _, _, rfl, rfl, m0, ?_⟩⟩
        have hk := fmod_in (k := c) m1
        have := k H3 (c.fmod m).toNat (by omega) (row hR3 (by omega) hS3) b3
        rw [Int.toNat_of_nonneg hk.1] at this
        exact this
end
end TK
end
section
set_option Elab.async false
set_option maxRecDepth 100000
set_option linter.all false
namespace TK
open PySem L2 TM
/-- the letters of a way -/
def lets (k : Nat) : List Nat := match k with
  | 0 => [108, 114, 117, 100]
  | 1 => [108, 117]
  | 2 => [114, 100, 108, 117]
  | _ => [108, 114]
theorem lets_ok : ∀ k, ∀ c ∈ lets k, isT c = true
  | 0 => by decide
  | 1 => by decide
  | 2 => by decide
  | _ + 3 => by show ∀ c ∈ [108, 114], isT c = true; decide
theorem lets_1 : ∀ k, 1 ≤ (lets k).length ∧ (lets k).length ≤ 4
  | 0 => by decide
  | 1 => by decide
  | 2 => by decide
  | _ + 3 => ⟨(by show 1 ≤ 2; decide), (by show 2 ≤ 4; decide)⟩
theorem way_text {k : Nat} (h : k < 4) : ([V.str (S [108, 114, 117, 100]), V.str (S [108, 117]), V.str (S [114, 100, 108, 117]), V.str (S [108, 114])] : List V)[k]? = some (.str (S (lets k))) := by
  match k, h with
  | 0, _ => rfl
  | 1, _ => rfl
  | 2, _ => rfl
  | 3, _ => rfl
theorem way_len {k : Nat} (h : k < 4) : ([V.int 4, V.int 2, V.int 4, V.int 2] : List V)[k]? = some (.int ((lets k).length : Nat)) := by
  match k, h with
  | 0, _ => rfl
  | 1, _ => rfl
  | 2, _ => rfl
  | 3, _ => rfl
section
variable {P : Program} {w : World} {K : PySem.W.Frag} {mg : Str → Option Value} {base : Heap} {a : Addr} {ns : List Int} {fT : Addr} {fdT : FuncData}
abbrev NTx : List Str := ["_law_row", "_law_most", "_law_text_here", "_law_way", "_law_k"]
theorem scTx : FnScope NTx ["_law_row", "_law_most"] (defScope sLawText) := ⟨rfl, rfl, rfl, by decide +kernel, rfl, by decide +kernel, by decide +kernel⟩
def spTx (K : PySem.W.Frag) (a : Addr) (ns : List Int) : Sp := fun vs H Q _ => ∃ (r : Addr) (m : Nat), vs = [.ref r, .int m] ∧ RowAt K a ns H r ∧ m ≤ 60 ∧ ∀ H' t, Good t → t.length ≤ m → RowAt K a ns H' r → But r H H' → Q (.str (S t)) H'
theorem ok_tx {f : Addr} {fd : FuncData} (F : Fun K "_law_text" "_law_text" sLawText f fd) (L : TxtL K mg) (GT : FnOk P w K mg base CX0 1 fT fdT ["_law_row", "_law_many"] (spTk K a ns)) (kT : PySem.W.keepIn K (.ref fT) = true) (bT : Binds K fdT ["_law_row", "_law_many"] []) (mT : mg "_law_taken" = some (.ref fT)) :
    FnOk P w K mg base CX0 2 f fd ["_law_row", "_law_most"] (spTx K a ns) := by
  refine F.ok scTx (fun vs H Q E h => ?_) (fun cdv A outer s H vs Q E hr h => ?_)
  · obtain ⟨r, m, rfl, _⟩ := h
    rfl
  · obtain ⟨r, m, rfl, hR, hm, k⟩ := h
    have nd := scTx.nd
    refine ⟨_, pss_cons (ps_par (i := 2) (j := 3) rfl nd rfl rfl (by decide) rfl rfl (pa_cons pe_str (pa_cons (pe_call GT hr rfl mT kT bT .nil pass0 (pa_cons (pv 0) (pa_cons pe_int pa_nil))) pa_nil)) (by rfl))
      (pss_cons (ps_for PassesOwn.never rfl (pi_range1 (by rfl) L.range (pa_cons (pe_call GT hr rfl mT kT bT .nil pass0 (pa_cons (pv 0) (pa_cons (pe_op op_add (pv 1) pe_int) pa_nil))) pa_nil)) (pg_name (i := 4) nd rfl (.inl rfl))
        (pss_one (ps_set (i := 2) nd rfl (.inl rfl) (pe_op op_add_str (pv 2)
          (pe_ix ix_str (pe_ix ix_list (pe_lst (pa_cons pe_str (pa_cons pe_str (pa_cons pe_str (pa_cons pe_str pa_nil))))) (pv 3) (fun _ _ => rfl))
            (pe_call GT hr rfl mT kT bT .nil pass0 (pa_cons (pv 0) (pa_cons (pe_ix ix_list (pe_lst (pa_cons pe_int (pa_cons pe_int (pa_cons pe_int (pa_cons pe_int pa_nil))))) (pv 3) (fun _ _ => rfl)) pa_nil))) (fun _ _ => rfl))))))
      (pss_one (ps_ret (pv 2)))), ?_⟩
    refine ⟨_, rfl, r, 4, rfl, hR, by decide, by decide, fun H1 way hw R1 b1 => ?_⟩
    refine ⟨_, _, rfl, ?_⟩
    refine ⟨_, rfl, _, rfl, _, _, rfl, rfl, r, (m : Int) + 1, rfl, R1, by omega, by omega, fun H2 j hj R2 b2 => ?_⟩
    refine ⟨(j : Int), rfl, by omega, by omega, for_range (lo := 0) (n := (j : Int).toNat) (fun i σ H3 => ∃ t v, σ = [some (.ref r), some (.int m), some (.str (S t)), some (.int way), v] ∧ t.length = i ∧ (∀ c ∈ t, isT c = true) ∧ RowAt K a ns H3 r ∧ But r H H3)
      ⟨[], none, rfl, rfl, by simp, R2, b1.trans b2⟩ ?_ ?_⟩
    · rintro i σ H3 hi ⟨t, v, rfl, ht, hg, R3, b3⟩
      have hw4 : way < 4 := by omega
      refine ⟨_, rfl, (by show 4 ≤ sizeLine; decide), fun p hp => ?_⟩
      have sm : Same H3 (upd H3 p (.lst [V.str (S [108, 114, 117, 100]), V.str (S [108, 117]), V.str (S [114, 100, 108, 117]), V.str (S [108, 114])])) := same_new hp
      refine ⟨_, rfl, p, _, _, _, rfl, rfl, SqL.of upd_same, atI_nat (way_text hw4), ?_⟩
      refine ⟨_, rfl, (by show 4 ≤ sizeLine; decide), fun q hq => ?_⟩
      refine ⟨_, rfl, q, _, _, _, rfl, rfl, SqL.of upd_same, atI_nat (way_len hw4), ?_⟩
      have R4 := (R3.same sm).same (same_new (o := .lst [V.int 4, V.int 2, V.int 4, V.int 2]) hq)
      refine ⟨r, _, rfl, R4, ?_, ?_, fun H5 d hd R5 b5 => ?_⟩
      · have := (lets_1 way).1; omega
      · have := (lets_1 way).2; omega
      have hd' : d < (lets way).length := by omega
      obtain ⟨c, hc⟩ : ∃ c, (lets way)[d]? = some c := ⟨_, List.getElem?_eq_getElem hd'⟩
      have h4 := (lets_1 way).2
      refine ⟨S (lets way), (d : Int), c, rfl, rfl, ?_, ?_, ?_⟩
      · rw [S_len]
        show _ ≤ 16777216
        omega
      · rw [S_list]
        exact atI_nat hc
      refine ⟨_, _, rfl, rfl, ?_, ?_⟩
      · rw [S_len, ht]
        show i + 1 ≤ 16777216
        omega
      refine ⟨t ++ [c], some (.int (0 + (i : Int))), ?_, ?_, ?_, R5, ?_⟩
      · rw [← show S t ++ ⟨#[c]⟩ = S (t ++ [c]) from SX.S_cat t [c]]
        rfl
      · simp [ht]
      · intro x hx
        rcases List.mem_append.mp hx with hx | hx
        · exact hg x hx
        · rw [List.mem_singleton.mp hx]
          exact lets_ok way c (List.mem_of_getElem? hc)
      · exact ((b3.trans (.same sm)).trans (.same (same_new hq))).trans b5
    · rintro σ H3 ⟨t, v, rfl, ht, hg, R3, b3⟩
      exact ⟨_, rfl, k _ t ⟨by omega, hg⟩ (by omega) R3 b3⟩
end
end TK
end
section
set_option Elab.async false
set_option maxRecDepth 100000
set_option linter.all false
namespace TK
open PySem L2 TM
abbrev intV (l : List Nat) : List V := l.map fun j => V.int (j : Nat)
theorem range_snoc {p : Nat → Bool} (i : Nat) : (List.range (i + 1)).filter p = (List.range i).filter p ++ (if p i then [i] else []) := by
  rw [List.range_succ, List.filter_append]
  congr 1
  by_cases h : p i <;> simp [h]
section
variable {P : Program} {w : World} {K : PySem.W.Frag} {mg : Str → Option Value} {base : Heap}
end
end TK
end
section
set_option Elab.async false
set_option maxRecDepth 100000
set_option linter.all false
namespace TK
open PySem L2 TM
/-- the cells in rows of w -/
def chunk (h w : Nat) (cs : List Nat) : Grid := (List.range h).map fun i => (cs.drop (i * w)).take w
theorem chunk_flat (w : Nat) (cs : List Nat) : ∀ h, (chunk h w cs).flatten = cs.take (h * w)
  | 0 => by simp [chunk]
  | h + 1 => by
    have ih := chunk_flat w cs h
    unfold chunk at ih ⊢
    rw [List.range_succ, List.map_append, List.flatten_append, ih, List.map_singleton, List.flatten_cons, List.flatten_nil, List.append_nil, Nat.succ_mul]
    exact (List.take_add).symm
theorem chunk_rect {h w : Nat} {cs : List Nat} (hl : cs.length = h * w) : Rect h w (chunk h w cs) := by
  refine ⟨by simp [chunk], fun r hr => ?_⟩
  obtain ⟨i, hi, rfl⟩ := List.mem_map.mp hr
  have hi := List.mem_range.mp hi
  rw [List.length_take, List.length_drop, hl]
  have : (i + 1) * w ≤ h * w := Nat.mul_le_mul_right _ hi
  rw [Nat.succ_mul] at this
  omega
/-- k marbles lie, a, b, .. of them -/
structure Lay (k : Nat) (cs : List Nat) : Prop where
  len : (mb cs).length = k
  nd : (mb cs).Nodup
  ab : ∀ c ∈ mb cs, 97 ≤ c ∧ c < 97 + k
theorem Lay.none (n : Nat) : Lay 0 (List.replicate n 46) := by
  have e : mb (List.replicate n 46) = [] := mb_dots n
  exact ⟨by rw [e]; rfl, by rw [e]; exact List.nodup_nil, by rw [e]; intro c hc; cases hc⟩
theorem Lay.cell {k : Nat} {cs : List Nat} (L : Lay k cs) (hk : k ≤ 26) : ∀ c ∈ cs, Cell c := fun c hc => by
  by_cases h : c = 46
  · exact .inl h
  · have := L.ab c (List.mem_filter.mpr ⟨hc, by simp [h]⟩)
    exact .inr ⟨this.1, by omega⟩
theorem Lay.put {k p : Nat} {cs : List Nat} (L : Lay k cs) (hp : cs[p]? = some 46) : Lay (k + 1) (cs.set p (97 + k)) := by
  have hi := (List.getElem?_eq_some_iff.mp hp).1
  have e1 : cs = cs.take p ++ 46 :: cs.drop (p + 1) := by
    have := (List.getElem?_eq_some_iff.mp hp).2
    rw [← this]
    simp
  have e2 : cs.set p (97 + k) = cs.take p ++ (97 + k) :: cs.drop (p + 1) := List.set_eq_take_append_cons_drop ▸ by rw [if_pos hi]
  have m1 : mb cs = mb (cs.take p) ++ mb (cs.drop (p + 1)) := by
    conv => lhs; rw [e1, mb_app]
    simp [mb]
  have m2 : mb (cs.set p (97 + k)) = mb (cs.take p) ++ (97 + k) :: mb (cs.drop (p + 1)) := by
    rw [e2, mb_app]
    have : (97 + k != 46) = true := by simp; omega
    simp [mb, this]
  have pm : (mb (cs.set p (97 + k))).Perm ((97 + k) :: mb cs) := by
    rw [m1, m2]
    exact List.perm_middle
  have fresh : 97 + k ∉ mb cs := fun h => by
    have := L.ab _ h
    omega
  refine ⟨by rw [pm.length_eq, List.length_cons, L.len], pm.nodup_iff.mpr (List.nodup_cons.mpr ⟨fresh, L.nd⟩), fun c hc => ?_⟩
  rcases List.mem_cons.mp (pm.mem_iff.mp hc) with e | e
  · subst e; omega
  · have := L.ab c e
    omega
/-- the free places -/
def frees (cs : List Nat) (n : Nat) : List Nat := (List.range n).filter fun j => cs.getD j 0 == 46
theorem frees_le (cs : List Nat) (n : Nat) : (frees cs n).length ≤ n := by
  have := List.length_filter_le (fun j => cs.getD j 0 == 46) (List.range n)
  rw [List.length_range] at this
  exact this
theorem frees_at {cs : List Nat} {d p : Nat} (h : (frees cs cs.length)[d]? = some p) : cs[p]? = some 46 := by
  have hm := List.mem_filter.mp (List.mem_of_getElem? h)
  have hp := List.mem_range.mp hm.1
  have h2 := hm.2
  rw [List.getD_eq_getElem?_getD, List.getElem?_eq_getElem hp] at h2
  rw [List.getElem?_eq_getElem hp]
  simpa using h2
theorem frees_pos {k : Nat} {cs : List Nat} (L : Lay k cs) (hk : k < cs.length) : 0 < (frees cs cs.length).length := by
  refine Nat.pos_of_ne_zero fun h0 => ?_
  have e : frees cs cs.length = [] := List.length_eq_zero_iff.mp h0
  have all : ∀ c ∈ cs, (c != 46) = true := fun c hc => by
    obtain ⟨j, hj, rfl⟩ := List.mem_iff_getElem.mp hc
    by_cases q : cs[j] = 46
    · have : j ∈ frees cs cs.length := List.mem_filter.mpr ⟨List.mem_range.mpr hj, by rw [List.getD_eq_getElem?_getD, List.getElem?_eq_getElem hj]; simp [q]⟩
      rw [e] at this
      cases this
    · simp [q]
  have : mb cs = cs := List.filter_eq_self.mpr all
  have := L.len
  rw [‹mb cs = cs›] at this
  omega
theorem lay_VG {h w k : Nat} {cs : List Nat} (L : Lay k cs) (hk : k ≤ 26) (hl : cs.length = h * w) (h1 : 1 ≤ h) (h8 : h ≤ 8) (w1 : 1 ≤ w) (w8 : w ≤ 8) : VG h w (chunk h w cs) := by
  have ef : (chunk h w cs).flatten = cs := by rw [chunk_flat, ← hl, List.take_length]
  refine ⟨chunk_rect hl, h1, h8, w1, w8, fun r hr c hc => ?_, by rw [ef]; exact L.nd⟩
  exact L.cell hk c (by rw [← ef]; exact List.mem_flatten.mpr ⟨r, hr, hc⟩)
end TK
end
section
set_option Elab.async false
set_option maxRecDepth 100000
set_option linter.all false
namespace TK
open PySem L2 TM
theorem ix_listK {X : Cx} {K : PySem.W.Frag} (h : X.K = K) : IxR X (rIxL K) := by
  subst h
  exact ix_list
theorem sl_listK {X : Cx} {K : PySem.W.Frag} (h : X.K = K) : SlR X (rSlL K) := by
  subst h
  exact sl_list
theorem but_put {r l : Addr} {H0 H : Hp} {o : HO} (b : But r H0 H) (h : H0 l = none) : But r H0 (upd H l o) := fun c u e n => by
  rw [upd_ne (ne_of_none e h)]
  exact b c u e n
theorem but_none {r l : Addr} {H0 H : Hp} {x : HO} (b : But r H0 H) (hr : H r = some x) (h : H l = none) : H0 l = none := by
  cases e : H0 l with
  | none => rfl
  | some o =>
    have := b l o e (fun q => by subst q; rw [hr] at h; cases h)
    rw [h] at this
    cases this
theorem RowAt.ne {K : PySem.W.Frag} {a r l : Addr} {ns : List Int} {H : Hp} (R : RowAt K a ns H r) (h : H l = none) : l ≠ r := by
  obtain ⟨_, _, _, e, _⟩ := R
  exact (ne_of_none e h).symm
theorem RowAt.none {K : PySem.W.Frag} {a r l : Addr} {ns : List Int} {H0 H : Hp} (R : RowAt K a ns H r) (b : But r H0 H) (h : H l = none) : H0 l = none := by
  obtain ⟨_, _, _, e, _⟩ := R
  exact but_none b e h
/-- a store at a list that is not the drawing's -/
theorem RowAt.put {K : PySem.W.Frag} {a r l : Addr} {ns : List Int} {H : Hp} {xs ys : List V} (R : RowAt K a ns H r) (hl : H l = some (.lst xs)) (hn : l ≠ r) (hs : ∃ c t, xs = sg c :: t) : RowAt K a ns (upd H l (.lst ys)) r := by
  obtain ⟨i, d, e, h, hi, q⟩ := R
  refine ⟨i, d, e, by rw [upd_ne hn.symm]; exact h, hi, ?_⟩
  obtain ⟨c, t, rfl⟩ := hs
  rcases q with (q | ⟨u, q⟩) | q
  · refine .inl (.inl ?_)
    rw [upd_ne (fun e' => by
      subst e'
      have := Option.some.inj (q.symm.trans hl)
      cases ns with
      | nil => cases this
      | cons n r => cases this)]
    exact q
  · refine .inl (.inr ⟨u, ?_⟩)
    rw [upd_ne (fun e' => by
      subst e'
      have := Option.some.inj (q.symm.trans hl)
      cases this)]
    exact q
  · exact .inr q
def side (k : Nat) : Nat := match k with
  | 0 => 3
  | 1 => 5
  | _ => 8
theorem side_at {k : Nat} (h : k < 3) : ([V.int 3, V.int 5, V.int 8] : List V)[k]? = some (.int (side k : Nat)) := by
  match k, h with
  | 0, _ => rfl
  | 1, _ => rfl
  | 2, _ => rfl
theorem side_1 : ∀ k, 1 ≤ side k ∧ side k ≤ 8
  | 0 => by decide
  | 1 => by decide
  | _ + 2 => by show 1 ≤ 8 ∧ 8 ≤ 8; decide
theorem rep_dots (k : Nat) : (List.replicate k [V.str (S [46])]).flatten = (List.replicate k 46).map sg := by
  induction k with
  | zero => rfl
  | succ k ih =>
    rw [List.replicate_succ, List.flatten_cons, ih, List.replicate_succ, List.map_cons]
    rfl
section
variable {P : Program} {w : World} {K : PySem.W.Frag} {mg : Str → Option Value} {base : Heap} {a : Addr} {ns : List Int} {fT : Addr} {fdT : FuncData}
abbrev NRw : List Str := ["_law_row", "_law_most", "_law_height", "_law_width", "_law_cells", "_law_names", "_law_k", "_law_free", "_law_place"]
theorem scRw : FnScope NRw ["_law_row", "_law_most"] (defScope sLawRows) := ⟨rfl, rfl, rfl, by decide +kernel, rfl, by decide +kernel, by decide +kernel⟩
def spRw (K : PySem.W.Frag) (a : Addr) (ns : List Int) : Sp := fun vs H Q _ => ∃ (r : Addr) (m : Nat), vs = [.ref r, .int m] ∧ RowAt K a ns H r ∧ m ≤ 26 ∧ ∀ H' l h w g, VG h w g → H' l = some (.lst (rowV g)) → RowAt K a ns H' r → But r H H' → Q (.ref l) H'
/-- .. and the marbles are the first m at most -/
def spRwN (K : PySem.W.Frag) (a : Addr) (ns : List Int) : Sp := fun vs H Q _ => ∃ (r : Addr) (m : Nat), vs = [.ref r, .int m] ∧ RowAt K a ns H r ∧ m ≤ 26 ∧ ∀ H' l h w g, VG h w g → (∀ c ∈ mb g.flatten, c < 97 + m) → H' l = some (.lst (rowV g)) → RowAt K a ns H' r → But r H H' → Q (.ref l) H'
theorem ok_rwN {f : Addr} {fd : FuncData} (F : Fun K "_law_rows" "_law_rows" sLawRows f fd) (T : TxtW K mg) (L : TxtL K mg) (GT : FnOk P w K mg base CX0 1 fT fdT ["_law_row", "_law_many"] (spTk K a ns)) (kT : PySem.W.keepIn K (.ref fT) = true) (bT : Binds K fdT ["_law_row", "_law_many"] []) (mT : mg "_law_taken" = some (.ref fT)) :
    FnOk P w K mg base CX0 2 f fd ["_law_row", "_law_most"] (spRwN K a ns) := by
  refine F.ok scRw (fun vs H Q E h => ?_) (fun cdv A outer s H vs Q E hr h => ?_)
  · obtain ⟨r, m, rfl, _⟩ := h
    rfl
  · obtain ⟨r, m, rfl, hR, hm, k⟩ := h
    have nd := scRw.nd
    refine ⟨_, C8.pss_cut (ps_set (i := 2) nd rfl (.inl rfl) (pe_op op_add pe_int (pe_call GT hr rfl mT kT bT .nil pass0 (pa_cons (pv 0) (pa_cons (pe_ix ix_list (pe_lst (pa_cons pe_int (pa_cons pe_int (pa_cons pe_int pa_nil)))) (pe_call GT hr rfl mT kT bT .nil pass0 (pa_cons (pv 0) (pa_cons pe_int pa_nil))) (fun _ _ => rfl)) pa_nil)))))
      (C8.pss_cut (ps_set (i := 3) nd rfl (.inr rfl) (pe_op op_add pe_int (pe_call GT hr rfl mT kT bT .nil pass0 (pa_cons (pv 0) (pa_cons (pe_ix ix_list (pe_lst (pa_cons pe_int (pa_cons pe_int (pa_cons pe_int pa_nil)))) (pe_call GT hr rfl mT kT bT .nil pass0 (pa_cons (pv 0) (pa_cons pe_int pa_nil))) (fun _ _ => rfl)) pa_nil)))))
      (C8.pss_cut (ps_set (i := 4) nd rfl (.inr rfl) (pe_op op_rep (pe_lst (pa_cons pe_str pa_nil)) (pe_op op_mul (pv 2) (pv 3))))
      (pss_cons (ps_set (i := 5) nd rfl (.inl rfl) pe_str)
      (pss_cons (ps_for PassesOwn.never rfl (pi_range1 (by rfl) L.range (pa_cons (pe_callB (call_min2 rfl) (by rfl) L.min (by decide +kernel) (pa_cons (pe_op op_mul (pv 2) (pv 3)) (pa_cons (pe_call GT hr rfl mT kT bT .nil pass0 (pa_cons (pv 0) (pa_cons (pe_op op_add (pv 1) pe_int) pa_nil))) pa_nil))) pa_nil)) (pg_name (i := 6) nd rfl (.inl rfl))
        (C8.pss_cut (ps_setLc (i := 7) (own := [("_law_place", 8)]) (g := gName 8) rfl nd rfl rfl (sw_true rfl rfl rfl (by decide +kernel)) (pi_range1 (by rfl) L.range (pa_cons (pe_op op_mul (pv 2) (pv 3)) pa_nil)) (blkOk_by (N := NRw) (sc := defScope sLawRows) (by decide +kernel)) (fun _ _ _ _ _ => pg_name (i := 8) nd rfl (.inl rfl))
            (fun _ _ _ _ _ => pts_one (pt_cmpR op_eq (pe_ix (ix_listK (K := K) rfl) (pv 4) (pv 8) (fun _ _ => rfl)) pe_str (nomark _))) (fun _ _ _ _ _ => pv 8))
        (pss_one (ps_asg (pe_ix ix_str (pv 5) (pv 6) (fun _ _ => rfl)) (pg_sub (pv 4) (pe_ix ix_list (pv 7) (pe_call GT hr rfl mT kT bT .nil pass0 (pa_cons (pv 0) (pa_cons (pe_callB call_len_seq (by rfl) T.len PySem.boot_len (pa_cons (pv 7) pa_nil)) pa_nil))) (fun _ _ => rfl)) set_list)))))
      (pss_one (ps_ret (pe_lc (own := [("_law_k", 6)]) (g := gName 6) (tt := tYes) rfl nd (pi_range1 (by rfl) L.range (pa_cons (pv 2) pa_nil)) (blkOk_by (N := NRw) (sc := defScope sLawRows) (by decide +kernel)) (fun _ _ _ _ _ => pg_name (i := 6) nd rfl (.inl rfl)) (fun _ _ _ _ _ => pts_nil)
        (fun _ _ _ _ _ => pe_joinK (K := K) rfl pe_str (pe_slice (sl_listK (K := K) rfl) (pv 4) (po_some (pe_op op_mul (pv 6) (pv 3))) (po_some (pe_op op_add (pe_op op_mul (pv 6) (pv 3)) (pv 3)))))))))))), ?_⟩
    refine ⟨fun σ H1 => ∃ h : Nat, σ = [some (.ref r), some (.int m), some (.int h), none, none, none, none, none, none] ∧ 1 ≤ h ∧ h ≤ 8 ∧ RowAt K a ns H1 r ∧ But r H H1, ?_, ?_⟩
    · refine ⟨_, rfl, (by show 3 ≤ sizeLine; decide), fun p hp => ⟨_, rfl, r, 3, rfl, hR.same (same_new hp), by decide, by decide, fun HA d hd RA bA => ?_⟩⟩
      have hd3 : d < 3 := by omega
      have s1 := side_1 d
      refine ⟨p, _, _, _, rfl, rfl, SqL.of (bA p _ upd_same (hR.ne hp)), atI_nat (side_at hd3), r, _, rfl, RA, by omega, by omega, fun HB e he RB bB => ?_⟩
      exact ⟨_, _, rfl, rfl, e + 1, by rw [show ((e + 1 : Nat) : Int) = 1 + (e : Int) by omega]; rfl, by omega, by omega, RB, (((But.refl r H).trans (.same (same_new hp))).trans bA).trans bB⟩
    rintro σ H1 ⟨h, rfl, h1, h8, R1, b1⟩
    refine ⟨fun σ H2 => ∃ w : Nat, σ = [some (.ref r), some (.int m), some (.int h), some (.int w), none, none, none, none, none] ∧ 1 ≤ w ∧ w ≤ 8 ∧ RowAt K a ns H2 r ∧ But r H H2, ?_, ?_⟩
    · refine ⟨_, rfl, (by show 3 ≤ sizeLine; decide), fun p hp => ⟨_, rfl, r, 3, rfl, R1.same (same_new hp), by decide, by decide, fun HA d hd RA bA => ?_⟩⟩
      have hd3 : d < 3 := by omega
      have s1 := side_1 d
      refine ⟨p, _, _, _, rfl, rfl, SqL.of (bA p _ upd_same (R1.ne hp)), atI_nat (side_at hd3), r, _, rfl, RA, by omega, by omega, fun HB e he RB bB => ?_⟩
      exact ⟨_, _, rfl, rfl, e + 1, by rw [show ((e + 1 : Nat) : Int) = 1 + (e : Int) by omega]; rfl, by omega, by omega, RB, ((b1.trans (.same (same_new hp))).trans bA).trans bB⟩
    rintro σ H2 ⟨w, rfl, w1, w8, R2, b2⟩
    have hw : h * w ≤ 64 := Nat.mul_le_mul h8 w8
    have hw1 : 1 ≤ h * w := Nat.mul_le_mul h1 w1
    have ehw : (h : Int) * (w : Int) = ((h * w : Nat) : Int) := by simp
    have bh : ((-(2 ^ 64) < (h : Int) ∧ (h : Int) < 2 ^ 64) ∨ (-(2 ^ 64) < (w : Int) ∧ (w : Int) < 2 ^ 64)) := .inl ⟨by omega, by omega⟩
    refine ⟨fun σ H3 => ∃ l, σ = [some (.ref r), some (.int m), some (.int h), some (.int w), some (.ref l), none, none, none, none] ∧ H l = none ∧ l ≠ r ∧ H3 l = some (.lst ((List.replicate (h * w) 46).map sg)) ∧ RowAt K a ns H3 r ∧ But r H H3, ?_, ?_⟩
    · refine ⟨(by show 1 ≤ sizeLine; decide), fun p hp => ⟨_, rfl, _, rfl, _, _, rfl, rfl, bh, ?_⟩⟩
      refine ⟨p, ((h * w : Nat) : Int), _, rfl, congrArg V.int ehw, upd_same, by omega, by omega, ?_, fun q hq => ?_⟩
      · show 1 * ((h * w : Nat) : Int).toNat ≤ 16777216
        rw [Int.toNat_natCast]
        omega
      · rw [Int.toNat_natCast]
        have R3 := R2.same (same_new (o := .lst [V.str (S [46])]) hp)
        have b3 := b2.trans (.same (same_new (o := .lst [V.str (S [46])]) hp))
        refine ⟨q, rfl, R3.none b3 hq, R3.ne hq, ?_, R3.same (same_new hq), b3.trans (.same (same_new hq))⟩
        rw [upd_same, ← rep_dots]
        rfl
    rintro σ H3 ⟨l, rfl, hl0, hlr, hL, R3, b3⟩
    refine ⟨_, rfl, _, rfl, _, _, rfl, rfl, bh, _, rfl, _, rfl, _, _, rfl, rfl, r, (m : Int) + 1, rfl, R3, by omega, by omega, fun H4 kk hkk R4 b4 => ?_⟩
    have hmin : ∃ N : Nat, (if (kk : Int) < (h : Int) * (w : Int) then (kk : Int) else (h : Int) * (w : Int)) = (N : Int) ∧ N ≤ 26 ∧ N ≤ h * w ∧ N ≤ m := by
      rw [ehw]
      by_cases hc : (kk : Int) < ((h * w : Nat) : Int)
      · rw [if_pos hc]
        exact ⟨kk, rfl, by omega, by omega, by omega⟩
      · rw [if_neg hc]
        exact ⟨h * w, rfl, by omega, Nat.le_refl _, by omega⟩
    obtain ⟨N, eN, N26, Nhw, Nm⟩ := hmin
    refine ⟨_, _, rfl, ?_⟩
    refine ⟨(N : Int), congrArg (fun z => [V.int z]) eN, by omega, by omega, for_range (lo := 0) (n := ((N : Nat) : Int).toNat) (fun i σ H5 => ∃ cs v6 v7 v8, σ = [some (.ref r), some (.int m), some (.int h), some (.int w), some (.ref l), some (.str (S letters)), v6, v7, v8] ∧ Lay i cs ∧ cs.length = h * w ∧ H5 l = some (.lst (cs.map sg)) ∧ RowAt K a ns H5 r ∧ But r H H5)
      ⟨_, none, none, none, rfl, Lay.none (h * w), List.length_replicate, b4 _ _ hL hlr, R4, b3.trans b4⟩ ?_ ?_⟩
    · rintro i σ H5 hi ⟨cs, v6, v7, v8, rfl, La, hcs, hL5, R5, b5⟩
      rw [Int.toNat_natCast] at hi
      rw [Int.zero_add]
      refine ⟨fun σ H6 => ∃ D v8, σ = [some (.ref r), some (.int m), some (.int h), some (.int w), some (.ref l), some (.str (S letters)), some (.int (i : Nat)), some (.ref D), v8] ∧ D ≠ r ∧ D ≠ l ∧ H6 D = some (.lst (intV (frees cs cs.length))) ∧ H6 l = some (.lst (cs.map sg)) ∧ RowAt K a ns H6 r ∧ But r H H6, ?_, ?_⟩
      · refine ⟨_, rfl, _, rfl, _, _, rfl, rfl, bh, ?_⟩
        refine ⟨((h * w : Nat) : Int), congrArg (fun z => [V.int z]) ehw, by omega, by omega, fun D hD => lc_range (lo := 0) (n := (((h * w : Nat) : Int)).toNat) (fun j H6 => Same H5 H6 ∧ H6 D = some (.lst (intV ((List.range j).filter fun x => cs.getD x 0 == 46))))
          ⟨same_new hD, upd_same⟩ ?_ ?_⟩
        · rintro j H6 hj ⟨sm, hD6⟩
          rw [Int.toNat_natCast] at hj
          rw [Int.zero_add]
          obtain ⟨d, hd⟩ : ∃ d, cs[j]? = some d := ⟨_, List.getElem?_eq_getElem (by omega)⟩
          refine ⟨rfl, _, rfl, _, rfl, l, _, _, sg d, rfl, rfl, SqL.of (sm _ _ hL5), atI_nat (by rw [List.getElem?_map, hd]; all_goals rfl), rfl, _, rfl, ?_⟩
          rw [show decide (sg d = V.str (Str.ofString ".")) = (d == 46) from dL d 46]
          have eg : cs.getD j 0 = d := by rw [List.getD_eq_getElem?_getD, hd]; rfl
          have es := range_snoc (p := fun x => cs.getD x 0 == 46) j
          by_cases hx : (d == 46) = true
          · rw [hx]
            refine iteT ⟨_, rfl, _, hD6, ?_, same_put sm hD, ?_⟩
            · rw [List.length_map]
              have := List.length_filter_le (fun x => cs.getD x 0 == 46) (List.range j)
              rw [List.length_range] at this
              show _ < 16777216
              omega
            · rw [upd_same, es, if_pos (by rw [eg]; exact hx)]
              simp [intV]
          · rw [Bool.not_eq_true] at hx
            rw [hx]
            refine iteF ⟨sm, ?_⟩
            rw [hD6, es, if_neg (by rw [eg, hx]; exact Bool.false_ne_true), List.append_nil]
        · rintro H6 ⟨sm, hD6⟩
          rw [Int.toNat_natCast, ← hcs] at hD6
          exact ⟨D, _, rfl, R5.ne hD, (ne_of_none hL5 hD).symm, hD6, sm _ _ hL5, R5.same sm, b5.trans (.same sm)⟩
      rintro σ H6 ⟨D, v8', rfl, hDr, hDl, hD6, hL6, R6, b6⟩
      have hpos := frees_pos La (by omega)
      have hfl := frees_le cs cs.length
      have hle : letters[i]? = some (97 + i) := by
        have : i < 26 := by omega
        have all : ∀ i : Fin 26, letters[i.1]? = some (97 + i.1) := by decide
        exact all ⟨i, this⟩
      refine ⟨_, rfl, _, rfl, S letters, (i : Int), 97 + i, rfl, rfl, (by show 26 ≤ sizeLine; decide), by rw [S_list]; exact atI_nat hle, ?_⟩
      refine ⟨_, rfl, _, rfl, _, rfl, _, rfl, D, _, rfl, .inl (SqL.of hD6), ?_⟩
      refine ⟨r, _, rfl, R6, ?_, ?_, fun H7 d hd R7 b7 => ?_⟩
      · rw [List.length_map]; omega
      · rw [List.length_map]; omega
      rw [List.length_map] at hd
      obtain ⟨p, hp⟩ : ∃ p, (frees cs cs.length)[d]? = some p := ⟨_, List.getElem?_eq_getElem (by omega)⟩
      have hcp := frees_at hp
      have hpl : p < cs.length := (List.getElem?_eq_some_iff.mp hcp).1
      have hL7 := b7 _ _ hL6 hlr
      refine ⟨D, _, _, .int (p : Nat), rfl, rfl, SqL.of (b7 _ _ hD6 hDr), atI_nat (by rw [List.getElem?_map, hp]; all_goals rfl), l, _, _, p, rfl, rfl, hL7, ?_, ?_⟩
      · rw [List.length_map]
        unfold ixN
        rw [if_pos (by omega), if_pos (by omega), Int.toNat_natCast]
      · have hs : ∃ c t, cs.map sg = sg c :: t := by
          cases cs with
          | nil => simp at hpl
          | cons c t => exact ⟨c, t.map sg, rfl⟩
        refine ⟨cs.set p (97 + i), _, _, _, rfl, La.put hcp, by rw [List.length_set]; exact hcs, ?_, R7.put hL7 hlr hs, but_put (b6.trans b7) hl0⟩
        rw [upd_same, List.map_set]
    · rintro σ H5 ⟨cs, v6, v7, v8, rfl, La, hcs, hL5, R5, b5⟩
      rw [Int.toNat_natCast] at La
      have La' := La
      have goal := lay_VG La' N26 hcs h1 h8 w1 w8
      refine ⟨_, rfl, (h : Int), rfl, by omega, by omega, fun D hD => lc_range (lo := 0) (n := ((h : Nat) : Int).toNat) (fun i H6 => Same H5 H6 ∧ H6 D = some (.lst ((List.range i).map fun j => V.str (S ((cs.drop (j * w)).take w)))))
          ⟨same_new hD, upd_same⟩ ?_ ?_⟩
      · rintro i H6 hi ⟨sm, hD6⟩
        rw [Int.toNat_natCast] at hi
        rw [Int.zero_add]
        have hiw : i * w + w ≤ h * w := by
          have : (i + 1) * w ≤ h * w := Nat.mul_le_mul_right _ hi
          rw [Nat.succ_mul] at this
          exact this
        have eiw : (i : Int) * (w : Int) = ((i * w : Nat) : Int) := by simp
        have bi : ((-(2 ^ 64) < (i : Int) ∧ (i : Int) < 2 ^ 64) ∨ (-(2 ^ 64) < (w : Int) ∧ (w : Int) < 2 ^ 64)) := .inr ⟨by omega, by omega⟩
        have ecut : cutV (cs.map sg) (some ((i : Int) * (w : Int))) (some ((i : Int) * (w : Int) + (w : Int))) = ((cs.drop (i * w)).take w).map sg := by
          rw [eiw, show ((i * w : Nat) : Int) + (w : Int) = ((i * w + w : Nat) : Int) by omega]
          unfold cutV
          rw [HT.sIx_nat, HT.sIx_nat, List.length_map, hcs, Nat.min_eq_left hiw, Nat.min_eq_left (by omega : i * w ≤ h * w), show i * w + w - i * w = w by omega, List.map_take, List.map_drop]
        refine ⟨rfl, ⟨_, rfl⟩, _, rfl, _, rfl, _, rfl, _, _, rfl, rfl, bi, _, rfl, _, rfl, _, rfl, _, _, rfl, rfl, bi, _, rfl, _, _, rfl, rfl, _, rfl, l, _, rfl, SqL.of (sm _ _ hL5), fun q hq => ?_⟩
        rw [ecut]
        have hD7 : (upd H6 q (.lst (((cs.drop (i * w)).take w).map sg))) D = some (.lst ((List.range i).map fun j => V.str (S ((cs.drop (j * w)).take w)))) := by
          rw [upd_ne (ne_of_none hD6 hq)]
          exact hD6
        refine ⟨_, q, ((cs.drop (i * w)).take w).map fun c => S [c], rfl, rfl, .inl ?_, ?_, _, hD7, ?_, ?_⟩
        · rw [List.map_map]
          exact SqL.of upd_same
        · rw [sum_ones, List.length_map, List.length_take, List.length_drop]
          show _ + _ * 0 ≤ _
          omega
        · rw [List.length_map, List.length_range]
          show _ < 16777216
          omega
        · refine ⟨same_put (sm.trans (same_new hq)) hD, ?_⟩
          rw [upd_same, join_signs, List.range_succ, List.map_append]
          rfl
      · rintro H6 ⟨sm, hD6⟩
        rw [Int.toNat_natCast] at hD6
        refine k _ D h w _ goal (fun c hc => ?_) ?_ (R5.same sm) (b5.trans (.same sm))
        · rw [show (chunk h w cs).flatten = cs by rw [chunk_flat, ← hcs, List.take_length]] at hc
          have := La'.ab c hc
          omega
        rw [hD6]
        unfold rowV chunk
        rw [List.map_map]
        rfl
theorem ok_rw {f : Addr} {fd : FuncData} (F : Fun K "_law_rows" "_law_rows" sLawRows f fd) (T : TxtW K mg) (L : TxtL K mg) (GT : FnOk P w K mg base CX0 1 fT fdT ["_law_row", "_law_many"] (spTk K a ns)) (kT : PySem.W.keepIn K (.ref fT) = true) (bT : Binds K fdT ["_law_row", "_law_many"] []) (mT : mg "_law_taken" = some (.ref fT)) :
    FnOk P w K mg base CX0 2 f fd ["_law_row", "_law_most"] (spRw K a ns) := (ok_rwN F T L GT kT bT mT).imp fun vs H Q E ⟨r, m, e, hR, hm, k⟩ => ⟨r, m, e, hR, hm, fun H' l h w g hV _ => k H' l h w g hV⟩
end
end TK
end
section
set_option Elab.async false
set_option maxRecDepth 100000
set_option linter.all false
namespace TK
open PySem L2 TM
open PySem.Spec PyProof.Rows TH
theorem op_twoN {X : Cx} {CX : CXT} {j n : Nat} {C D g : Addr} {sp : Sp} {E : XK} {op : Operator} (hCD : C ≠ D) (hc : PySem.W.selfFirst X.K C = true) (N : NoOp X.K D op.info.2) (hs : PySem.W.findIn X.K (.ref C) (PySem.dunder op.info.2) = some (some (.ref g))) (hf : PySem.W.isFn X.K (.ref g) = true)
    (F : FnRn n X.prog X.w X.K X.mg X.base CX j g sp) (hr : Room j X.A) (hx : Passes CX X E) : OpRn n X (binaryOp op) (rTwo C D sp E) := by
  intro pins s σ H x y v u Q hn I rx ry h
  obtain ⟨a, dx, fs, b, dy, gs, rfl, rfl, ha, hb, q⟩ := h
  cases (show v = Value.ref a from rx)
  cases (show u = Value.ref b from ry)
  obtain ⟨mA, O, _⟩ := ins_get I.hok ha
  obtain ⟨od, J, _⟩ := O.look
  obtain ⟨mB, O', _⟩ := ins_get I.hok hb
  obtain ⟨od', J', _⟩ := O'.look
  refine binop_two I.kIn J J'.type hCD hc N hs hf ?_
  refine wpAny_mono (wpAny_call (run_fnRn (us := [.ref a, .ref b]) (vs := [.ref a, .ref b]) hn F hr hx I (.cons rfl (.cons rfl .nil)) q)) (fun w s' z => ?_) fun _ _ x => x
  obtain ⟨z', H', I', rz, qz⟩ := z
  exact SlX.cmpback rz ⟨z', H', I', rz, qz⟩
abbrev rowD (g : Grid) : List PyData := g.map fun r => PyData.str (S r)
theorem row_all {K : PySem.W.Frag} {H : Hp} : ∀ g : Grid, DpAll K H (rowV g) (rowD g)
  | [] => .nil
  | _ :: g => .cons (.str _) (row_all g)
theorem row_depth : ∀ g : Grid, PyData.depthAll (rowD g) = 0
  | [] => rfl
  | x :: g => by
    show max (PyData.depth (.str _)) (PyData.depthAll (rowD g)) = 0
    rw [row_depth g]
    rfl
theorem row_lay : ∀ g : Grid, (∀ r ∈ g, ∀ c ∈ r, Cell c) → PyData.canLayAll0 (rowD g) = true
  | [], _ => rfl
  | x :: g, h => by
    show (PyData.canLay0 (.str (S x)) && PyData.canLayAll0 (rowD g)) = true
    rw [row_lay g fun r hr => h r (List.mem_cons_of_mem _ hr), Bool.and_true]
    show (S x).cps.all (· < 0x110000) = true
    rw [← Array.all_toList]
    refine List.all_eq_true.mpr fun c hc => ?_
    have := h x List.mem_cons_self c hc
    unfold Cell at this
    exact decide_eq_true (by omega)
theorem row_shaped {n m : Nat} {g : Grid} (G : VG n m g) : SeqAt.shaped (.tuple (rowD g)) = true := by
  show (PyData.canLayAll0 (rowD g) && decide (PyData.depthAll (rowD g) + 1 ≤ 64)) = true
  rw [row_lay g G.ok, row_depth]
  rfl
theorem row_same {n m : Nat} {g : Grid} (G : VG n m g) : PyData.eqv (.tuple (rowD g)) (.tuple (rowD g)) = true := SeqAt.eqv_refl _ (row_lay g G.ok)
theorem row_sum (k : Nat) : ∀ g : Grid, (∀ r ∈ g, r.length ≤ k) → ((g.map S).map (·.length)).sum ≤ g.length * k
  | [], _ => by simp
  | x :: g, h => by
    have h1 := row_sum k g fun r hr => h r (List.mem_cons_of_mem _ hr)
    have h2 := h x List.mem_cons_self
    rw [List.map_cons, List.map_cons, List.sum_cons, S_len, List.length_cons, Nat.succ_mul]
    omega
end TK
end
section
set_option Elab.async false
set_option maxRecDepth 100000
set_option linter.all false
namespace TP
open PySem L2 TM TK TH
open PySem.Spec PyProof.Rows
def srt (l : List Nat) : List Nat := l.mergeSort (fun a b => decide (a ≤ b))
theorem srt_perm (l : List Nat) : (srt l).Perm l := List.mergeSort_perm _ _
theorem srt_up (l : List Nat) : (srt l).Pairwise (· ≤ ·) := by
  have := List.pairwise_mergeSort (le := fun a b : Nat => decide (a ≤ b)) (fun a b c h1 h2 => by simp at *; omega) (fun a b => by simp; omega) l
  exact this.imp fun h => by simpa using h
theorem rise : ∀ (zs : List Nat) (p : Nat), risingS (S [p]) (zs.map fun c => S [c]) = true → (p :: zs).Pairwise (· ≤ ·)
  | [], p, _ => by simp
  | x :: r, p, h => by
    have h' : (!ltCps [x] [p] && risingS (S [x]) (r.map fun c => S [c])) = true := h
    rw [Bool.and_eq_true] at h'
    have hpx : p ≤ x := by
      have := h'.1
      simp [ltCps] at this
      omega
    have ih := rise r x h'.2
    refine List.pairwise_cons.mpr ⟨fun y hy => ?_, ih⟩
    rcases List.mem_cons.mp hy with e | e
    · omega
    · have := (List.pairwise_cons.mp ih).1 y e
      omega
theorem sort_uniq {ys : List Str} {l : List Nat} (p : ys.Perm (l.map fun c => S [c])) (s : sortedS ys = true) : ys = (srt l).map fun c => S [c] := by
  obtain ⟨zs, rfl⟩ : ∃ zs : List Nat, ys = zs.map fun c => S [c] := by
    have : ∀ y ∈ ys, ∃ c, y = S [c] := fun y hy => by
      obtain ⟨c, _, rfl⟩ := List.mem_map.mp (p.mem_iff.mp hy)
      exact ⟨c, rfl⟩
    clear p s
    induction ys with
    | nil => exact ⟨[], rfl⟩
    | cons y ys ih =>
      obtain ⟨c, rfl⟩ := this y List.mem_cons_self
      obtain ⟨zs, rfl⟩ := ih fun y hy => this y (List.mem_cons_of_mem _ hy)
      exact ⟨c :: zs, rfl⟩
  have pz : zs.Perm l := by
    have := p.map fun y : Str => y.cps.getD 0 0
    have e : ((fun y : Str => y.cps.getD 0 0) ∘ fun c : Nat => S [c]) = id := funext fun c => rfl
    rw [List.map_map, List.map_map, e, List.map_id, List.map_id] at this
    exact this
  have up : zs.Pairwise (· ≤ ·) := by
    cases zs with
    | nil => exact List.Pairwise.nil
    | cons z zs => exact rise zs z s
  have : zs = srt l := List.Perm.eq_of_pairwise (le := (· ≤ ·)) (fun a b _ _ h1 h2 => by omega) up (srt_up l) (pz.trans (srt_perm l).symm)
  rw [this]
section
variable {P : Program} {w : World} {K : PySem.W.Frag} {mg : Str → Option Value} {base : Heap} {D : Addr} {t0 : Tok}
structure TxtM (K : PySem.W.Frag) (mg : Str → Option Value) : Prop where
  em : ∃ u, mg "EMPTY" = some u ∧ RelV (.str (S [46])) u
  srt : mg "sorted" = none
  len : mg "len" = none
abbrev NMb : List Str := ["self", "row", "cell"]
theorem scMb : FnScope NMb ["self"] (defScope sTrayMarbles) := ⟨rfl, rfl, rfl, by decide +kernel, rfl, by decide +kernel, by decide +kernel⟩
def spMb (K : PySem.W.Frag) (D : Addr) : Sp := fun vs H Q _ => ∃ (p : Addr) (h w : Nat) (g : Grid), vs = [.ref p] ∧ TrayAt K D H p g ∧ VG h w g ∧ ∀ H', Same H H' → Q (.str (S (srt (mb g.flatten)))) H'
theorem nodup_le : ∀ (n : Nat) (l : List Nat), l.Nodup → (∀ c ∈ l, 97 ≤ c ∧ c < 97 + n) → l.length ≤ n
  | 0, l, _, h => by
    cases l with
    | nil => exact Nat.le_refl _
    | cons c l =>
      have := h c List.mem_cons_self
      omega
  | n + 1, l, nd, h => by
    by_cases q : (97 + n) ∈ l
    · have e := List.length_erase_of_mem q
      have ih := nodup_le n (l.erase (97 + n)) (nd.erase _) fun c hc => by
        have := (List.Nodup.mem_erase_iff nd).mp hc
        have h2 := h c this.2
        have := this.1
        omega
      omega
    · have ih := nodup_le n l nd fun c hc => by
        have h2 := h c hc
        have : c ≠ 97 + n := fun z => q (by rw [← z]; exact hc)
        omega
      omega
theorem mb_26 {h w : Nat} {g : Grid} (V : VG h w g) : (mb g.flatten).length ≤ 26 := by
  have sub : ∀ c ∈ mb g.flatten, 97 ≤ c ∧ c < 123 := fun c hc => by
    have := List.mem_filter.mp hc
    obtain ⟨r, hr, hcr⟩ := List.mem_flatten.mp this.1
    have h2 := V.ok r hr c hcr
    rcases h2 with h2 | h2
    · subst h2; simp at this
    · exact ⟨by omega, by omega⟩
  exact nodup_le 26 _ V.nd sub
theorem ok_mb {f : Addr} {fd : FuncData} (F : Fun K "marbles" "Tray.marbles" sTrayMarbles f fd) (T : TxtM K mg) (CT : ClsT K mg D) : FnOk P w K mg base CX0 1 f fd ["self"] (spMb K D) := by
  refine F.ok scMb (fun vs H Q E h => ?_) (fun cdv A outer s H vs Q E hr h => ?_)
  · obtain ⟨p, h, w, g, rfl, _⟩ := h
    rfl
  · obtain ⟨p, h, w, g, rfl, ⟨dx, a, hp, hS⟩, hV, k⟩ := h
    have nd := scMb.nd
    refine ⟨_, pss_one (ps_ret (pe_join pe_str (pe_callB cr_sortedS (by rfl) T.srt (by decide +kernel) (pa_cons (pe_lc2 (own := [("row", 1), ("cell", 2)]) (vs1 := [2]) (g := gName 1) (g1 := gName 2) (tt := tYes) rfl nd (pi_tup (pe_fld (pv 0) rfl)) (blkOk_by (N := NMb) (sc := defScope sTrayMarbles) (by decide +kernel)) (by decide)
      (fun _ _ _ _ _ => pg_name (i := 1) nd rfl (.inl rfl)) (fun _ _ _ _ _ => pts_nil) (fun _ _ _ _ _ => pi_str (pv 1)) (fun _ _ _ _ _ => pg_name (i := 2) nd rfl (.inl rfl)) (fun _ _ _ _ _ => pts_one (pt_cmpR op_ne (pv 2) (C8.pe_gc rfl T.em) (nomark _))) (fun _ _ _ _ _ => pv 2)) pa_nil)))), ?_⟩
    refine ⟨⟨_, rfl⟩, _, rfl, p, D, dx, _, _, rfl, hp, CT.cl, CT.nR, rfl, a, rfl, ⟨_, hS⟩, fun E2 hE2 => lc2_it walk_tup (fun i H1 => Same H H1 ∧ H1 E2 = some (.lst ((mb (g.take i).flatten).map sg)))
      ⟨same_new hE2, upd_same⟩ (fun i H1 _ ⟨sm, _⟩ => sm.tup hS) ?_ ?_⟩
    · rintro i x Hz H1 hi ⟨sm, hL⟩ ⟨rfl, hx⟩
      obtain ⟨r, hri, rfl⟩ := at_map hx
      have et : ((g.take (i + 1)).flatten) = (g.take i).flatten ++ r := by
        rw [List.take_add_one, hri, List.flatten_append]
        simp
      refine ⟨rfl, _, rfl, S r, rfl, in_it (walk_str (z := S r)) (fun j H2 => Same H H2 ∧ H2 E2 = some (.lst ((mb (g.take i).flatten ++ mb (r.take j)).map sg))) ⟨sm, by rw [hL]; simp [mb]⟩ (fun _ _ _ _ => True.intro) ?_ ?_⟩
      · rintro j x Hz H2 hj ⟨sm2, hL2⟩ ⟨rfl, c, hc, rfl⟩
        rw [S_at] at hc
        have et2 : mb (r.take (j + 1)) = mb (r.take j) ++ if c = 46 then [] else [c] := by
          rw [List.take_add_one, hc]
          show mb (r.take j ++ [c]) = _
          rw [mb_app]
          by_cases q : c = 46
          · subst q; rfl
          · rw [if_neg q]; simp [mb, q]
        have hlen : (mb (g.take i).flatten ++ mb (r.take j)).length ≤ 1000 := by
          have h1 := mb_le (g.take i).flatten
          have h2 := mb_le (r.take j)
          have h3 : (g.take i).flatten.length ≤ g.flatten.length := by
            have : (g.take i).flatten ++ (g.drop i).flatten = g.flatten := by rw [← List.flatten_append, List.take_append_drop]
            rw [← this, List.length_append]
            omega
          have h4 : g.flatten.length = h * w := by
            rw [List.length_flatten]
            have : g.map List.length = List.replicate h w := List.eq_replicate_iff.mpr ⟨by rw [List.length_map]; exact hV.rc.1, fun x hx => by
              obtain ⟨l, hl, rfl⟩ := List.mem_map.mp hx
              exact hV.rc.2 l hl⟩
            rw [this]
            simp
          have h5 : h * w ≤ 64 := Nat.mul_le_mul hV.n8 hV.m8
          have h6 := hV.row (List.mem_of_getElem? hri)
          rw [List.length_take] at h2
          rw [List.length_append]
          omega
        refine ⟨rfl, _, rfl, rfl, _, rfl, ?_⟩
        rw [show (!decide (V.str (⟨#[c]⟩ : Str) = V.str (S [46]))) = !(c == 46) from congrArg _ (dL c 46)]
        by_cases q : c = 46
        · rw [beq_iff_eq.mpr q]
          refine iteF ⟨sm2, ?_⟩
          rw [hL2, et2, if_pos q, List.append_nil]
        · rw [beq_eq_false_iff_ne.mpr q]
          refine iteT ⟨_, rfl, _, hL2, ?_, same_put sm2 hE2, ?_⟩
          · rw [List.length_map]
            show _ < 16777216
            omega
          · rw [upd_same, et2, if_neg q, ← List.append_assoc, List.map_append (l₂ := [c])]
            rfl
      · rintro H2 ⟨sm2, hL2⟩
        rw [S_size, List.take_length] at hL2
        refine ⟨sm2, ?_⟩
        rw [hL2, et, mb_app]
    · rintro H1 ⟨sm, hL⟩
      rw [List.length_map, List.take_length] at hL
      have h26 := mb_26 hV
      refine ⟨E2, (mb g.flatten).map fun c => S [c], rfl, ?_, ?_, fun ys z pm st hz => ?_⟩
      · rw [List.map_map]
        exact SqL.of hL
      · rw [List.length_map]
        omega
      · have e := sort_uniq pm st
        subst e
        have l26 : (srt (mb g.flatten)).length ≤ 26 := by rw [(srt_perm _).length_eq]; exact h26
        refine ⟨_, z, (srt (mb g.flatten)).map fun c => S [c], rfl, rfl, .inl (SqL.of upd_same), ?_, ?_⟩
        · rw [sum_ones, List.length_map]
          show _ + _ * 0 ≤ _
          omega
        · rw [join_signs]
          exact k _ (sm.trans (same_new hz))
theorem scHt : FnScope ["self"] ["self"] (defScope sTrayHeight) := ⟨rfl, rfl, rfl, by decide +kernel, rfl, by decide +kernel, by decide +kernel⟩
theorem scWd : FnScope ["self"] ["self"] (defScope sTrayWidth) := ⟨rfl, rfl, rfl, by decide +kernel, rfl, by decide +kernel, by decide +kernel⟩
def spHt (K : PySem.W.Frag) (D : Addr) : Sp := fun vs H Q _ => ∃ (p : Addr) (h w : Nat) (g : Grid), vs = [.ref p] ∧ TrayAt K D H p g ∧ VG h w g ∧ Q (.int (h : Nat)) H
def spWd (K : PySem.W.Frag) (D : Addr) : Sp := fun vs H Q _ => ∃ (p : Addr) (h w : Nat) (g : Grid), vs = [.ref p] ∧ TrayAt K D H p g ∧ VG h w g ∧ Q (.int (w : Nat)) H
theorem row0 {h w : Nat} {g : Grid} (G : VG h w g) : ∃ r0, atI (rowV g) ((0 : Nat) : Int) = some (V.str (S r0)) ∧ r0.length = w ∧ r0 ∈ g := by
  have hg : 0 < g.length := by rw [G.rc.1]; exact G.n1
  have e : g[0]? = some g[0] := List.getElem?_eq_getElem hg
  exact ⟨g[0], atI_nat (by rw [List.getElem?_map, e]; all_goals rfl), G.rc.2 _ (List.getElem_mem hg), List.getElem_mem hg⟩
theorem ok_ht {f : Addr} {fd : FuncData} (F : Fun K "height" "Tray.height" sTrayHeight f fd) (T : TxtM K mg) (CT : ClsT K mg D) : FnOk P w K mg base CX0 1 f fd ["self"] (spHt K D) := by
  refine F.ok scHt (fun vs H Q E h => ?_) (fun cdv A outer s H vs Q E hr h => ?_)
  · obtain ⟨p, h, w, g, rfl, _⟩ := h
    rfl
  · obtain ⟨p, h, w, g, rfl, ⟨dx, a, hp, hS⟩, hV, k⟩ := h
    refine ⟨_, pss_one (ps_ret (pe_callB call_len_seq (by rfl) T.len PySem.boot_len (pa_cons (pe_fld (pv 0) rfl) pa_nil))), ?_⟩
    refine ⟨_, rfl, p, D, dx, _, _, rfl, hp, CT.cl, CT.nR, rfl, a, _, rfl, .inr hS, ?_⟩
    rw [List.length_map, hV.rc.1]
    exact k
theorem ok_wd {f : Addr} {fd : FuncData} (F : Fun K "width" "Tray.width" sTrayWidth f fd) (T : TxtM K mg) (CT : ClsT K mg D) : FnOk P w K mg base CX0 1 f fd ["self"] (spWd K D) := by
  refine F.ok scWd (fun vs H Q E h => ?_) (fun cdv A outer s H vs Q E hr h => ?_)
  · obtain ⟨p, h, w, g, rfl, _⟩ := h
    rfl
  · obtain ⟨p, h, w, g, rfl, ⟨dx, a, hp, hS⟩, hV, k⟩ := h
    obtain ⟨r0, e0, l0, m0⟩ := row0 hV
    refine ⟨_, pss_one (ps_ret (pe_callB call_len_str (by rfl) T.len PySem.boot_len (pa_cons (pe_ix ix_tup (pe_fld (pv 0) rfl) pe_int (fun _ _ => rfl)) pa_nil))), ?_⟩
    have := hV.row m0
    refine ⟨_, rfl, p, D, dx, _, _, rfl, hp, CT.cl, CT.nR, rfl, a, _, _, _, rfl, rfl, hS, e0, _, rfl, by rw [S_len]; show _ ≤ 16777216; omega, ?_⟩
    rw [S_len, l0]
    exact k
end
end TP
end
section
set_option Elab.async false
set_option maxRecDepth 100000
set_option linter.all false
namespace TX
open PySem PySem.Spec PyProof.Rows L2
section
variable {X : Cx} {pins : List (Addr × Obj)} {σ : L2.St} {H : Hp} {s : Shared} {A : Around} {E : Value → Shared → Prop}
/-- the bound ValueError.__init__ is called -/
theorem mw_call {u a C : Addr} {us : List Value} {Q : Value → Shared → Prop} (T : OexC X.K C) (I : Inv X pins σ H s) (e : H a = some (exo a C none)) (hu : s.heap.get? u = some (PySem.W.kxs_mw "ValueError.__init__" a)) (hl : us.length ≤ sizeLine)
    (h : ∀ s', Inv X pins σ H s' → Q .none s') : wpAny (model X.prog X.w) A (call (.ref u) us) Q E s := by
  obtain ⟨nm, q, N, bs, bm, sn, sub, ab, col, dd, k0, k1, k2, k3, k5, hC, hbm⟩ := T.cls
  obtain ⟨t1, ho⟩ := exo_at I.hok e
  have hC := I.kIn _ _ hC
  obtain ⟨hp, g, d, t, os⟩ := s
  refine wpAny_call (codeAny_of_tree ?_)
  show wpAny _ A.in1 (callAny (.ref u) ⟨us, []⟩) _ _ _
  simp only [callAny]
  refine wpAny_bind (wpAny_load hu ?_)
  simp only [PySem.W.kxs_mw, show (Value.type "method-wrapper" == Value.type "method" || Value.type "method-wrapper" == Value.type "builtin_function_or_method" || Value.type "method-wrapper" == Value.type "method-wrapper") = true from by decide, if_true]
  refine PySem.W.KFB.if_so (by decide) ?_
  refine wpAny_bind (PySem.W.check_bound_init F.excBase_ValueError.toExcCallFacts hC ho rfl ?_)
  refine wpAny_bind (wpAny_pure (wpAny_pure ?_))
  refine ⟨plainId_quiet F.excBase_ValueError.init.plain _, ?_⟩
  refine codeAny_builtin F.excBase_ValueError.initEntry ?_
  refine PySem.W.exc_init_tree (cls := .ref C) (t0 := t1) (dv := none) (c2 := .none) (c3 := .none) (b4 := .bool false) ho hl fun h' k hx _ => ?_
  have J := I.write (t' := t) (x := a) (e := a) (o := exo a C none) (by rw [e]; exact True.intro) (.inl rfl) k ⟨_, hx⟩ (exo_ok hx)
  have eu : upd H a (exo a C none) = H := by
    funext b
    by_cases hb : b = a
    · rw [hb, upd_same, e]
    · rw [upd_ne hb]
  rw [eu] at J
  exact h _ J
end
/-- what is written of an __init__ at f that says super().__init__(..): its class at C, its cell at cc, its code at cda -/
structure SupI (P : Program) (K : PySem.W.Frag) (C f cc cda : Addr) (fd : FuncData) (ar : Arg) : Prop where
  fn : ∃ oc od osl, K.lookup f = some ⟨oc, od, .func fd, osl⟩
  hd : (fd.params.posonlyargs ++ fd.params.args).head? = some ar
  code : ∃ ccl cdd vs ccs file tf, K.lookup cda = some ⟨ccl, cdd, .fields vs, ccs⟩ ∧ vs[2]? = some (.str file tf) ∧ ((P.main.file : Str) == file) = true
  cell : ∃ cl cld csl, K.lookup cc = some ⟨cl, cld, .cell (some (.ref C)), csl⟩
  sub : PySem.W.mroIn K C (.ref C) = some true
  sup : PySem.W.ks_superIn K C C "__init__" = some (some (.builtin "ValueError.__init__"))
  ve : PySem.W.subIn K (.ref C) (.type "ValueError") = some true
  op : PySem.W.nsIn K cStatics "thirdparty.any" = some none
  top : (P.main.scope.names.lookup ("super" : Str)).isSome = false
section
variable {X : Cx} {pins : List (Addr × Obj)} {σ : L2.St} {H : Hp} {s : Shared}
theorem super_stmt {a C f cc cda : Addr} {fd : FuncData} {ar : Arg} {arg : Expr} {body : List Stmt} {t : TA} {p0 p1 apos pos spos : Pos} {Qn : Hp → Prop} {pl : Sem Bool} (S : SupI X.prog X.K C f cc cda fd ar) (T : OexC X.K C) (hm : X.mg "super" = none)
    (hfu : X.env.func = some f) (hco : X.env.code = .ref cda) (hce : X.env.cells.lookup ("__class__" : Str) = some cc) (hks : X.env.scope.names.lookup ("super" : Str) = some .globalImplicit) (hkc : X.env.scope.names.lookup ("__class__" : Str) = some .free) (hka : X.env.scope.names.lookup ar.arg = some .local) (hN : X.N[0]? = some ar.arg)
    (hc : eval (.Call (.Attribute (.Call (.Name "super" p0) [] [] p1) "__init__" apos) [arg] [] pos) X.env = (do
      let ov ← attributeBase (.Call (.Name "super" p0) [] [] p1) "__init__" X.env (eval (.Call (.Name "super" p0) [] [] p1) X.env)
      standAt apos.atName
      let (f, first) ← holding [ov] (getMethod ov "__init__" pl)
      callWith pos f first (backTo pos (starEach [arg] X.env)) []))
    (hsw : swapsWith (.Call (.Attribute (.Call (.Name "super" p0) [] [] p1) "__init__" apos) [arg] [] pos) none spos.line X.env = pure false)
    (hi : interactive X.env = false) (I : Inv X pins σ H s) (hσ : σ[0]? = some (some (.ref a))) (e : H a = some (exo a C none)) (ha : PA X [arg] t) (hstar : starEach [arg] X.env = [(false, eval arg X.env)])
    (ht : t σ H fun vs H1 => vs.length ≤ 1000 ∧ H1 a = some (exo a C none) ∧ Qn H1) :
    PySem.wpAt (model X.prog X.w) X.A (.func body X.env) (exec (.Expr (.Call (.Attribute (.Call (.Name "super" p0) [] [] p1) "__init__" apos) [arg] [] pos) spos) X.env) (fun fl s' => fl = .next ∧ ∃ H1, Inv X pins σ H1 s' ∧ Qn H1) X.xe s := by
  obtain ⟨oc, od, osl, hf⟩ := S.fn
  obtain ⟨ccl, cdd, vs, ccs, file, tf, hcode, hvs, hfile⟩ := S.code
  obtain ⟨cl, cld, csl, hcell⟩ := S.cell
  have hsup := S.sup
  unfold PySem.W.ks_superIn at hsup
  cases hcd : PySem.W.clsIn X.K C with
  | none => rw [hcd] at hsup; cases hsup
  | some cd =>
  rw [hcd] at hsup
  obtain ⟨t1, ho⟩ := exo_at I.hok e
  obtain ⟨mb, hb1, hb2⟩ := I.ok.mod.blt
  obtain ⟨m, hns, hloc⟩ := I.loc
  obtain ⟨u0, ru, hlook⟩ := hloc 0 ar.arg (.ref a) hN hσ (.inl hka)
  obtain rfl : u0 = Value.ref a := ru
  refine ks_wpAt_Expr_any (ks_wpAt_MethodCall ?_ hc) hi hsw
  obtain ⟨hp, g, d, tk, os⟩ := s
  have hD := hcd
  unfold PySem.W.clsIn at hD
  split at hD
  · rename_i c0 d0 cd0 sl0 hCl
    cases hD
    have hCo := I.kIn _ _ hCl
    refine ks_wpAt_super_base (f := f) (cc := cda) (ar := ar) (vs := vs) (file := file) (tf := tf) (fd := fd) hks hkc (by decide) hfu (I.kIn _ _ hf) rfl S.hd hco (I.kIn _ _ hcode) rfl hvs hfile S.top ?_
    refine PySem.W.ks_loadName_global I.ok.kind hks (Calls.loadGlobal_builtin (by rw [I.ok.glob]; exact I.ok.mod.glob.keeps I.bk) hm (by rw [I.ok.blt]; exact hb1.keeps I.bk) ((hb2 "super" (by decide)).trans (by decide +kernel)) ⟨rfl, ?_⟩)
    refine wpAny_loadName_free I.ok.kind hkc hce ⟨_, I.kIn _ _ hcell, rfl⟩ ?_
    rcases hlook with ⟨_, hv⟩ | ⟨hk, _⟩
    · refine wpAny_loadName_local I.ok.kind hka hns hv ?_
      refine ks_wpAny_isType_cls hCo rfl ⟨rfl, ?_⟩
      refine ks_wpAny_call_super hCo rfl ho rfl (fun c z => nomatch z) (PySem.W.looks_mroIn I.kIn S.sub) fun h' e1 k1 => ?_
      have I1 : Inv X pins σ H ⟨h', g, d, tk, os⟩ := I.kept (t' := tk) k1
      obtain ⟨t2, ho1⟩ := exo_at I1.hok e
      have hne : a ≠ C := fun z => by
        subst z
        rw [ho] at hCo
        cases hCo
      refine PySem.W.kxs_getMethod PySem.W.kxs_ValueError e1 (PySem.W.looks_opaque I1.kIn S.op) (l₀ := _) (fun A Q E s k q => wpAny_bind ((PySem.W.looks_clsIn I1.kIn hcd) A _ E s k (wpAny_pure q))) rfl I1.kIn hsup ((show PySem.W.InstAt h' a _ C none from ⟨ho1, rfl, rfl, True.intro⟩).type.andThen (PySem.W.looks_subIn I1.kIn S.ve)) hne (by decide) ?_
      have I2 := ClX.pin_new (a := h'.objs.size) (o := PySem.W.kxs_mw "ValueError.__init__" a) (t' := tk + 1) I1 (fun _ _ z => Heap.get?_push_of_some _ z) (Nat.le_refl _) (Heap.get?_push_size h' rfl) (fun v z => nomatch z)
      have hrun := ha.run pos _ _ σ H _ I2 ht
      rw [hstar] at hrun ⊢
      refine PySem.W.kxs_callWith (i := "ValueError.__init__") (x := a) rfl (Calls.evalArgs_plain (thn hrun fun us s3 ⟨ws, H3, I3, rv, hl, e3, q⟩ => ⟨ClX.pin_at I3, ?_⟩))
      refine mw_call T I3 e3 (ClX.pin_at I3) ?_ fun s4 I4 => ⟨rfl, H3, ClX.unpin I4, q⟩
      show us.length ≤ sizeLine
      rw [← rv.length]
      exact Nat.le_trans hl (by decide)
    · have hk' : X.env.scope.names.lookup ar.arg = some .cell ∨ X.env.scope.names.lookup ar.arg = some .free := hk
      rw [hka] at hk'
      rcases hk' with z | z <;> cases z
  · cases hD
end
end TX
end
section
set_option Elab.async false
set_option maxRecDepth 100000
set_option linter.all false
namespace TX
open PySem PySem.Spec PyProof.Rows L2 NdefX
theorem super_fn {CX : CXT} {P : Program} {w : World} {K : PySem.W.Frag} {mg : Str → Option Value} {base : Heap} {k : Nat} {f C cc cda : Addr} {name qual : Str} {params : Arguments} {body rest : List Stmt} {scope : Scope} {kV doc pm ct oc : Value} {an od : Option Addr} {osl : Array (Option Value)}
    {N ps : List Str} {sp : Sp} {ar : Arg} {arg : Expr} {p0 p1 apos pos spos : Pos}
    (lk : K.lookup f = some ⟨oc, od, .func (PySem.W.fnX name qual params body scope [("__class__", cc)] .none kV doc pm an (.ref cda) ct), osl⟩) (hcd : PySem.W.codeIn K (.ref cda) qual = true) (S : NScope N ps ["__class__"] scope)
    (U : SupI P K C f cc cda (PySem.W.fnX name qual params body scope [("__class__", cc)] .none kV doc pm an (.ref cda) ct) ar) (T : OexC K C) (hm : mg "super" = none)
    (hbd : body = .Expr (.Call (.Attribute (.Call (.Name "super" p0) [] [] p1) "__init__" apos) [arg] [] pos) spos :: rest)
    (hks : scope.names.lookup ("super" : Str) = some .globalImplicit) (hka : scope.names.lookup ar.arg = some .local) (hN : N[0]? = some ar.arg) (len : ∀ vs H Q E, sp vs H Q E → vs.length = ps.length)
    (hst : ∀ env : Env, ∀ L : Addr, env = envF ⟨name, qual, params, body, scope, [("__class__", cc)], cda⟩ f L → ∃ pl : Sem Bool, eval (.Call (.Attribute (.Call (.Name "super" p0) [] [] p1) "__init__" apos) [arg] [] pos) env = (do
      let ov ← attributeBase (.Call (.Name "super" p0) [] [] p1) "__init__" env (eval (.Call (.Name "super" p0) [] [] p1) env)
      standAt apos.atName
      let (f, first) ← holding [ov] (getMethod ov "__init__" pl)
      callWith pos f first (backTo pos (starEach [arg] env)) []) ∧ swapsWith (.Call (.Attribute (.Call (.Name "super" p0) [] [] p1) "__init__" apos) [arg] [] pos) none spos.line env = pure false ∧ interactive env = false ∧ starEach [arg] env = [(false, eval arg env)])
    (hbody : ∀ (A : Around) (outer : List Env) (s : Shared) (H : Hp) (vs : List V) (Q : VK) (E : XK), sp vs H Q E → ∃ (a : Addr) (Mid : Hp → Prop) (ta : TA) (t : TS),
      PA (ncx CX P w K mg base N ⟨name, qual, params, body, scope, [("__class__", cc)], cda⟩ f A outer s H E) [arg] ta ∧ PSs (ncx CX P w K mg base N ⟨name, qual, params, body, scope, [("__class__", cc)], cda⟩ f A outer s H E) rest t ∧
      (startF N vs [some (.ref C)])[0]? = some (some (.ref a)) ∧ H a = some (exo a C none) ∧ ta (startF N vs [some (.ref C)]) H (fun vs H1 => vs.length ≤ 1000 ∧ H1 a = some (exo a C none) ∧ Mid H1) ∧
      ∀ H1, Mid H1 → t { nx := fun _ H' => Q .non H', rt := Q } (startF N vs [some (.ref C)]) H1) :
    FnOk P w K mg base CX (k + 1) f (PySem.W.fnX name qual params body scope [("__class__", cc)] .none kV doc pm an (.ref cda) ct) ps sp := by
  refine ⟨len, fun A outer s H args us vs Q E hr e0 hb r hsp => ?_⟩
  have hl := len _ _ _ _ hsp
  have KX : K.In s.heap := e0.mod.kin.keeps fun b o e => (e0.bs b o e).1
  have lim : s.heap.NoLimit := e0.mod.nolimit.keeps fun b o e => (e0.bs b o e).1
  obtain ⟨cl, cld, csl, hcell⟩ := U.cell
  have one : ∀ {y : Str} {c : Addr}, ([("__class__", cc)] : List (Str × Addr)).lookup y = some c → y = "__class__" ∧ c = cc := fun {y c} h => by
    rw [List.lookup_cons] at h
    cases e : (y == ("__class__" : Str)) with
    | true => rw [e] at h; exact ⟨eq_of_beq e, (Option.some.inj h).symm⟩
    | false => rw [e] at h; cases h
  have cells : CellsAt [("__class__", cc)] ["__class__"] [some (.ref C)] s.heap H := by
    refine ⟨rfl, fun y c h => ?_, fun x y c h1 h2 => (one h1).1.trans (one h2).1.symm, fun i y h => ?_⟩
    · obtain ⟨rfl, rfl⟩ := one h
      exact ⟨(e0.bs _ _ (e0.mod.kin _ _ hcell)).2, _, _, KX _ _ hcell, rfl⟩
    · match i, h with
      | 0, h =>
        obtain rfl : ("__class__" : Str) = y := Option.some.inj h
        exact ⟨cc, rfl, fun v e => ⟨.ref C, by cases e; rfl, _, KX _ _ hcell, rfl⟩⟩
      | i + 1, h => cases h
  obtain ⟨a, Mid, ta, t, hA, hS, h0, ea, hta, ht⟩ := hbody A outer s H vs Q E hsp
  refine ks_codeAny_call_defAt (body := body) (binds := ps.zip us) hr.depth (KX _ _ lk) rfl lim (PySem.W.codeRec_of KX hcd) rfl hb S.nocell (fun ⟨n, _⟩ hy => S.par n (List.of_mem_zip hy).1) (fun h₁ hns kp => ?_) S.co S.gen S.kind
  have I : Inv (ncx CX P w K mg base N ⟨name, qual, params, body, scope, [("__class__", cc)], cda⟩ f A outer s H E) [] (startF N vs [some (.ref C)]) H { s with heap := h₁, toks := s.toks + (ps.zip us).length } := inv_startN S hr.hd e0 hl r cells hns kp
  obtain ⟨pl, hc, hsw, hi, hstar⟩ := hst (envF ⟨name, qual, params, body, scope, [("__class__", cc)], cda⟩ f s.heap.objs.size) _ rfl
  have fin : ∀ {σ' : L2.St} {H' : Hp} {v : V} {u : Value} {s' : Shared}, Inv (ncx CX P w K mg base N ⟨name, qual, params, body, scope, [("__class__", cc)], cda⟩ f A outer s H E) [] σ' H' s' → L2.RelV v u → Q v H' → CE outer P w H s Q u s' :=
    fun {σ' H' v u s'} J rv q => ⟨v, H', J.os, J.bare, J.base, J.hok, rv, q⟩
  have first := super_stmt (X := ncx CX P w K mg base N ⟨name, qual, params, body, scope, [("__class__", cc)], cda⟩ f A outer s H E) (body := body) (Qn := Mid) U T hm rfl rfl rfl hks (S.frk _ (by simp)) hka hN hc hsw hi I h0 ea hA hstar hta
  subst hbd
  refine ks_wpAt_execs_cons (ks_wpAt_mono first (fun fl s1 ⟨e, H1, I1, q1⟩ => ?_) fun _ _ z => z)
  subst e
  refine wpAt_of_wpAny (wpAny_mono (hS.run [] s1 _ H1 _ I1 (ht H1 q1)) (fun fl s' hs => ?_) fun _ _ z => z)
  cases fl with
  | ret u =>
    obtain ⟨v, σ', H', J, rv, q⟩ := hs
    exact fin J rv q
  | next =>
    obtain ⟨σ', H', J, q⟩ := hs
    exact fin (v := V.non) (u := Value.none) J rfl q
  | brk =>
    obtain ⟨_, _, _, q⟩ := hs
    exact False.elim q
  | cont =>
    obtain ⟨_, _, _, q⟩ := hs
    exact False.elim q
end TX
end
section
set_option Elab.async false
set_option maxRecDepth 100000
set_option linter.all false
namespace TX
open PySem PySem.Spec PyProof.Rows L2 NdefX TK
section
variable {CX : CXT} {P : Program} {w : World} {K : PySem.W.Frag} {mg : Str → Option Value} {base : Heap} {f C cc cda : Addr} {kV doc pm ct oc : Value} {an od : Option Addr} {osl : Array (Option Value)} {ar : Arg}
def spUm (C : Addr) : Sp := fun vs H Q _ => ∃ (a : Addr) (v : V), vs = [.ref a, v] ∧ H a = some (exo a C none) ∧ ∀ dx, H dx = none → dx ≠ a → Q .non (upd (upd H dx (exd dx [("marble", v)])) a (exo a C (some dx)))
theorem scUm : NScope ["self", "marble", "__class__"] ["self", "marble"] ["__class__"] (defScope sUnknownMarbleInit) := nscope_by (by decide +kernel)
theorem ok_um (lk : K.lookup f = some ⟨oc, od, .func (PySem.W.fnX "__init__" "UnknownMarble.__init__" (defArgs sUnknownMarbleInit) (defBody sUnknownMarbleInit) (defScope sUnknownMarbleInit) [("__class__", cc)] .none kV doc pm an (.ref cda) ct), osl⟩) (hcd : PySem.W.codeIn K (.ref cda) "UnknownMarble.__init__" = true)
    (U : SupI P K C f cc cda (PySem.W.fnX "__init__" "UnknownMarble.__init__" (defArgs sUnknownMarbleInit) (defBody sUnknownMarbleInit) (defScope sUnknownMarbleInit) [("__class__", cc)] .none kV doc pm an (.ref cda) ct) ar) (har : ar.arg = "self") (T : OexC K C) (hm : mg "super" = none) (hno : PySem.W.findIn K (.ref C) "marble" = some none) :
    FnOk P w K mg base CX 1 f (PySem.W.fnX "__init__" "UnknownMarble.__init__" (defArgs sUnknownMarbleInit) (defBody sUnknownMarbleInit) (defScope sUnknownMarbleInit) [("__class__", cc)] .none kV doc pm an (.ref cda) ct) ["self", "marble"] (spUm C) := by
  refine super_fn (N := ["self", "marble", "__class__"]) (k := 0) lk hcd scUm U T hm rfl (by decide +kernel) (by rw [har]; decide +kernel) (by rw [har]; rfl) (fun vs H Q E h => ?_) (fun env L he => ?_) fun A outer s H vs Q E h => ?_
  · obtain ⟨a, v, rfl, _⟩ := h
    rfl
  · subst he
    exact ⟨_, rfl, rfl, rfl, rfl⟩
  · obtain ⟨a, v, rfl, e, k⟩ := h
    refine ⟨a, fun H1 => H1 = H, _, _, pa_cons pe_str pa_nil, pss_one (ps_ost (pv 0) (pv 1)), rfl, e, ?_, ?_⟩
    · exact ⟨by show 1 ≤ 1000; decide, e, rfl⟩
    · rintro H1 rfl
      exact ⟨_, rfl, _, rfl, a, C, rfl, T, hno, .inl ⟨e, k⟩⟩
end
end TX
end
section
set_option Elab.async false
set_option maxRecDepth 100000
set_option linter.all false
namespace TK
open PySem L2 TM
open TX
section
variable {P : Program} {w : World} {K : PySem.W.Frag} {mg : Str → Option Value} {base : Heap} {C fT : Addr} {fdT : FuncData}
/-- a value that is no text -/
def NoText (K : PySem.W.Frag) (H : Hp) (x : V) : Prop := ∃ ty, TyX K H x (.type ty) ∧ kitB ty "str" = some false
/-- what is written of an exception class of the program -/
structure ExcT (K : PySem.W.Frag) (mg : Str → Option Value) (x : Str) (CE fE : Addr) : Prop where
  ox : OexC K CE
  mgE : mg x = some (.ref CE)
  iE : PySem.W.findIn K (.ref CE) "__init__" = some (some (.ref fE))
  tE : PySem.W.typeIn K (.ref fE) = some (.type "function")
end
end TK
end
section
set_option Elab.async false
set_option maxRecDepth 100000
set_option linter.all false
namespace TX
open PySem PySem.Spec PyProof.Rows L2
/-- isinstance(e, c), e the exception that the suite holds, its dict at d -/
def rIsX (K : PySem.W.Frag) (cls : Value) (a : Addr) (d : Option Addr) : List V → Hp → VK → Prop := fun xs H Q => ∃ (D : Addr) (c : V) (cv : Value) (b : Bool), cls = .ref D ∧ ExcC K D ∧ xs = [.ref a, c] ∧ (∀ u, RelV c u → u = cv) ∧ (∀ dd, d = some dd → ∃ fs, H dd = some (.xd fs)) ∧ PySem.W.kitOne K (.ref D) cv = some b ∧ Q (.bl b) H
theorem call_isX {X : Cx} {a : Addr} {cls : Value} {d : Option Addr} {oe : Obj} {pn : List (Addr × Obj)} (hz : Zc cls d oe) (hf : ∃ vs, oe.data = .fields vs) : CallR (X.suite a ((a, oe) :: pn)) (.builtin "isinstance") (rIsX X.K cls a d) := by
  intro pins s σ H xs us Q I r h
  obtain ⟨D, c, cv, b, rfl, C, rfl, hcv, hdd, e, q⟩ := h
  obtain ⟨u1, u2, rfl, rx, rt⟩ := vals2 r
  obtain rfl : u1 = Value.ref a := rx
  obtain rfl := hcv _ rt
  obtain ⟨hget, _⟩ := I.pin (a, oe) (List.mem_append.mpr (.inl List.mem_cons_self))
  obtain ⟨vs, hv⟩ := hf
  obtain ⟨od, J⟩ : ∃ od, PySem.W.InstAt s.heap a oe D od := by
    cases d with
    | none => exact ⟨none, hget, hz.1, by unfold PySem.W.notCls; rw [hv] <;> rfl, by rw [hz.2]; exact True.intro⟩
    | some dd =>
      obtain ⟨fs, hx⟩ := hdd dd rfl
      have hx' : ObjOk X.prog X.w H s.heap dd (.xd fs) := I.hok dd _ hx
      obtain ⟨mA, hns, _⟩ := hx'
      obtain ⟨od, ho, _⟩ := lookIn_ns hns
      exact ⟨some od, hget, hz.1, by unfold PySem.W.notCls; rw [hv] <;> rfl, by rw [hz.2]; exact ho⟩
  have hcl : (PySem.W.clsIn X.K D).isSome = true := by
    obtain ⟨cd, hc, _⟩ := PySem.W.any_some C.hd
    rw [hc]
    rfl
  exact PySem.W.kia_one (PySem.W.kitx_exc hcl C.hg C.hk C.hs C.ha C.hn C.ht C.hm) I.kIn J e (fun z => nomatch z) fun tk => ⟨.bl b, H, I.kept (t' := tk) fun _ _ z => z, rfl, q⟩
/-- xs.count(k), xs of bools -/
def rCntB (K : PySem.W.Frag) : V → List V → Hp → VK → Prop := fun x xs H Q => ∃ (p : Addr) (bs : List Bool) (k : Bool), x = .ref p ∧ xs = [.bl k] ∧ SqL K H p (bs.map V.bl) ∧ Q (.int (bs.count k : Nat)) H
def isB (k : Bool) : Value → Bool
  | .bool b => b == k
  | _ => false
theorem isB_count {k : Bool} : ∀ {bs : List Bool} {us : List Value}, Vals (bs.map V.bl) us → us.countP (isB k) = bs.count k
  | [], us, h => by cases h; rfl
  | b :: bs, us, h => by
    cases h with
    | @cons _ u _ ur ru rr =>
      obtain rfl : u = Value.bool b := ru
      rw [List.countP_cons, isB_count rr, List.count_cons]
      rfl
theorem mt_countB {X : Cx} : MtR X "list.count" (rCntB X.K) := by
  intro pins s σ H x xs v us Q I rx rxs h
  obtain ⟨p, bs, k, rfl, rfl, hs, q⟩ := h
  cases rx
  obtain ⟨u, rfl, ru⟩ := rxs.one
  obtain rfl : u = Value.bool k := ru
  obtain ⟨its, rv, ⟨⟨cls, dd, data, sl⟩, n, ho, hc, hdn, hd⟩, hlen⟩ := I.list hs
  simp only at hc hd
  subst hc hd
  refine call_meets PySem.F.slot_list_count ⟨_, ho, rfl⟩ PySem.F.entry_list_count (PySem.F.args_list_count_2 _ _)
    (SeqAt.list_countAt p its.toArray n dd sl (.bool k) (isB k)) ⟨ho, fun y hy => ?_, ?_⟩
  · obtain ⟨i, hi⟩ := List.mem_iff_getElem?.mp (show y ∈ its by simpa using hy)
    obtain ⟨b, rb⟩ : ∃ b, y = Value.bool b := by
      have hl := rv.length
      have hb : i < bs.length := by
        have := (List.getElem?_eq_some_iff.mp hi).1
        rw [List.length_map] at hl
        omega
      obtain ⟨u, hu, ru⟩ := rv.get (i := i) (x := V.bl bs[i]) (by rw [List.getElem?_map, List.getElem?_eq_getElem hb]; all_goals rfl)
      rw [hi] at hu
      cases hu
      exact ⟨_, ru⟩
    subst rb
    exact eqAt_V (y := .bl b) (x := .bl k) rfl rfl rfl rfl
  · refine ⟨.int (bs.count k : Nat), H, I.tok _, ⟨s.toks, ?_⟩, q⟩
    show Value.int ((its.toArray.toList.countP (isB k) : Nat) : Int) s.toks = Value.int ((bs.count k : Nat) : Int) s.toks
    rw [show its.toArray.toList = its by simp, isB_count rv]
end TX
end
section
set_option Elab.async false
set_option maxRecDepth 100000
set_option linter.all false
namespace TA
open TK
open PySem PySem.Spec PyProof.Rows L2 LamX TX
abbrev NRa : List Str := ["_law_work", "e", "_law_kinds", "_law_at", "_law_word"]
theorem scRa : FnScope NRa ["_law_work"] (defScope sLawRaised) := ⟨rfl, rfl, rfl, by decide +kernel, rfl, by decide +kernel, by decide +kernel⟩
/-- the error classes by their number -/
structure TxtE (K : PySem.W.Frag) (mg : Str → Option Value) (ce : Nat → Addr) (cT : Addr) : Prop where
  g0 : mg "InvalidWord" = some (.ref (ce 0))
  g1 : mg "InvalidTray" = some (.ref (ce 1))
  g2 : mg "UnknownMarble" = some (.ref (ce 2))
  g3 : mg "InvalidPlace" = some (.ref (ce 3))
  g4 : mg "InvalidNumber" = some (.ref (ce 4))
  g5 : mg "SameMarble" = some (.ref (ce 5))
  gT : mg "TrayError" = some (.ref cT)
  isi : mg "isinstance" = none
  ve : mg "ValueError" = none
  x0 : XfC K (ce 0)
  x1 : XfC K (ce 1)
  x2 : XfC K (ce 2)
  n0 : PySem.W.findIn K (.ref (ce 0)) "index" = some none
  n1 : PySem.W.findIn K (.ref (ce 1)) "row" = some none
  n2 : PySem.W.findIn K (.ref (ce 1)) "column" = some none
  n3 : PySem.W.findIn K (.ref (ce 2)) "marble" = some none
  xc : ∀ j, j < 6 → ExcC K (ce j)
  one : ∀ j k, j < 6 → k < 6 → PySem.W.kitOne K (.ref (ce j)) (.ref (ce k)) = some (j == k)
  isv : ∀ j, j < 6 → PySem.W.kitOne K (.ref (ce j)) (.type "ValueError") = some true
  ism : ∀ j, j < 6 → PySem.W.exmOne K (.ref (ce j)) (.ref cT) = some true
/-- what the suite says of the j-th class, its fields fs -/
def told (j : Nat) (fs : List (Str × V)) : Option (List V) := match j with
  | 0 => (fs.lookup ("index" : Str)).map fun v => [.str "word", v]
  | 1 => match fs.lookup ("row" : Str), fs.lookup ("column" : Str) with
    | some v, some u => some [.str "tray", v, u]
    | _, _ => none
  | 2 => (fs.lookup ("marble" : Str)).map fun v => [.str "nomarble", v]
  | 3 => some [.str "place"]
  | 4 => some [.str "number"]
  | _ => some [.str "same"]
theorem same_new {H : Hp} {l : Addr} {o : HO} (h : H l = none) : Same H (upd H l o) := fun b o' e => by
  rw [upd_ne (ne_of_none e h)]
  exact e
abbrev six (j : Nat) : List Bool := [j == 0, j == 1, j == 2, j == 3, j == 4, j == 5]
def wordOf (j : Nat) : Str := match j with
  | 0 => "word"
  | 1 => "tray"
  | 2 => "nomarble"
  | 3 => "place"
  | 4 => "number"
  | _ => "same"
theorem six_all {p : Nat → Prop} (h0 : p 0) (h1 : p 1) (h2 : p 2) (h3 : p 3) (h4 : p 4) (h5 : p 5) : ∀ j, j < 6 → p j
  | 0, _ => h0
  | 1, _ => h1
  | 2, _ => h2
  | 3, _ => h3
  | 4, _ => h4
  | 5, _ => h5
theorem six_count : ∀ j, j < 6 → (six j).count true = 1 := six_all (by decide) (by decide) (by decide) (by decide) (by decide) (by decide)
theorem six_at : ∀ j, j < 6 → ((six j).map V.bl)[j]? = some (V.bl true) := six_all rfl rfl rfl rfl rfl rfl
theorem six_no : ∀ j, j < 6 → ∀ (m : Nat) (z : V), m < j → ((six j).map V.bl)[m]? = some z → eqV z (V.bl true) = false := fun j hj m z hm hz => by
  have : ∀ j : Fin 6, ∀ m : Fin 6, m.1 < j.1 → (six j.1)[m.1]? = some false := by decide
  have h := this ⟨j, hj⟩ ⟨m, by omega⟩ hm
  rw [List.getElem?_map, h] at hz
  cases hz
  rfl
theorem six_word : ∀ j, j < 6 → ([V.str "word", V.str "tray", V.str "nomarble", V.str "place", V.str "number", V.str "same"] : List V)[j]? = some (V.str (wordOf j)) := six_all rfl rfl rfl rfl rfl rfl
theorem six_flat (j : Nat) : ((six j).map V.bl).all flatV = true := rfl
theorem ix_listK {X : Cx} {K : PySem.W.Frag} (h : X.K = K) : IxR X (rIxL K) := by
  subst h
  exact ix_list
theorem mt_countBK {X : Cx} {K : PySem.W.Frag} (h : X.K = K) : MtR X "list.count" (rCntB K) := by
  subst h
  exact mt_countB
theorem mt_indexK {X : Cx} {K : PySem.W.Frag} (h : X.K = K) : MtR X "list.index" (rIndex K) := by
  subst h
  exact mt_index
theorem pe_bmK {X : Cx} {K : PySem.W.Frag} {o e : Expr} {es : List Expr} {to : TE} {t : TA} {name : Str} {apos cpos : Pos} {Ty id : String} {r : V → List V → Hp → VK → Prop} (h : X.K = K) (pa : PlainAttrs Ty) (slot : Slot Ty name id) (hty : typeOf (.builtin id) = pure (.type "method_descriptor")) (hm : MtR X id r) (ho : PE X o to) (ha : PA X (e :: es) t)
    (hbase : attributeBase o name X.env (eval o X.env) = eval o X.env := by rfl)
    (hfew : ((backTo cpos (starEach (e :: es) X.env)).all (fun z => !z.1) && (backToKw cpos (keywordEach [] X.env)).all (fun z => z.1.isSome) && decide ((e :: es).length + ([] : List Keyword).length + (if ([] : List Keyword).isEmpty then 0 else 1) < 30)) = true := by rfl)
    (hline : (apos.endLine == cpos.line) = true := by rfl)
    (he : starEach (e :: es) X.env = (false, eval e X.env) :: starEach es X.env := by rfl) (hpl : (backTo cpos (starEach es X.env)).any (·.1) = false := by rfl) : PE X (.Call (.Attribute o name apos) (e :: es) [] cpos) (tBM K Ty r to t) := by
  subst h
  exact pe_bm pa slot hty hm ho ha hbase hfew hline he hpl
/-- what is raised is wished for at slots of the frame's length alone -/
theorem takes_len {X : Cx} {W : WX} (t : Takes X W) : Takes X (fun c d σ H => σ.length = X.N.length → W c d σ H) := fun u s' ⟨a, B, sI, pins, σ, H, cls, d, e, I, nb, up, sky, na, os, ag, w⟩ =>
  t u s' ⟨a, B, sI, pins, σ, H, cls, d, e, I, nb, up, sky, na, os, ag, w I.len⟩
section
variable {X : Cx} {ce : Nat → Addr} {cT : Addr}
/-- None where nothing is raised; else the words of the error -/
def TRa (ce : Nat → Addr) : (XK → Hp → VK → Prop) → Hp → VK → Prop := fun tl H Q =>
  tl (fun cls d H' => ∃ (j : Nat) (fs : List (Str × V)) (xs : List V), j < 6 ∧ cls = .ref (ce j) ∧ (∀ dd, d = some dd → H' dd = some (.xd fs)) ∧ (j < 3 → d ≠ none) ∧ told j fs = some xs ∧
    ∀ H2 p, (∀ b o, H' b = some o → H2 b = some o) → H2 p = some (.tup xs) → Q (.ref p) H2) H (fun _ H' => Q .non H')
theorem raised_gives {g : Addr} {cdg : Value} {q : Str} (T : TxtE X.K X.mg ce cT) : GivesTo X NRa "_law_raised" (defScope sLawRaised) g cdg (defBody sLawRaised) "_law_work" q (TRa ce) := by
  intro f c' s H Q tl act hc h
  refine ⟨_, pss_cons (ps_try_as (X := (cxOf C8.CX0 X.prog X.w X.K X.mg X.base NRa "_law_raised" (defScope sLawRaised) g cdg X.A X.stack s H C8.E0).nox) (i := 1) (c := .ref cT)
      (tb := fun W D σ H => ∃ Ech : XK, (∀ cls d σ' H', σ'.length = 5 → Ech cls d H' → W cls d σ' H') ∧ σ[0]? = some (some (.ref f)) ∧ H c' = some (CodeO c' q) ∧ tl Ech H fun _ H1 => D.nx σ H1)
      rfl rfl scRa.nd rfl rfl ⟨rfl, by decide, .inl T.gT⟩ L2.takes0 (fun W pn xe tk _ => ?_) (fun a oe cls d pn hz hf => pss_cons (ps_set (i := 2) scRa.nd rfl (.inl rfl) (pe_lst
        (pa_cons (pe_callB (call_isX hz hf) (by rfl) T.isi (by decide +kernel) (pa_cons (pv 1) (pa_cons (pe_glob (v := .ref (ce 0)) rfl T.g0 rfl) pa_nil)))
        (pa_cons (pe_callB (call_isX hz hf) (by rfl) T.isi (by decide +kernel) (pa_cons (pv 1) (pa_cons (pe_glob (v := .ref (ce 1)) rfl T.g1 rfl) pa_nil)))
        (pa_cons (pe_callB (call_isX hz hf) (by rfl) T.isi (by decide +kernel) (pa_cons (pv 1) (pa_cons (pe_glob (v := .ref (ce 2)) rfl T.g2 rfl) pa_nil))) pa_nil)))))
      (pss_cons (ps_set (i := 2) scRa.nd rfl (.inl rfl) (pe_op op_cat (pv 2) (pe_lst
        (pa_cons (pe_callB (call_isX hz hf) (by rfl) T.isi (by decide +kernel) (pa_cons (pv 1) (pa_cons (pe_glob (v := .ref (ce 3)) rfl T.g3 rfl) pa_nil)))
        (pa_cons (pe_callB (call_isX hz hf) (by rfl) T.isi (by decide +kernel) (pa_cons (pv 1) (pa_cons (pe_glob (v := .ref (ce 4)) rfl T.g4 rfl) pa_nil)))
        (pa_cons (pe_callB (call_isX hz hf) (by rfl) T.isi (by decide +kernel) (pa_cons (pv 1) (pa_cons (pe_glob (v := .ref (ce 5)) rfl T.g5 rfl) pa_nil))) pa_nil))))))
      (pss_cons (ps_if (PW.pt (pw_or (pt_cmpR op_ne (pe_bmK (K := X.K) rfl PySem.F.plainAttrs_list PySem.F.slot_list_count PySem.F.type_list_count (mt_countBK (K := X.K) rfl) (pv 2) (pa_cons pe_bl pa_nil)) pe_int (nomark _))
          (pw_or1 (pt_not (pt_val (pe_callB (call_isX hz hf) (by rfl) T.isi (by decide +kernel) (pa_cons (pv 1) (pa_cons (pe_bltn (v := .ty "ValueError") (by rfl) T.ve (by decide +kernel) rfl) pa_nil)))))))) pss_never pss_nil)
      (pss_cons (ps_set (i := 3) scRa.nd rfl (.inl rfl) (pe_bmK (K := X.K) rfl PySem.F.plainAttrs_list PySem.F.slot_list_index PySem.F.type_list_index (mt_indexK (K := X.K) rfl) (pv 2) (pa_cons pe_bl pa_nil)))
      (pss_cons (ps_set (i := 4) scRa.nd rfl (.inl rfl) (pe_ix (ix_listK (K := X.K) rfl) (pe_lst (pa_cons pe_str (pa_cons pe_str (pa_cons pe_str (pa_cons pe_str (pa_cons pe_str (pa_cons pe_str pa_nil))))))) (pv 3) (fun _ _ => rfl)))
      (pss_cons (ps_if (pt_cmpR op_eq (pv 3) pe_int (nomark _)) (pss_one (ps_ret (pe_tup (pa_cons (pv 4) (pa_cons (pe_xf T.x0 T.n0 hz hf (pv 1)) pa_nil))))) pss_nil)
      (pss_cons (ps_if (pt_cmpR op_eq (pv 3) pe_int (nomark _)) (pss_one (ps_ret (pe_tup (pa_cons (pv 4) (pa_cons (pe_xf T.x1 T.n1 hz hf (pv 1)) (pa_cons (pe_xf T.x1 T.n2 hz hf (pv 1)) pa_nil)))))) pss_nil)
      (pss_one (ps_ret (pe_ifExp (pt_cmpR op_eq (pv 3) pe_int (nomark _)) (pe_tup (pa_cons (pv 4) (pa_cons (pe_xf T.x2 T.n3 hz hf (pv 1)) pa_nil))) (pe_tup (pa_cons (pv 4) pa_nil))))))))))))) (pss_one (ps_ret pe_non)), ?_⟩
  · refine ⟨fun pins s' σ H' D I h' => ?_⟩
    obtain ⟨Ech, hW, h1, h2, h3⟩ := h'
    exact (pss_one (ps_expr (act _ pn xe Ech _ _ (takes_len tk) fun cls d σ2 H2 q hl => hW cls d σ2 H2 hl q))).run pins s' σ H' D I ⟨h1, h2, h3⟩
  · refine ⟨_, fun cls d σ' H' hσ ⟨j, fs, xs, hj, ec, hd, hdn, ht, k⟩ => ?_, rfl, hc, h⟩
    subst ec
    refine ⟨true, T.ism j hj, fun _ a ha => ?_, fun z => nomatch z⟩
    match σ', hσ with
    | [w0, w1, w2, w3, w4], _ =>
    have cl : ∀ (H1 : Hp), Same H' H1 → ∀ dd, d = some dd → ∃ fs, H1 dd = some (.xd fs) := fun H1 sm dd e => ⟨fs, sm _ _ (hd dd e)⟩
    have one : ∀ k, k < 6 → PySem.W.kitOne X.K (.ref (ce j)) (.ref (ce k)) = some (j == k) := fun k hk => T.one j k hj hk
    have cv : ∀ k, ∀ u, RelV (.ref (ce k)) u → u = .ref (ce k) := fun k u h => h
    have sm0 := Same.refl H'
    refine ⟨_, rfl, ce j, _, _, _, rfl, T.xc j hj, rfl, cv 0, cl _ sm0, one 0 (by decide), ?_⟩
    refine ⟨_, rfl, ce j, _, _, _, rfl, T.xc j hj, rfl, cv 1, cl _ sm0, one 1 (by decide), ?_⟩
    refine ⟨_, rfl, ce j, _, _, _, rfl, T.xc j hj, rfl, cv 2, cl _ sm0, one 2 (by decide), ?_⟩
    refine ⟨by show 3 ≤ sizeLine; decide, fun l1 hl1 => ?_⟩
    have sm1 := sm0.trans (same_new (o := .lst [V.bl (j == 0), V.bl (j == 1), V.bl (j == 2)]) hl1)
    refine ⟨_, rfl, ?_⟩
    refine ⟨_, rfl, ce j, _, _, _, rfl, T.xc j hj, rfl, cv 3, cl _ sm1, one 3 (by decide), ?_⟩
    refine ⟨_, rfl, ce j, _, _, _, rfl, T.xc j hj, rfl, cv 4, cl _ sm1, one 4 (by decide), ?_⟩
    refine ⟨_, rfl, ce j, _, _, _, rfl, T.xc j hj, rfl, cv 5, cl _ sm1, one 5 (by decide), ?_⟩
    refine ⟨by show 3 ≤ sizeLine; decide, fun l2 hl2 => ?_⟩
    have hl1' : (upd (upd H' l1 (.lst [V.bl (j == 0), V.bl (j == 1), V.bl (j == 2)])) l2 (.lst [V.bl (j == 3), V.bl (j == 4), V.bl (j == 5)])) l1 = some (.lst [V.bl (j == 0), V.bl (j == 1), V.bl (j == 2)]) := by
      have e1 : (upd H' l1 (.lst [V.bl (j == 0), V.bl (j == 1), V.bl (j == 2)])) l1 = some (.lst [V.bl (j == 0), V.bl (j == 1), V.bl (j == 2)]) := upd_same
      rw [upd_ne (ne_of_none e1 hl2)]
      exact e1
    have sm2 := sm1.trans (same_new (o := .lst [V.bl (j == 3), V.bl (j == 4), V.bl (j == 5)]) hl2)
    refine ⟨l1, l2, _, _, rfl, rfl, hl1', upd_same, by show 6 ≤ sizeLine; decide, fun l3 hl3 => ?_⟩
    have sm3 := sm2.trans (same_new (o := .lst ((six j).map V.bl)) hl3)
    have hl3' : (upd (upd (upd H' l1 (.lst [V.bl (j == 0), V.bl (j == 1), V.bl (j == 2)])) l2 (.lst [V.bl (j == 3), V.bl (j == 4), V.bl (j == 5)])) l3 (.lst ((six j).map V.bl))) l3 = some (.lst ((six j).map V.bl)) := upd_same
    show tSeq _ _ _ _ (upd (upd (upd H' l1 (.lst [V.bl (j == 0), V.bl (j == 1), V.bl (j == 2)])) l2 (.lst [V.bl (j == 3), V.bl (j == 4), V.bl (j == 5)])) l3 (.lst ((six j).map V.bl)))
    generalize (upd (upd (upd H' l1 (.lst [V.bl (j == 0), V.bl (j == 1), V.bl (j == 2)])) l2 (.lst [V.bl (j == 3), V.bl (j == 4), V.bl (j == 5)])) l3 (.lst ((six j).map V.bl))) = H3 at sm3 hl3'
    refine ⟨_, rfl, .inl ⟨rfl, _, SqL.of hl3'⟩, l3, six j, true, rfl, rfl, SqL.of hl3', rfl, _, rfl, ?_⟩
    rw [six_count j hj]
    refine iteF ⟨_, rfl, ce j, _, _, _, rfl, T.xc j hj, rfl, (fun u h => h), cl _ sm3, T.isv j hj, true, rfl, iteF ?_⟩
    refine ⟨_, rfl, .inl ⟨rfl, _, SqL.of hl3'⟩, l3, _, _, j, _, rfl, rfl, SqL.of hl3', rfl, six_flat j, six_at j hj, rfl, six_no j hj, ?_⟩
    refine ⟨by show 6 ≤ sizeLine; decide, fun l4 hl4 => ?_⟩
    have sm4 := sm3.trans (same_new (o := .lst [V.str "word", V.str "tray", V.str "nomarble", V.str "place", V.str "number", V.str "same"]) hl4)
    refine ⟨_, rfl, l4, _, _, _, rfl, rfl, SqL.of upd_same, atI_nat (six_word j hj), ?_⟩
    generalize upd H3 l4 (.lst [V.str "word", V.str "tray", V.str "nomarble", V.str "place", V.str "number", V.str "same"]) = H4 at sm4
    have fin : ∀ {p : Addr}, H4 p = none → Q (.ref p) (upd H4 p (.tup xs)) := fun {p} hp => k _ p (sm4.trans (same_new hp)) upd_same
    have tail : (j = 3 ∨ j = 4 ∨ j = 5) → xs = [V.str (wordOf j)] := fun h => by
      rcases h with rfl | rfl | rfl <;> exact (Option.some.inj ht).symm
    have hcases : j = 0 ∨ j = 1 ∨ j = 2 ∨ (j = 3 ∨ j = 4 ∨ j = 5) := by omega
    rcases hcases with rfl | rfl | rfl | h3
    · obtain ⟨dd, ed⟩ : ∃ dd, d = some dd := by
        cases d with
        | none => exact absurd rfl (hdn (by decide))
        | some dd => exact ⟨dd, rfl⟩
      obtain ⟨v, hv, rfl⟩ : ∃ v, fs.lookup ("index" : Str) = some v ∧ xs = [V.str "word", v] := by
        have ht' : (fs.lookup ("index" : Str)).map (fun v => [V.str "word", v]) = some xs := ht
        cases e : fs.lookup ("index" : Str) with
        | none => rw [e] at ht'; cases ht'
        | some v => rw [e] at ht'; exact ⟨v, rfl, (Option.some.inj ht').symm⟩
      refine ⟨_, rfl, rfl, _, rfl, iteT ⟨_, rfl, _, rfl, rfl, rfl, dd, fs, v, ed, sm4 _ _ (hd dd ed), hv, by show 2 ≤ sizeLine; decide, fun p hp => fin hp⟩⟩
    · obtain ⟨dd, ed⟩ : ∃ dd, d = some dd := by
        cases d with
        | none => exact absurd rfl (hdn (by decide))
        | some dd => exact ⟨dd, rfl⟩
      obtain ⟨v, u, hv, hu, rfl⟩ : ∃ v u, fs.lookup ("row" : Str) = some v ∧ fs.lookup ("column" : Str) = some u ∧ xs = [V.str "tray", v, u] := by
        have ht' : (match fs.lookup ("row" : Str), fs.lookup ("column" : Str) with | some v, some u => some [V.str "tray", v, u] | _, _ => none) = some xs := ht
        cases e : fs.lookup ("row" : Str) with
        | none => rw [e] at ht'; cases ht'
        | some v =>
          cases e2 : fs.lookup ("column" : Str) with
          | none => rw [e, e2] at ht'; cases ht'
          | some u => rw [e, e2] at ht'; exact ⟨v, u, rfl, rfl, (Option.some.inj ht').symm⟩
      refine ⟨_, rfl, rfl, _, rfl, iteF ⟨_, rfl, rfl, _, rfl, iteT ⟨_, rfl, _, rfl, rfl, rfl, dd, fs, v, ed, sm4 _ _ (hd dd ed), hv, _, rfl, rfl, rfl, dd, fs, u, ed, sm4 _ _ (hd dd ed), hu, by show 3 ≤ sizeLine; decide, fun p hp => fin hp⟩⟩⟩
    · obtain ⟨dd, ed⟩ : ∃ dd, d = some dd := by
        cases d with
        | none => exact absurd rfl (hdn (by decide))
        | some dd => exact ⟨dd, rfl⟩
      obtain ⟨v, hv, rfl⟩ : ∃ v, fs.lookup ("marble" : Str) = some v ∧ xs = [V.str "nomarble", v] := by
        have ht' : (fs.lookup ("marble" : Str)).map (fun v => [V.str "nomarble", v]) = some xs := ht
        cases e : fs.lookup ("marble" : Str) with
        | none => rw [e] at ht'; cases ht'
        | some v => rw [e] at ht'; exact ⟨v, rfl, (Option.some.inj ht').symm⟩
      refine ⟨_, rfl, rfl, _, rfl, iteF ⟨_, rfl, rfl, _, rfl, iteF ⟨_, rfl, rfl, _, rfl, iteT ⟨_, rfl, _, rfl, rfl, rfl, dd, fs, v, ed, sm4 _ _ (hd dd ed), hv, by show 2 ≤ sizeLine; decide, fun p hp => fin hp⟩⟩⟩⟩
    · have e0 : decide (V.int (j : Int) = V.int 0) = false := decide_eq_false (by simp; omega)
      have e1 : decide (V.int (j : Int) = V.int 1) = false := decide_eq_false (by simp; omega)
      have e2 : decide (V.int (j : Int) = V.int 2) = false := decide_eq_false (by simp; omega)
      obtain rfl := tail h3
      refine ⟨_, rfl, rfl, _, rfl, ?_⟩
      rw [e0]
      refine iteF ⟨_, rfl, rfl, _, rfl, ?_⟩
      rw [e1]
      refine iteF ⟨_, rfl, rfl, _, rfl, ?_⟩
      rw [e2]
      exact iteF ⟨_, rfl, by show 1 ≤ sizeLine; decide, fun p hp => fin hp⟩
end
end TA
end
section
set_option Elab.async false
set_option maxRecDepth 100000
set_option linter.all false
namespace TA
open TK
open PySem PySem.Spec PyProof.Rows L2
structure TxtA (K : PySem.W.Frag) (mg : Str → Option Value) : Prop where
  isi : mg "isinstance" = none
  tup : mg "tuple" = none
  lst : mg "list" = none
  bool : mg "bool" = none
  len : mg "len" = none
  range : mg "range" = none
/-- a sequence at a: a list, a tuple -/
inductive Sq (K : PySem.W.Frag) (H : Hp) (a : Addr) (xs : List V) : Bool → Prop where
  | lst (h : SqL K H a xs) : Sq K H a xs false
  | tup (h : SqT K H a xs) : Sq K H a xs true
/-- two values of one shape and content, at most n deep -/
inductive Alk (K : PySem.W.Frag) (H : Hp) : Nat → V → V → Prop where
  | non {n} : Alk K H n .non .non
  | bl {n} (b : Bool) : Alk K H n (.bl b) (.bl b)
  | int {n} (i : Int) : Alk K H n (.int i) (.int i)
  | str {n} (z : Str) : Alk K H n (.str z) (.str z)
  | seq {n} {a b : Addr} {xs ys : List V} {t : Bool} (hl : xs.length ≤ 1000) (ha : Sq K H a xs t) (hb : Sq K H b ys t) (hxy : xs.length = ys.length) (all : ∀ (i : Nat) (x y : V), xs[i]? = some x → ys[i]? = some y → Alk K H n x y) : Alk K H (n + 1) (.ref a) (.ref b)
theorem Sq.same {K : PySem.W.Frag} {H H' : Hp} {a : Addr} {xs : List V} {t : Bool} (h : Sq K H a xs t) (s : Same H H') : Sq K H' a xs t := by
  cases h with
  | lst h => exact .lst (s.seq h)
  | tup h =>
    refine .tup ?_
    rcases h with (h | ⟨o, h⟩) | h
    · exact .inl (.inl (s _ _ h))
    · exact .inl (.inr ⟨o, s _ _ h⟩)
    · exact .inr h
theorem Alk.same {K : PySem.W.Frag} {H H' : Hp} (s : Same H H') : ∀ {n : Nat} {x y : V}, Alk K H n x y → Alk K H' n x y
  | _, _, _, .non => .non
  | _, _, _, .bl b => .bl b
  | _, _, _, .int i => .int i
  | _, _, _, .str z => .str z
  | _, _, _, .seq hl ha hb hxy all => .seq hl (ha.same s) (hb.same s) hxy fun i x y h1 h2 => Alk.same s (all i x y h1 h2)
/-- what isinstance says of a value that is no sequence -/
def Scal (K : PySem.W.Frag) (x : V) : Prop := ∃ (ty : String) (bb : Bool), scal x x = true ∧ (∀ H, TyX K H x (.type ty)) ∧ PySem.W.kitAny K (.type ty) [.type "tuple", .type "list"] = some false ∧ kitB ty "bool" = some bb
theorem no_seq {K : PySem.W.Frag} {ty : String} (h1 : kitB ty "tuple" = some false) (h2 : kitB ty "list" = some false) : PySem.W.kitAny K (.type ty) [.type "tuple", .type "list"] = some false :=
  kitAny_cons (kit_ty h1) (fun _ => kitAny_cons (kit_ty h2) (fun _ => rfl) fun z => nomatch z) fun z => nomatch z
theorem scal_non {K : PySem.W.Frag} : Scal K .non := ⟨"NoneType", false, rfl, fun _ => .base .non, no_seq (by decide +kernel) (by decide +kernel), by decide +kernel⟩
theorem scal_bl {K : PySem.W.Frag} (b : Bool) : Scal K (.bl b) := ⟨"bool", true, rfl, fun _ => .base (.bl b), no_seq (by decide +kernel) (by decide +kernel), by decide +kernel⟩
theorem scal_int {K : PySem.W.Frag} (i : Int) : Scal K (.int i) := ⟨"int", false, rfl, fun _ => .base (.int i), no_seq (by decide +kernel) (by decide +kernel), by decide +kernel⟩
theorem scal_str {K : PySem.W.Frag} (z : Str) : Scal K (.str z) := ⟨"str", false, rfl, fun _ => .base (.str z), no_seq (by decide +kernel) (by decide +kernel), by decide +kernel⟩
def tyN (t : Bool) : String := if t then "tuple" else "list"
theorem sq_ty {K : PySem.W.Frag} {H : Hp} {a : Addr} {xs : List V} {t : Bool} (h : Sq K H a xs t) : TyX K H (.ref a) (.type (tyN t)) := by
  cases h with
  | lst h =>
    rcases h with (h | ⟨o, h⟩) | ⟨o, its, n, h, c, _⟩
    · exact .base (.lst h)
    · exact .base (.frz h)
    · exact .kList h c
  | tup h =>
    rcases h with (h | ⟨o, h⟩) | ⟨o, its, n, h, c, _⟩
    · exact .base (.tup h)
    · exact .fTuple h
    · exact .kTuple h c
theorem seq_kit {K : PySem.W.Frag} (t : Bool) : PySem.W.kitAny K (.type (tyN t)) [.type "tuple", .type "list"] = some true := by
  cases t with
  | true => exact kitAny_cons (b := true) (kit_ty (by decide +kernel)) (fun z => nomatch z) fun _ => rfl
  | false => exact kitAny_cons (b := false) (kit_ty (by decide +kernel)) (fun _ => kitAny_cons (b := true) (kit_ty (by decide +kernel)) (fun z => nomatch z) fun _ => rfl) fun z => nomatch z
theorem tup_kit (t : Bool) : kitB (tyN t) "tuple" = some t := by
  cases t <;> decide +kernel
theorem Sq.len {K : PySem.W.Frag} {H : Hp} {a : Addr} {xs : List V} {t : Bool} (h : Sq K H a xs t) : SqL K H a xs ∨ SqT K H a xs := by
  cases h with
  | lst h => exact .inl h
  | tup h => exact .inr h
theorem Sq.ix {K : PySem.W.Frag} {H : Hp} {a : Addr} {xs : List V} {t : Bool} (h : Sq K H a xs t) {i : Nat} {v : V} {Q : VK} (e : xs[i]? = some v) (q : Q v H) : rIxL K (.ref a) (.int (i : Nat)) H Q ∨ rIxT K (.ref a) (.int (i : Nat)) H Q := by
  cases h with
  | lst h => exact .inl ⟨a, xs, i, v, rfl, rfl, h, atI_nat e, q⟩
  | tup h => exact .inr ⟨a, xs, i, v, rfl, rfl, h, atI_nat e, q⟩
theorem ix_ltK {X : Cx} {K : PySem.W.Frag} (h : X.K = K) : IxR X (fun x y H Q => rIxL K x y H Q ∨ rIxT K x y H Q) := by
  subst h
  exact ix_list.or ix_tup
section
variable {P : Program} {w : World} {K : PySem.W.Frag} {mg : Str → Option Value} {base : Heap}
abbrev NAl : List Str := ["_law_one", "_law_due", "_law_k"]
theorem scAl : FnScope NAl ["_law_one", "_law_due"] (defScope sLawAlike) := ⟨rfl, rfl, rfl, by decide +kernel, rfl, by decide +kernel, by decide +kernel⟩
def spAl (K : PySem.W.Frag) (n : Nat) : Sp := fun vs H Q _ => ∃ x y, vs = [x, y] ∧ Alk K H n x y ∧ ∀ H', Same H H' → Q (.bl true) H'
theorem ok_al {f : Addr} {fd : FuncData} (F : Fun K "_law_alike" "_law_alike" sLawAlike f fd) (T : TxtA K mg) (b : Binds K fd ["_law_one", "_law_due"] []) (mf : mg "_law_alike" = some (.ref f)) : ∀ n, FnOk P w K mg base CX0 (n + 1) f fd ["_law_one", "_law_due"] (spAl K n)
  | 0 => by
    refine F.ok scAl (fun vs H Q E h => ?_) (fun cdv A outer s H vs Q E hr h => ?_)
    · obtain ⟨x, y, rfl, _⟩ := h
      rfl
    · obtain ⟨x, y, rfl, al, k⟩ := h
      have nd := scAl.nd
      refine ⟨_, pss_cons (ps_if (PW.pt (pw_and (pt_val (pe_callB call_isiT (by rfl) T.isi (by decide +kernel) (pa_cons (pv 0) (pa_cons (pe_tup (pa_cons (pe_bltn (v := .ty "tuple") (by rfl) T.tup (by decide +kernel) rfl) (pa_cons (pe_bltn (v := .ty "list") (by rfl) T.lst (by decide +kernel) rfl) pa_nil))) pa_nil)))) (pw_and1 (pt_val (pe_callB call_isiT (by rfl) T.isi (by decide +kernel) (pa_cons (pv 1) (pa_cons (pe_tup (pa_cons (pe_bltn (v := .ty "tuple") (by rfl) T.tup (by decide +kernel) rfl) (pa_cons (pe_bltn (v := .ty "list") (by rfl) T.lst (by decide +kernel) rfl) pa_nil))) pa_nil))))))) pss_never pss_nil)
        (pss_one (ps_ret (pe_and (pe_cmpR op_eq (pv 0) (pv 1) (nomark _)) (pe_one (pe_cmpR op_eq (pe_callB call_isi (by rfl) T.isi (by decide +kernel) (pa_cons (pv 0) (pa_cons (pe_bltn (v := .ty "bool") (by rfl) T.bool (by decide +kernel) rfl) pa_nil))) (pe_callB call_isi (by rfl) T.isi (by decide +kernel) (pa_cons (pv 1) (pa_cons (pe_bltn (v := .ty "bool") (by rfl) T.bool (by decide +kernel) rfl) pa_nil))) (nomark _)))))), ?_⟩
      have sc : y = x ∧ Scal K x := by
        cases al with
        | non => exact ⟨rfl, scal_non⟩
        | bl b => exact ⟨rfl, scal_bl b⟩
        | int i => exact ⟨rfl, scal_int i⟩
        | str z => exact ⟨rfl, scal_str z⟩
      obtain ⟨rfl, sc⟩ := sc
      obtain ⟨ty, bb, e1, e2, e3, e4⟩ := sc
      refine ⟨_, rfl, by show 2 ≤ sizeLine; decide, fun tp htp => ⟨_, tp, _, .type ty, _, false, rfl, upd_same, .cons (.ty _) (.cons (.ty _) .nil), e2 _, e3, false, rfl, iteF (iteF ?_)⟩⟩
      have sm := same_new (o := .tup [V.ty "tuple", V.ty "list"]) htp
      refine ⟨_, rfl, _, rfl, e1, true, congrArg V.bl (decide_eq_true rfl), iteT ?_⟩
      refine ⟨_, rfl, _, _, _, _, bb, rfl, .ty _, e2 _, kit_ty e4, _, rfl, _, _, _, _, bb, rfl, .ty _, e2 _, kit_ty e4, rfl, ?_⟩
      rw [decide_eq_true rfl]
      exact k _ sm
  | n + 1 => by
    have G := ok_al F T b mf n
    refine F.ok scAl (fun vs H Q E h => ?_) (fun cdv A outer s H vs Q E hr h => ?_)
    · obtain ⟨x, y, rfl, _⟩ := h
      rfl
    · obtain ⟨x, y, rfl, al, k⟩ := h
      have nd := scAl.nd
      refine ⟨_, pss_cons (ps_if (PW.pt (pw_and (pt_val (pe_callB call_isiT (by rfl) T.isi (by decide +kernel) (pa_cons (pv 0) (pa_cons (pe_tup (pa_cons (pe_bltn (v := .ty "tuple") (by rfl) T.tup (by decide +kernel) rfl) (pa_cons (pe_bltn (v := .ty "list") (by rfl) T.lst (by decide +kernel) rfl) pa_nil))) pa_nil))))
            (pw_and1 (pt_val (pe_callB call_isiT (by rfl) T.isi (by decide +kernel) (pa_cons (pv 1) (pa_cons (pe_tup (pa_cons (pe_bltn (v := .ty "tuple") (by rfl) T.tup (by decide +kernel) rfl) (pa_cons (pe_bltn (v := .ty "list") (by rfl) T.lst (by decide +kernel) rfl) pa_nil))) pa_nil)))))))
          (pss_cons (ps_if (PW.pt (pw_or (pt_cmpR op_ne (pe_callB call_isi (by rfl) T.isi (by decide +kernel) (pa_cons (pv 0) (pa_cons (pe_bltn (v := .ty "tuple") (by rfl) T.tup (by decide +kernel) rfl) pa_nil))) (pe_callB call_isi (by rfl) T.isi (by decide +kernel) (pa_cons (pv 1) (pa_cons (pe_bltn (v := .ty "tuple") (by rfl) T.tup (by decide +kernel) rfl) pa_nil))) (nomark _))
              (pw_or1 (pt_cmpR op_ne (pe_callB call_len_seq (by rfl) T.len PySem.boot_len (pa_cons (pv 0) pa_nil)) (pe_callB call_len_seq (by rfl) T.len PySem.boot_len (pa_cons (pv 1) pa_nil)) (nomark _))))) pss_never pss_nil)
          (pss_one (ps_ret (pe_cmpR (op_eqD hr.units) (pe_lc (own := [("_law_k", 2)]) (g := gName 2) rfl nd (pi_range1 (by rfl) T.range (pa_cons (pe_callB call_len_seq (by rfl) T.len PySem.boot_len (pa_cons (pv 0) pa_nil)) pa_nil)) (blkOk_by (N := NAl) (sc := defScope sLawAlike) (by decide +kernel)) (fun _ _ _ _ _ => pg_name (i := 2) nd rfl (.inl rfl))
            (fun _ _ _ _ _ => pts_one (pt_not (pt_val (pe_call G hr rfl mf F.kp b .nil pass0 (pa_cons (pe_ix (ix_ltK (K := K) rfl) (pv 0) (pv 2) (fun _ _ => rfl)) (pa_cons (pe_ix (ix_ltK (K := K) rfl) (pv 1) (pv 2) (fun _ _ => rfl)) pa_nil)))))) (fun _ _ _ _ _ => pv 2)) (pe_lst pa_nil) (nomark _))))) pss_nil)
        (pss_one (ps_ret (pe_and (pe_cmpR op_eq (pv 0) (pv 1) (nomark _)) (pe_one (pe_cmpR op_eq (pe_callB call_isi (by rfl) T.isi (by decide +kernel) (pa_cons (pv 0) (pa_cons (pe_bltn (v := .ty "bool") (by rfl) T.bool (by decide +kernel) rfl) pa_nil))) (pe_callB call_isi (by rfl) T.isi (by decide +kernel) (pa_cons (pv 1) (pa_cons (pe_bltn (v := .ty "bool") (by rfl) T.bool (by decide +kernel) rfl) pa_nil))) (nomark _)))))), ?_⟩
      by_cases hsc : y = x ∧ Scal K x
      · obtain ⟨rfl, sc⟩ := hsc
        obtain ⟨ty, bb, e1, e2, e3, e4⟩ := sc
        refine ⟨_, rfl, by show 2 ≤ sizeLine; decide, fun tp htp => ⟨_, tp, _, .type ty, _, false, rfl, upd_same, .cons (.ty _) (.cons (.ty _) .nil), e2 _, e3, false, rfl, iteF (iteF ?_)⟩⟩
        have sm := same_new (o := .tup [V.ty "tuple", V.ty "list"]) htp
        refine ⟨_, rfl, _, rfl, e1, true, congrArg V.bl (decide_eq_true rfl), iteT ?_⟩
        refine ⟨_, rfl, _, _, _, _, bb, rfl, .ty _, e2 _, kit_ty e4, _, rfl, _, _, _, _, bb, rfl, .ty _, e2 _, kit_ty e4, rfl, ?_⟩
        rw [decide_eq_true rfl]
        exact k _ sm
      · cases al with
        | non => exact absurd ⟨rfl, scal_non⟩ hsc
        | bl b => exact absurd ⟨rfl, scal_bl b⟩ hsc
        | int i => exact absurd ⟨rfl, scal_int i⟩ hsc
        | str z => exact absurd ⟨rfl, scal_str z⟩ hsc
        | @seq _ a b' xs ys t hl ha hb hxy all =>
          have kT : PySem.W.kitAny K (.type (tyN t)) [.type "tuple", .type "list"] = some true := seq_kit t
          refine ⟨_, rfl, by show 2 ≤ sizeLine; decide, fun tp htp => ⟨_, tp, _, .type (tyN t), _, true, rfl, upd_same, .cons (.ty _) (.cons (.ty _) .nil), sq_ty (ha.same (same_new htp)), kT, true, rfl, iteT ?_⟩⟩
          have s1 := same_new (o := .tup [V.ty "tuple", V.ty "list"]) htp
          refine ⟨_, rfl, by show 2 ≤ sizeLine; decide, fun tq htq => ⟨_, tq, _, .type (tyN t), _, true, rfl, upd_same, .cons (.ty _) (.cons (.ty _) .nil), sq_ty (hb.same (s1.trans (same_new htq))), kT, true, rfl, iteT ?_⟩⟩
          have s2 := s1.trans (same_new (o := .tup [V.ty "tuple", V.ty "list"]) htq)
          generalize upd (upd H tp (.tup [V.ty "tuple", V.ty "list"])) tq (.tup [V.ty "tuple", V.ty "list"]) = H2 at s2
          refine ⟨_, rfl, _, _, _, _, t, rfl, .ty _, sq_ty (ha.same s2), kit_ty (tup_kit t), _, rfl, _, _, _, _, t, rfl, .ty _, sq_ty (hb.same s2), kit_ty (tup_kit t), rfl, _, rfl, ?_⟩
          rw [show (!decide (V.bl t = V.bl t)) = false by simp]
          refine iteF ⟨_, rfl, a, xs, rfl, (ha.same s2).len, _, rfl, b', ys, rfl, (hb.same s2).len, rfl, _, rfl, ?_⟩
          rw [show (!decide (V.int (xs.length : Int) = V.int (ys.length : Int))) = false by simp [hxy]]
          refine iteF ⟨_, rfl, a, xs, rfl, (ha.same s2).len, (xs.length : Int), rfl, by omega, by omega, fun D hD => lc_range (lo := 0) (n := ((xs.length : Nat) : Int).toNat) (fun i H3 => Same H2 H3 ∧ H3 D = some (.lst [])) ⟨same_new hD, upd_same⟩ ?_ ?_⟩
          · rintro i H3 hi ⟨s3, hD3⟩
            rw [Int.toNat_natCast] at hi
            rw [Int.zero_add]
            obtain ⟨v, hv⟩ : ∃ v, xs[i]? = some v := ⟨_, List.getElem?_eq_getElem hi⟩
            obtain ⟨u, hu⟩ : ∃ u, ys[i]? = some u := ⟨_, List.getElem?_eq_getElem (by omega)⟩
            have s23 := s2.trans s3
            refine ⟨rfl, _, rfl, _, rfl, (ha.same s23).ix hv ⟨_, rfl, _, rfl, (hb.same s23).ix hu ⟨v, u, rfl, (all i v u hv hu).same s23, fun H4 s4 => ⟨true, rfl, ?_⟩⟩⟩⟩
            exact iteF ⟨s3.trans s4, s4 _ _ hD3⟩
          · rintro H3 ⟨s3, hD3⟩
            refine ⟨by show 0 ≤ sizeLine; decide, fun p hp => ?_⟩
            refine ⟨_, _, .lst (SqL.of (by rw [upd_ne (ne_of_none hD3 hp)]; exact hD3)) .nil, .lst (SqL.of upd_same) .nil, rfl, rfl, ?_⟩
            exact k _ ((s2.trans s3).trans (same_new hp))
end
end TA
end
section
set_option Elab.async false
set_option maxRecDepth 100000
set_option maxHeartbeats 4000000
set_option linter.all false
namespace TB
open PySem PySem.Spec PyProof.Rows L2
section
variable {X : Cx} {CX : CXT} {n : Nat} {C g : Addr} {sp : Sp} {E : XK}
/-- a op y, y an instance of the class at C or a value of the built-in type T -/
def rCmpOwn (K : PySem.W.Frag) (C : Addr) (sp : Sp) (E : XK) : R2 := fun x y H Q => ∃ a dx fs, x = .ref a ∧ H a = some (.ins C dx fs) ∧
  ((∃ b dy gs, y = .ref b ∧ H b = some (.ins C dy gs)) ∨ ∃ T, (∀ u, RelV y u → typeOf u = pure (.type T)) ∧ PySem.W.notFirst K C (.type T) = true) ∧ sp [x, y] H Q E
theorem op_cmpOwn {op : CmpOp} (hop : ∀ a b, compareOp op a b = richCompare op a b) (hs : PySem.W.findIn X.K (.ref C) (cmpInfo op).2.1 = some (some (.ref g))) (hf : PySem.W.isFn X.K (.ref g) = true) (F : FnR X.prog X.w X.K X.mg X.base CX n g sp)
    (hr : Room n X.A) (hx : Passes CX X E) : OpR X (compareOp op) (rCmpOwn X.K C sp E) := by
  intro pins s σ H x y v u Q I rx ry h
  obtain ⟨a, dx, fs, rfl, ha, hy, q⟩ := h
  cases (show v = Value.ref a from rx)
  obtain ⟨mA, O, _⟩ := ins_get I.hok ha
  obtain ⟨od, J, _⟩ := O.look
  obtain ⟨m, hF⟩ := I.fr
  obtain ⟨tb, hb, hn⟩ : ∃ tb, PySem.W.Looks (model X.prog X.w) s.heap (typeOf u) tb ∧ PySem.W.notFirst X.K C tb = true := by
    rcases hy with ⟨b, dy, gs, rfl, hb⟩ | ⟨T, ht, hn⟩
    · cases (show u = Value.ref b from ry)
      obtain ⟨mB, O', _⟩ := ins_get I.hok hb
      obtain ⟨od', J', _⟩ := O'.look
      exact ⟨.ref C, J'.type, by simp [PySem.W.notFirst]⟩
    · exact ⟨.type T, PySem.W.Looks.of_pure (ht _ ry), hn⟩
  rw [hop]
  refine PySem.W.cmp_K (op := op) (tb := tb) hr.units0 hF I.ok.mod.kin J hb hn hs hf ?_
  refine wpAny_mono (wpAny_call (run_fnR (us := [.ref a, u]) (vs := [.ref a, y]) F hr hx I (.cons rfl (.cons ry .nil)) q)) (fun w s' z => ?_) fun _ _ x => x
  obtain ⟨z', H', I', rz, qz⟩ := z
  exact SlX.cmpback rz ⟨z', H', I', rz, qz⟩
end
end TB
end
namespace TB
end TB
namespace TA
end TA
section
set_option Elab.async false
set_option maxRecDepth 100000
set_option linter.all false
namespace TA
open TK
open PySem PySem.Spec PyProof.Rows L2 LamX TX TK TM TB
def isN : V → Int → Bool
  | .int i, l => decide (0 ≤ i) && decide (i ≤ l)
  | _, _ => false
/-- what isinstance says of a value -/
structure Kn (K : PySem.W.Frag) (H : Hp) (x : V) (ty : String) (bb bi : Bool) : Prop where
  t : TyX K H x (.type ty)
  b : kitB ty "bool" = some bb
  i : kitB ty "int" = some bi
  yes : bb = false → bi = true → ∃ i, x = .int i
  no : bb = true ∨ bi = false → ∀ i, x ≠ .int i
theorem kn_int {K : PySem.W.Frag} {H : Hp} (i : Int) : Kn K H (.int i) "int" false true := ⟨.base (.int i), by decide +kernel, by decide +kernel, fun _ _ => ⟨i, rfl⟩, fun h => by rcases h with h | h <;> cases h⟩
theorem kn_bl {K : PySem.W.Frag} {H : Hp} (b : Bool) : Kn K H (.bl b) "bool" true true := ⟨.base (.bl b), by decide +kernel, by decide +kernel, fun h => (by cases h), fun _ i => (by simp)⟩
theorem kn_non {K : PySem.W.Frag} {H : Hp} : Kn K H .non "NoneType" false false := ⟨.base .non, by decide +kernel, by decide +kernel, fun _ h => (by cases h), fun _ i => (by simp)⟩
structure TxtN (K : PySem.W.Frag) (mg : Str → Option Value) : Prop where
  isi : mg "isinstance" = none
  bool : mg "bool" = none
  int : mg "int" = none
section
variable {P : Program} {w : World} {K : PySem.W.Frag} {mg : Str → Option Value} {base : Heap} {C fT : Addr} {fdT : FuncData}
theorem scNu : FnScope ["value", "limit"] ["value", "limit"] (defScope sIsNumber) := ⟨rfl, rfl, rfl, by decide +kernel, rfl, by decide +kernel, by decide +kernel⟩
def spNum (K : PySem.W.Frag) : Sp := fun vs H Q _ => ∃ (x : V) (l : Int) (ty : String) (bb bi : Bool), vs = [x, .int l] ∧ Kn K H x ty bb bi ∧ Q (.bl (isN x l)) H
theorem ok_num {f : Addr} {fd : FuncData} (F : Fun K "is_number" "is_number" sIsNumber f fd) (T : TxtN K mg) : FnOk P w K mg base CX0 1 f fd ["value", "limit"] (spNum K) := by
  refine F.ok scNu (fun vs H Q E h => ?_) (fun cdv A outer s H vs Q E hr h => ?_)
  · obtain ⟨x, l, ty, bb, bi, rfl, _⟩ := h
    rfl
  · obtain ⟨x, l, ty, bb, bi, rfl, N, k⟩ := h
    refine ⟨_, pss_cons (ps_if (PW.pt (pw_or (pt_val (pe_callB call_isi (by rfl) T.isi (by decide +kernel) (pa_cons (pv 0) (pa_cons (pe_bltn (v := .ty "bool") (by rfl) T.bool (by decide +kernel) rfl) pa_nil))))
        (pw_or1 (pt_not (pt_val (pe_callB call_isi (by rfl) T.isi (by decide +kernel) (pa_cons (pv 0) (pa_cons (pe_bltn (v := .ty "int") (by rfl) T.int (by decide +kernel) rfl) pa_nil)))))))) (pss_one (ps_ret pe_bl)) pss_nil)
      (pss_one (ps_ret (pe_chain op_le op_le pe_int (pv 0) (pv 1)))), ?_⟩
    refine ⟨_, rfl, _, _, _, _, bb, rfl, .ty _, N.t, kit_ty N.b, bb, rfl, ?_⟩
    cases bb with
    | true =>
      refine iteT ?_
      have e : isN x l = false := by
        have h := N.no (.inl rfl)
        cases x with
        | int i => exact absurd rfl (h i)
        | _ => rfl
      rw [e] at k
      exact k
    | false =>
      refine iteF ⟨_, rfl, _, _, _, _, bi, rfl, .ty _, N.t, kit_ty N.i, bi, rfl, ?_⟩
      cases bi with
      | false =>
        refine iteT ?_
        have e : isN x l = false := by
          have h := N.no (.inr rfl)
          cases x with
          | int i => exact absurd rfl (h i)
          | _ => rfl
        rw [e] at k
        exact k
      | true =>
        obtain ⟨i, rfl⟩ := N.yes rfl rfl
        refine iteF ?_
        refine ⟨_, rfl, _, _, rfl, rfl, _, rfl, ?_⟩
        by_cases h0 : (0 : Int) ≤ i
        · rw [decide_eq_true h0]
          refine iteT ⟨_, rfl, _, _, rfl, rfl, ?_⟩
          have e : isN (.int i) l = decide (i ≤ l) := by
            show (decide (0 ≤ i) && decide (i ≤ l)) = _
            rw [decide_eq_true h0, Bool.true_and]
          rw [e] at k
          exact k
        · rw [decide_eq_false h0]
          refine iteF ?_
          have e : isN (.int i) l = false := by
            show (decide (0 ≤ i) && decide (i ≤ l)) = _
            rw [decide_eq_false h0, Bool.false_and]
          rw [e] at k
          exact k
end
end TA
end
section
set_option Elab.async false
set_option maxRecDepth 100000
set_option linter.all false
namespace TP
open PySem L2 TM TK TH TB TX
open PySem.Spec PyProof.Rows
def rNotOwn (C : Addr) (sp : Sp) (E : XK) : R2 := fun y x H Q => ∃ a dx fs, x = .ref a ∧ H a = some (.ins C dx fs) ∧ sp [.ref a, y] H (fun z H' => ∃ c, z = .bl c ∧ Q (.bl (!c)) H') E
theorem one_of {u : List Nat} (h : u.length = 1) : ∃ c, u = [c] := by
  match u, h with
  | [c], _ => exact ⟨c, rfl⟩
theorem op_notOwn {X : Cx} {CX : CXT} {n : Nat} {C g : Addr} {sp : Sp} {E : XK} (hs : PySem.W.findIn X.K (.ref C) "__contains__" = some (some (.ref g))) (hf : PySem.W.isFn X.K (.ref g) = true) (F : FnR X.prog X.w X.K X.mg X.base CX n g sp) (hr : Room n X.A) (hx : Passes CX X E) : OpR X (compareOp .NotIn) (rNotOwn C sp E) := by
  intro pins s σ H y x u v Q I ry rx h
  obtain ⟨a, dx, fs, rfl, ha, q⟩ := h
  cases (show v = Value.ref a from rx)
  obtain ⟨mA, O, _⟩ := ins_get I.hok ha
  obtain ⟨od, J, _⟩ := O.look
  obtain ⟨m, hF⟩ := I.fr
  refine PySem.W.notIn_K hF I.ok.mod.kin J hs hf (wpAny_mono (wpAny_call (SlX.run_at (us := [.ref a, u]) (ws := [.ref a, y]) F hr I.env0 hx I (.cons rfl (.cons ry .nil)) q)) (fun w s' z => ?_) fun _ _ x => x)
  obtain ⟨z', H', I', rz, b, rfl, qz⟩ := z
  obtain rfl : w = Value.bool b := rz
  exact wpAny_truthy_bool ⟨.bl (!b), H', I', rfl, qz⟩
theorem occ_at {t : List Nat} {c : Nat} (h : c ∈ t) : ∃ i rest, Builtin.Str.occurrences (S t) (S [c]) 0 (S t).length 1 = i :: rest ∧ t[i]? = some c := by
  have h1 := StrLaws.found_one (S t) c
  rw [S_list] at h1
  change (!(Builtin.Str.occurrences (S t) (S [c]) 0 (S t).length 1).isEmpty) = _ at h1
  rw [decide_eq_true h] at h1
  obtain ⟨f, hc⟩ := StrLaws.occ_chain (S t) (S [c]) 1
  cases e : Builtin.Str.occurrences (S t) (S [c]) 0 (S t).length 1 with
  | nil =>
    rw [e] at h1
    cases h1
  | cons i rest =>
    rw [e] at hc
    obtain ⟨_, ⟨h2, h3⟩, _⟩ := hc
    refine ⟨i, rest, rfl, ?_⟩
    rw [S_len, S_len] at h2
    have hi : i < t.length := by
      have : i + 1 ≤ t.length := h2
      omega
    have h4 := beq_iff_eq.mp h3
    have h5 := congrArg (fun a : Array Nat => a[0]?) h4
    simp only [Array.getElem?_extract] at h5
    rw [List.getElem?_eq_getElem hi]
    simp [S] at h5
    rw [← h5.2, List.getElem?_eq_getElem hi]
section
variable {P : Program} {w : World} {K : PySem.W.Frag} {mg : Str → Option Value} {base : Heap} {D CU fU pM gM pW gW fC : Addr} {fdM fdW fdU : FuncData}
theorem scTc : FnScope ["self", "x"] ["self", "x"] (defScope sTrayContains) := ⟨rfl, rfl, rfl, by decide +kernel, rfl, by decide +kernel, by decide +kernel⟩
def has (g : Grid) (u : List Nat) : Bool := decide (u.length = 1) && decide (u.getD 0 0 ∈ mb g.flatten)
def spTc (K : PySem.W.Frag) (D : Addr) : Sp := fun vs H Q _ => ∃ (p : Addr) (x : V) (h w : Nat) (g : Grid), vs = [.ref p, x] ∧ TrayAt K D H p g ∧ VG h w g ∧
  ((∃ u : List Nat, x = .str (S u) ∧ u.length ≤ 1000 ∧ ∀ H', Same H H' → Q (.bl (has g u)) H') ∨ (NoText K H x ∧ ∀ H', Same H H' → Q (.bl false) H'))
theorem ok_tc {f : Addr} {fd : FuncData} (F : Fun K "__contains__" "Tray.__contains__" sTrayContains f fd) (T : TxtW K mg) (CT : ClsT K mg D) (PM : PropOf K D "marbles" pM gM) (GM : FnOk P w K mg base CX0 1 gM fdM ["self"] (spMb K D)) (bM : Binds K fdM ["self"] []) :
    FnOk P w K mg base CX0 3 f fd ["self", "x"] (spTc K D) := by
  refine F.ok scTc (fun vs H Q E h => ?_) (fun cdv A outer s H vs Q E hr h => ?_)
  · obtain ⟨p, x, h, w, g, rfl, _⟩ := h
    rfl
  · obtain ⟨p, x, h, w, g, rfl, T0, hV, hx⟩ := h
    obtain ⟨dx, a, hp, hS⟩ := id T0
    refine ⟨_, pss_one (ps_ret (pe_and (pe_callB call_isi (by rfl) T.isi (by decide +kernel) (pa_cons (pv 1) (pa_cons (pe_bltn (v := .ty "str") (by rfl) T.str (by decide +kernel) rfl) pa_nil)))
      (pe_and (pe_cmpR op_eq (pe_callB call_len_str (by rfl) T.len PySem.boot_len (pa_cons (pv 1) pa_nil)) pe_int (nomark _))
        (pe_one (pe_cmpR op_in_sign (pv 1) (pe_prop (pv 0) CT.cl PM GM (hr.mono (by decide)) bM .nil pass0 rfl) (by rfl)))))), ?_⟩
    rcases hx with ⟨u, rfl, hl, k⟩ | ⟨⟨ty, hty, hk⟩, k⟩
    · refine ⟨_, rfl, _, _, _, _, true, rfl, .ty _, .base (.str _), kit_ty (by decide +kernel), true, rfl, iteT ?_⟩
      have hs : (S u).length ≤ sizeLine := by
        rw [S_len]
        show _ ≤ 16777216
        omega
      refine ⟨_, rfl, _, rfl, hs, rfl, _, rfl, ?_⟩
      by_cases h1 : u.length = 1
      · obtain ⟨c, rfl⟩ := one_of h1
        have e : decide (V.int ((S [c]).length : Nat) = V.int 1) = true := decide_eq_true (by rw [S_len]; rfl)
        rw [e]
        refine iteT ⟨_, rfl, _, rfl, p, dx, _, rfl, hp, p, h, w, g, rfl, T0, hV, fun H1 sm => ?_⟩
        refine ⟨c, _, rfl, rfl, ?_⟩
        rw [S_list]
        have k1 := k H1 sm
        have e2 : has g [c] = decide (c ∈ mb g.flatten) := rfl
        rw [e2] at k1
        rw [show decide (c ∈ srt (mb g.flatten)) = decide (c ∈ mb g.flatten) from decide_eq_decide.mpr (srt_perm _).mem_iff]
        exact k1
      · have e : decide (V.int ((S u).length : Nat) = V.int 1) = false := decide_eq_false (by
          rw [S_len]
          intro z
          injection z with z
          omega)
        rw [e]
        refine iteF ?_
        have k1 := k H (Same.refl H)
        unfold has at k1
        rw [decide_eq_false h1, Bool.false_and] at k1
        exact k1
    · exact ⟨_, rfl, _, _, _, _, false, rfl, .ty _, hty, kit_ty hk, false, rfl, iteF (k _ (Same.refl H))⟩
theorem scCl : FnScope ["self", "marble", "cells"] ["self", "marble"] (defScope sTrayCall) := ⟨rfl, rfl, rfl, by decide +kernel, rfl, by decide +kernel, by decide +kernel⟩
def spCl (K : PySem.W.Frag) (D CU : Addr) : Sp := fun vs H Q E => ∃ (p : Addr) (x : V) (h w : Nat) (g : Grid), vs = [.ref p, x] ∧ TrayAt K D H p g ∧ VG h w g ∧
  ((∃ c k : Nat, x = sg c ∧ c ≠ 46 ∧ g.flatten[k]? = some c ∧ ∀ H' q, Same H H' → H q = none → H' q = some (.tup [.int ((k : Int) / w), .int ((k : Int) % w)]) → Q (.ref q) H') ∨
    (((∃ u : List Nat, x = .str (S u) ∧ u.length ≤ 1000 ∧ has g u = false) ∨ NoText K H x) ∧ ∀ H' d, Same H H' → H d = none → H' d = some (.xd [("marble", x)]) → E (.ref CU) (some d) H'))
theorem mb_uniq {l : List Nat} (nd : (mb l).Nodup) {c i j : Nat} (hc : c ≠ 46) (hi : l[i]? = some c) (hj : l[j]? = some c) : i = j := by
  induction l generalizing i j with
  | nil => simp at hi
  | cons x l ih =>
    by_cases hx : x = 46
    · subst hx
      have e : mb (46 :: l) = mb l := by simp [mb]
      rw [e] at nd
      cases i with
      | zero => simp at hi; exact absurd hi.symm hc
      | succ i =>
        cases j with
        | zero => simp at hj; exact absurd hj.symm hc
        | succ j => rw [ih nd (i := i) (j := j) (by simpa using hi) (by simpa using hj)]
    · have e : mb (x :: l) = x :: mb l := by simp [mb, hx]
      rw [e] at nd
      have nd' := List.nodup_cons.mp nd
      have no : ∀ {k : Nat}, l[k]? = some x → False := fun {k} hk => nd'.1 (List.mem_filter.mpr ⟨List.mem_of_getElem? hk, by simp [hx]⟩)
      cases i with
      | zero =>
        simp at hi
        subst hi
        cases j with
        | zero => rfl
        | succ j => exact (no (by simpa using hj)).elim
      | succ i =>
        cases j with
        | zero =>
          simp at hj
          subst hj
          exact (no (by simpa using hi)).elim
        | succ j => rw [ih nd'.2 (i := i) (j := j) (by simpa using hi) (by simpa using hj)]
theorem flat_len {h w : Nat} {g : Grid} (R : Rect h w g) : g.flatten.length = h * w := by
  rw [List.length_flatten]
  have : g.map List.length = List.replicate h w := List.eq_replicate_iff.mpr ⟨by rw [List.length_map]; exact R.1, fun x hx => by
    obtain ⟨l, hl, rfl⟩ := List.mem_map.mp hx
    exact R.2 l hl⟩
  rw [this]
  simp
theorem join0 : ∀ g : Grid, Txt.join (S []) (g.map S) = S g.flatten := fun g => by
  rw [join_S, joinL_nil]
theorem ok_cl {f : Addr} {fd : FuncData} (F : Fun K "__call__" "Tray.__call__" sTrayCall f fd) (CT : ClsT K mg D) (dm : mg "divmod" = none)
    (hs : PySem.W.findIn K (.ref D) "__contains__" = some (some (.ref fC))) (hf : PySem.W.isFn K (.ref fC) = true) (FC : FnR P w K mg base CX0 3 fC (spTc K D))
    (PW_ : PropOf K D "width" pW gW) (GW : FnOk P w K mg base CX0 1 gW fdW ["self"] (spWd K D)) (bW : Binds K fdW ["self"] [])
    (X : ExcT K mg "UnknownMarble" CU fU) (GU : FnOk P w K mg base CX0 1 fU fdU ["self", "marble"] (spUm CU)) (bU : Binds K fdU ["self", "marble"] []) :
    FnOk P w K mg base (L2.CX P w) 4 f fd ["self", "marble"] (spCl K D CU) := by
  refine F.okX scCl (fun vs H Q E h => ?_) (fun cdv A outer s H vs Q E hr h => ?_)
  · obtain ⟨p, x, h, w, g, rfl, _⟩ := h
    rfl
  · obtain ⟨p, x, h, w, g, rfl, T0, hV, hx⟩ := h
    obtain ⟨dx, a, hp, hS⟩ := id T0
    refine ⟨_, pss_cons (ps_if (pt_cmpR (op_notOwn hs hf FC hr pass0) (pv 1) (pv 0) (by rfl)) (pss_one (ps_raise rfl (takes_of rfl rfl rfl rfl) (pmk_oex X.ox X.iE X.tE GU (hr.mono (by decide)) bU .nil pass0 rfl X.mgE (pa_cons (pv 1) pa_nil)))) pss_nil)
      (pss_cons (ps_set (i := 2) scCl.nd rfl (.inl rfl) (pe_join pe_str (pe_fld (pv 0) rfl)))
      (pss_one (ps_ret (pe_callB call_divmod (by rfl) dm (by decide +kernel) (pa_cons (pe_bm PySem.F.plainAttrs_str PySem.F.slot_str_index PySem.F.type_str_index mt_sindex (pv 2) (pa_cons (pv 1) pa_nil)) (pa_cons (pe_prop (pv 0) CT.cl PW_ GW (hr.mono (by decide)) bW .nil pass0 rfl) pa_nil)))))), ?_⟩
    rcases hx with ⟨c, kk, rfl, hc, hk, k⟩ | ⟨hn, k⟩
    · have hm : c ∈ mb g.flatten := List.mem_filter.mpr ⟨List.mem_of_getElem? hk, by simp [hc]⟩
      have hh : has g [c] = true := by
        show (true && decide (c ∈ mb g.flatten)) = true
        rw [decide_eq_true hm]
        rfl
      refine ⟨_, rfl, _, rfl, p, dx, _, rfl, hp, p, _, h, w, g, rfl, T0, hV, .inl ⟨[c], rfl, by show 1 ≤ 1000; decide, fun H1 sm => ?_⟩⟩
      rw [hh]
      refine ⟨true, rfl, _, rfl, iteF ?_⟩
      have hf64 := flat_len hV.rc
      have h64 : h * w ≤ 64 := Nat.mul_le_mul hV.n8 hV.m8
      refine ⟨⟨_, rfl⟩, _, rfl, p, D, dx, _, _, rfl, sm _ _ hp, CT.cl, CT.nR, rfl, _, a, g.map S, rfl, rfl, .inr ?_, ?_, ?_⟩
      · rw [List.map_map]
        exact sm.tup hS
      · have h1 := row_sum 8 g fun r hr => hV.row hr
        have h2 := hV.len
        rw [List.length_map]
        show _ + _ * 0 ≤ _
        omega
      rw [show Str.ofString "" = S [] from rfl, join0]
      have hcf : c ∈ g.flatten := List.mem_of_getElem? hk
      obtain ⟨i, rest, e1, e2⟩ := occ_at hcf
      have ei := mb_uniq hV.nd hc e2 hk
      subst ei
      refine ⟨_, rfl, rfl, _, rfl, _, _, i, rest, rfl, rfl, e1, ?_⟩
      refine ⟨_, rfl, p, dx, _, rfl, sm _ _ hp, p, h, w, g, rfl, T0.same sm, hV, _, _, rfl, ⟨by have := hV.m1; omega, by have := hV.m8; omega⟩, fun q hq => ?_⟩
      exact k _ q (sm.trans (same_new hq)) (sm.free hq) upd_same
    · have raised : ∀ {H1 : Hp}, Same H H1 → ∀ a, H1 a = none → spUm CU [.ref a, x] (upd H1 a (exo a CU none)) (fun v H2 => v = .non ∧ ∃ (d : Addr) (fs : List (Str × V)), H2 a = some (exo a CU (some d)) ∧ H2 d = some (exd d fs) ∧ H1 d = none ∧ E (.ref CU) (some d) (upd (del H2 a) d (.xd fs))) (fun _ _ _ => False) := by
        intro H1 sm a ha
        refine ⟨a, x, rfl, upd_same, fun d hd hne => ⟨rfl, d, _, upd_same, by rw [upd_ne hne, upd_same], ?_, ?_⟩⟩
        · rw [upd_ne hne] at hd
          exact hd
        · rw [upd_ne hne] at hd
          refine k _ _ (fun b o e => ?_) (sm.free hd) upd_same
          have e1 := sm b o e
          have nd := ne_of_none e1 hd
          have na := ne_of_none e1 ha
          rw [upd_ne nd, del_ne na, upd_ne na, upd_ne nd, upd_ne na]
          exact e1
      refine ⟨_, rfl, _, rfl, p, dx, _, rfl, hp, p, _, h, w, g, rfl, T0, hV, ?_⟩
      rcases hn with ⟨u, rfl, hu, hh⟩ | hn
      · refine .inl ⟨u, rfl, hu, fun H1 sm => ?_⟩
        rw [hh]
        exact ⟨false, rfl, _, rfl, iteT ⟨_, rfl, by show 1 ≤ 1000; decide, raised sm⟩⟩
      · exact .inr ⟨hn, fun H1 sm => ⟨false, rfl, _, rfl, iteT ⟨_, rfl, by show 1 ≤ 1000; decide, raised sm⟩⟩⟩
end
end TP
end
namespace TA
end TA
section
set_option Elab.async false
set_option maxRecDepth 100000
set_option linter.all false
namespace TA
open TK
open PySem PySem.Spec PyProof.Rows L2 LamX TX TK TM TB
/-- an own exception class that is made with a text -/
structure ExN (K : PySem.W.Frag) (mg : Str → Option Value) (x : Str) (CE : Addr) : Prop where
  q : PySem.W.excIn K CE [.type "ValueError", .type "Exception", .type "BaseException", .type "object"] "ValueError.__new__" = true
  g : mg x = some (.ref CE)
  k : PySem.W.keepIn K (.ref CE) = true
  s : PySem.W.subIn K (.ref CE) (.type "BaseException") = some true
  t : PySem.W.typeIn K (.ref CE) = some (.type "type")
section
variable {P : Program} {w : World} {K : PySem.W.Frag} {mg : Str → Option Value} {base : Heap} {C CN fU : Addr} {fdU : FuncData}
end
end TA
end
section
set_option Elab.async false
set_option maxRecDepth 100000
set_option linter.all false
namespace TP
open PySem L2 TM TK TH TB TX
open PySem.Spec PyProof.Rows
theorem passX {X : Cx} {E : XK} (tk : Takes X (fun cls d _ H => E cls d H)) : Passes (L2.CX X.prog X.w) X E := passes_call tk fun _ _ _ _ h => h
/-- what is_place says of a value -/
inductive Plc (K : PySem.W.Frag) (H : Hp) (h w : Nat) : V → Bool → Prop where
  | two {q : Addr} {a b : V} {ta tb : String} {xa ya xb yb : Bool} (hq : SqT K H q [a, b]) (ka : TA.Kn K H a ta xa ya) (kb : TA.Kn K H b tb xb yb) : Plc K H h w (.ref q) (TA.isN a ((h : Int) - 1) && TA.isN b ((w : Int) - 1))
  | tup {q : Addr} {xs : List V} (hq : SqT K H q xs) (hl : xs.length ≠ 2) : Plc K H h w (.ref q) false
  | other {x : V} {ty : String} (ht : TyX K H x (.type ty)) (hk : kitB ty "tuple" = some false) : Plc K H h w x false
section
variable {P : Program} {w : World} {K : PySem.W.Frag} {mg : Str → Option Value} {base : Heap} {D CP fN fL pH gH pW gW : Addr} {fdN fdL fdH fdW : FuncData}
structure TxtP (K : PySem.W.Frag) (mg : Str → Option Value) : Prop where
  isi : mg "isinstance" = none
  tup : mg "tuple" = none
  len : mg "len" = none
theorem scPl : FnScope ["value", "height", "width"] ["value", "height", "width"] (defScope sIsPlace) := ⟨rfl, rfl, rfl, by decide +kernel, rfl, by decide +kernel, by decide +kernel⟩
def spPl (K : PySem.W.Frag) : Sp := fun vs H Q _ => ∃ (x : V) (h w : Nat) (b : Bool), vs = [x, .int (h : Nat), .int (w : Nat)] ∧ Plc K H h w x b ∧ Q (.bl b) H
theorem ok_pl {f : Addr} {fd : FuncData} (F : Fun K "is_place" "is_place" sIsPlace f fd) (T : TxtP K mg) (GN : FnOk P w K mg base CX0 1 fN fdN ["value", "limit"] (TA.spNum K)) (kN : PySem.W.keepIn K (.ref fN) = true) (bN : Binds K fdN ["value", "limit"] []) (mN : mg "is_number" = some (.ref fN)) :
    FnOk P w K mg base CX0 2 f fd ["value", "height", "width"] (spPl K) := by
  refine F.ok scPl (fun vs H Q E h => ?_) (fun cdv A outer s H vs Q E hr h => ?_)
  · obtain ⟨x, h, w, b, rfl, _⟩ := h
    rfl
  · obtain ⟨x, h, w, b, rfl, hx, k⟩ := h
    refine ⟨_, pss_cons (ps_if (PW.pt (pw_or (pt_not (pt_val (pe_callB call_isi (by rfl) T.isi (by decide +kernel) (pa_cons (pv 0) (pa_cons (pe_bltn (v := .ty "tuple") (by rfl) T.tup (by decide +kernel) rfl) pa_nil)))))
        (pw_or1 (pt_cmpR op_ne (pe_callB call_len_seq (by rfl) T.len PySem.boot_len (pa_cons (pv 0) pa_nil)) pe_int (nomark _))))) (pss_one (ps_ret pe_bl)) pss_nil)
      (pss_one (ps_ret (pe_and (pe_call GN hr rfl mN kN bN .nil pass0 (pa_cons (pe_ix ix_tup (pv 0) pe_int (fun _ _ => rfl)) (pa_cons (pe_op op_sub (pv 1) pe_int) pa_nil)))
        (pe_one (pe_call GN hr rfl mN kN bN .nil pass0 (pa_cons (pe_ix ix_tup (pv 0) pe_int (fun _ _ => rfl)) (pa_cons (pe_op op_sub (pv 2) pe_int) pa_nil))))))), ?_⟩
    cases hx with
    | two hq ka kb =>
      rename_i q a b ta tb xa ya xb yb
      refine ⟨_, rfl, _, _, _, _, true, rfl, .ty _, TA.sq_ty (.tup hq), kit_ty (TA.tup_kit true), true, rfl, iteF ?_⟩
      refine ⟨_, rfl, q, _, rfl, .inr hq, rfl, _, rfl, iteF ?_⟩
      refine ⟨_, rfl, q, _, _, _, rfl, rfl, hq, rfl, _, rfl, _, _, rfl, rfl, a, _, _, _, _, rfl, ka, _, rfl, ?_⟩
      by_cases ha : TA.isN a ((h : Int) - 1) = true
      · rw [ha] at k ⊢
        refine iteT ⟨_, rfl, q, _, _, _, rfl, rfl, hq, rfl, _, rfl, _, _, rfl, rfl, b, _, _, _, _, rfl, kb, ?_⟩
        rw [Bool.true_and] at k
        exact k
      · rw [Bool.not_eq_true] at ha
        rw [ha] at k ⊢
        exact iteF k
    | tup hq hl =>
      rename_i q xs
      refine ⟨_, rfl, _, _, _, _, true, rfl, .ty _, TA.sq_ty (.tup hq), kit_ty (TA.tup_kit true), true, rfl, iteF ?_⟩
      refine ⟨_, rfl, q, _, rfl, .inr hq, rfl, _, rfl, ?_⟩
      rw [show (!decide (V.int (xs.length : Nat) = V.int 2)) = true by
        rw [decide_eq_false]
        · rfl
        · intro z
          injection z with z
          omega]
      exact iteT k
    | other ht hk =>
      refine ⟨_, rfl, _, _, _, _, false, rfl, .ty _, ht, kit_ty hk, false, rfl, iteT (iteT k)⟩
theorem scCp : FnScope ["tray", "place"] ["tray", "place"] (defScope sCheckPlace) := ⟨rfl, rfl, rfl, by decide +kernel, rfl, by decide +kernel, by decide +kernel⟩
def spCp (K : PySem.W.Frag) (D CP : Addr) : Sp := fun vs H Q E => ∃ (p : Addr) (x : V) (h w : Nat) (g : Grid), vs = [.ref p, x] ∧ TrayAt K D H p g ∧ VG h w g ∧
  ((∃ (q : Addr) (r c : Nat), x = .ref q ∧ SqT K H q [.int r, .int c] ∧ r < h ∧ c < w ∧ Q .non H) ∨ (Plc K H h w x false ∧ E (.ref CP) none H))
theorem ok_cp {f : Addr} {fd : FuncData} (F : Fun K "check_place" "check_place" sCheckPlace f fd) (CT : ClsT K mg D) (GL : FnOk P w K mg base CX0 2 fL fdL ["value", "height", "width"] (spPl K)) (kL : PySem.W.keepIn K (.ref fL) = true) (bL : Binds K fdL ["value", "height", "width"] []) (mL : mg "is_place" = some (.ref fL))
    (PH : PropOf K D "height" pH gH) (GH : FnOk P w K mg base CX0 1 gH fdH ["self"] (spHt K D)) (bH : Binds K fdH ["self"] [])
    (PW_ : PropOf K D "width" pW gW) (GW : FnOk P w K mg base CX0 1 gW fdW ["self"] (spWd K D)) (bW : Binds K fdW ["self"] []) (X : TA.ExN K mg "InvalidPlace" CP) :
    FnOk P w K mg base (L2.CX P w) 3 f fd ["tray", "place"] (spCp K D CP) := by
  refine F.okX scCp (fun vs H Q E h => ?_) (fun cdv A outer s H vs Q E hr h => ?_)
  · obtain ⟨p, x, h, w, g, rfl, _⟩ := h
    rfl
  · obtain ⟨p, x, h, w, g, rfl, T0, hV, hx⟩ := h
    obtain ⟨dx, a, hp, hS⟩ := id T0
    refine ⟨_, pss_one (ps_if (pt_not (pt_val (pe_call GL hr rfl mL kL bL .nil pass0 (pa_cons (pv 1) (pa_cons (pe_prop (pv 0) CT.cl PH GH (hr.mono (by decide)) bH .nil pass0 rfl) (pa_cons (pe_prop (pv 0) CT.cl PW_ GW (hr.mono (by decide)) bW .nil pass0 rfl) pa_nil))))))
        (pss_one (ps_raise rfl (takes_of rfl rfl rfl rfl) (pmk_own PySem.F.excBase_ValueError X.q X.g X.k (raises_own X.s X.t) rfl))) pss_nil), ?_⟩
    refine ⟨_, rfl, _, rfl, p, dx, _, rfl, hp, p, h, w, g, rfl, T0, hV, _, rfl, p, dx, _, rfl, hp, p, h, w, g, rfl, T0, hV, x, h, w, ?_⟩
    rcases hx with ⟨q, r, c, rfl, hq, hr', hc', k⟩ | ⟨hb, k⟩
    · refine ⟨_, rfl, .two hq (TA.kn_int _) (TA.kn_int _), ?_⟩
      have e1 : TA.isN (.int r) ((h : Int) - 1) = true := by
        show (decide ((0 : Int) ≤ r) && decide ((r : Int) ≤ (h : Int) - 1)) = true
        rw [decide_eq_true (by omega), decide_eq_true (by omega)]
        rfl
      have e2 : TA.isN (.int c) ((w : Int) - 1) = true := by
        show (decide ((0 : Int) ≤ c) && decide ((c : Int) ≤ (w : Int) - 1)) = true
        rw [decide_eq_true (by omega), decide_eq_true (by omega)]
        rfl
      rw [e1, e2]
      exact ⟨true, rfl, iteF k⟩
    · exact ⟨false, rfl, hb, false, rfl, iteT k⟩
abbrev NAt : List Str := ["self", "place", "row", "column", "cell"]
theorem scAt : FnScope NAt ["self", "place"] (defScope sTrayAt) := ⟨rfl, rfl, rfl, by decide +kernel, rfl, by decide +kernel, by decide +kernel⟩
def atV (g : Grid) (r c : Nat) : V := if (g.getD r []).getD c 46 = 46 then .non else sg ((g.getD r []).getD c 46)
def spAt (K : PySem.W.Frag) (D CP : Addr) : Sp := fun vs H Q E => ∃ (p : Addr) (x : V) (h w : Nat) (g : Grid), vs = [.ref p, x] ∧ TrayAt K D H p g ∧ VG h w g ∧
  ((∃ (q : Addr) (r c : Nat), x = .ref q ∧ SqT K H q [.int r, .int c] ∧ r < h ∧ c < w ∧ Q (atV g r c) H) ∨ (Plc K H h w x false ∧ E (.ref CP) none H))
theorem ok_at {fV : Addr} {fdV : FuncData} {f : Addr} {fd : FuncData} (F : Fun K "at" "Tray.at" sTrayAt f fd) (T : TxtM K mg) (CT : ClsT K mg D)
    (GV : FnOk P w K mg base (L2.CX P w) 3 fV fdV ["tray", "place"] (spCp K D CP)) (kV : PySem.W.keepIn K (.ref fV) = true) (bV : Binds K fdV ["tray", "place"] []) (mV : mg "check_place" = some (.ref fV)) :
    FnOk P w K mg base (L2.CX P w) 4 f fd ["self", "place"] (spAt K D CP) := by
  refine F.okX scAt (fun vs H Q E h => ?_) (fun cdv A outer s H vs Q E hr h => ?_)
  · obtain ⟨p, x, h, w, g, rfl, _⟩ := h
    rfl
  · obtain ⟨p, x, h, w, g, rfl, T0, hV, hx⟩ := h
    obtain ⟨dx, a, hp, hS⟩ := id T0
    have nd := scAt.nd
    refine ⟨_, pss_cons (ps_expr (pe_call GV hr rfl mV kV bV .nil (passX (takes_of rfl rfl rfl rfl)) (pa_cons (pv 0) (pa_cons (pv 1) pa_nil))))
      (pss_cons (ps_asg (pv 1) (pg_tup (by rfl) (pgs_cons (pg_name (i := 2) nd rfl (.inl rfl)) (pgs_cons (pg_name (i := 3) nd rfl (.inl rfl)) pgs_nil))))
      (pss_cons (ps_set (i := 4) nd rfl (.inl rfl) (pe_ix ix_str (pe_ix ix_tup (pe_fld (pv 0) rfl) (pv 2) (fun _ _ => rfl)) (pv 3) (fun _ _ => rfl)))
      (pss_one (ps_ret (pe_ifExp (pt_cmpR op_eq (pv 4) (C8.pe_gc rfl T.em) (nomark _)) pe_non (pv 4)))))), ?_⟩
    refine ⟨_, rfl, _, rfl, p, x, h, w, g, rfl, T0, hV, ?_⟩
    rcases hx with ⟨q, r, c, rfl, hq, hr', hc', k⟩ | ⟨hb, k⟩
    · refine .inl ⟨q, r, c, rfl, hq, hr', hc', ?_⟩
      refine ⟨_, rfl, q, _, rfl, hq, rfl, _, _, rfl, _, _, rfl, rfl, ?_⟩
      have hrg : r < g.length := by rw [hV.rc.1]; exact hr'
      have er : g[r]? = some (g.getD r []) := by
        rw [List.getD_eq_getElem?_getD, List.getElem?_eq_getElem hrg]
        rfl
      have lr : (g.getD r []).length = w := hV.rc.2 _ (List.mem_of_getElem? er)
      have h8 := hV.m8
      unfold atV at k
      generalize g.getD r [] = row at er lr k
      have ec : row[c]? = some (row.getD c 46) := by
        rw [List.getD_eq_getElem?_getD, List.getElem?_eq_getElem (by omega)]
        rfl
      refine ⟨_, rfl, p, D, dx, _, _, rfl, hp, CT.cl, CT.nR, rfl, _, rfl, a, _, _, _, rfl, rfl, hS, atI_nat (by rw [List.getElem?_map, er]; all_goals rfl), _, rfl, S row, (c : Int), row.getD c 46, rfl, rfl, by rw [S_len]; show _ ≤ 16777216; omega, by rw [S_list]; exact atI_nat ec, ?_⟩
      generalize row.getD c 46 = z at k
      refine ⟨_, rfl, rfl, _, rfl, ?_⟩
      rw [show decide (V.str (⟨#[z]⟩ : Str) = V.str (S [46])) = (z == 46) from dL z 46]
      by_cases q46 : z = 46
      · rw [beq_iff_eq.mpr q46]
        rw [if_pos q46] at k
        exact iteT k
      · rw [beq_eq_false_iff_ne.mpr q46]
        rw [if_neg q46] at k
        exact iteF ⟨_, rfl, k⟩
    · exact .inr ⟨hb, k⟩
end
end TP
end
section
set_option Elab.async false
set_option maxRecDepth 100000
set_option linter.all false
namespace TR
open PySem PySem.Spec PyProof.Rows L2 TH
/-- D[y] = z, y a tuple, where a comprehension makes D -/
theorem put_tup {X : Cx} {pins : List (Addr × Obj)} {σ : L2.St} {H : Hp} {s : Shared} {E : Value → Shared → Prop} {D b : Addr} {kvs : List (List Key × V)} {k : List Key} {z : V} {r : Value} {Q : Unit → Shared → Prop}
    (hu : X.A.units + 1 < cLine) (I : Inv X pins σ H s) (hD : H D = some (.dT kvs)) (hb : H b = some (.tup (k.map kV))) (hz : kvs.length < sizeLine) (rz : RelV z r)
    (h : ∀ s', Inv X pins σ (upd H D (.dT (putK kvs k z))) s' → Q () s') : wpAny (model X.prog X.w) X.A (dictSet D (.ref b) r) Q E s := by
  obtain ⟨_, nsys, xs, rel, dd⟩ := dt_of I.hok hD
  have hxs : xs.length ≤ sizeLine := by
    rw [← Paired.length rel]
    omega
  have hnew : (putK kvs k z).length ≤ sizeLine := Nat.le_trans (length_putK kvs k z) hz
  refine wpAny_dictSet_heap (hsz := hxs) (Nat.lt_of_succ_lt hu) (key_of I.hok hb) dd fun hp ddp same => h _ ?_
  obtain ⟨ob, es, ep, g1, g2, g3, g4, _, g5⟩ := ddp
  have keep : ∀ c ys, H c = some (.tup ys) → (upd H D (.dT (putK kvs k z))) c = some (.tup ys) := fun c ys ec => by
    rw [upd_ne (ne_of ec hD (fun q => nomatch q))]
    exact ec
  exact d_write I (by rw [hD]; exact True.intro) same ⟨ob, g1⟩ ⟨hnew, nsys, _, (rel.put k hb rz).keeps keep, ob, es, ep, g1, g2, g3, g4, g5⟩
section
variable {X : Cx}
/-- what a turn asks: nothing is left out -/
abbrev DcTW (g : TG) (tk tv : TE) (vs : List Nat) (σ : L2.St) (J : It) (D : Addr) (W : Nat → Nat → Hp → Prop) (Qd : Hp → Prop) : Prop := ∀ i m H, W i m H →
  (J.stop i H ∧ Qd H) ∨ (J.go i H ∧ ∃ Nx : Hp → Prop, (∀ H', Nx H' → ∃ m', m' < m ∧ W (i + 1) m' H') ∧ ∀ x H', J.yld i H x H' → g x (wipe σ vs) H' fun σ2 H2 => wipe σ2 vs = wipe σ vs ∧
    tk σ2 H2 fun y H4 => tv σ2 H4 fun z H5 => ∃ kvs k b, y = .ref b ∧ H5 b = some (.tup (k.map kV)) ∧ H5 D = some (.dT kvs) ∧ kvs.length < sizeLine ∧ Nx (upd H5 D (.dT (putK kvs k z))))
def tDcT (wi : TI) (g : TG) (tk tv : TE) (vs : List Nat) : TE := fun σ H Q => wi σ H fun J H1 => ∀ D, H1 D = none → ∃ W : Nat → Nat → Hp → Prop, (∃ m, W 0 m (upd H1 D (.dT []))) ∧ DcTW g tk tv vs σ J D W (Q (.ref D))
/-- the loop in the block's own context B -/
theorem dcT_loop {B : Cx} {kx vx tg iter : Expr} {scope : Scope} {pos : Pos} {g : TG} {tk tv : TE} {vs : List Nat} {σ : L2.St} {J : It} {fp : List Addr} {it D : Addr} {tn : Nat → Heap → Prop} {W : Nat → Nat → Hp → Prop} {Qd : Hp → Prop} {R : Result → Shared → Prop} {H : Hp} {s : Shared} {m0 : Nat}
    (hu : B.A.units + 1 < cLine) (hx : ∀ b ∈ fp, b ∈ B.ex) (hpn : B.pn = []) (hxe : B.xe = fun _ _ => False) (hc : B.calm = true) (T : Turn B.prog B.w B.K tg J fp it tn) (pg : PG B tg g) (pk : PE B kx tk) (pe : PE B vx tv) (turn : DcTW g tk tv vs σ J D W Qd)
    (fin : ∀ H' s', Inv B [] (wipe σ vs) H' s' → Qd H' → R (.ok .next) s') (I : Inv B [] (wipe σ vs) H s) (st : tn 0 s.heap) (hf : ∀ b ∈ fp, H b = none) (w0 : W 0 m0 H) :
    codeAny (model B.prog B.w) B.A (.compLoop (.DictComp kx vx [⟨tg, iter, [], 0⟩] scope pos) 0 (.ref it) (.ref D) B.env) R s := by
  refine compLoop_anyD (fun m t => ∃ i H', Inv B [] (wipe σ vs) H' t ∧ tn i t.heap ∧ (∀ b ∈ fp, H' b = none) ∧ W i m H') ?_ m0 ⟨0, H, I, st, hf, w0⟩
  rintro m t ⟨i, H1, I1, st1, f1, w1⟩
  rcases turn i m H1 w1 with ⟨stop, qd⟩ | ⟨go, Nx, hNx, step⟩
  · refine thnF (T.done B rfl rfl rfl hc i [] t _ H1 (fun _ _ => False) I1 (blk_fp hx hpn I1 f1) st1 stop) fun r t2 ⟨e, I2⟩ => ?_
    rw [e]
    exact fin H1 t2 I2 qd
  · refine thnF (T.item B rfl rfl rfl hc i [] t _ H1 (fun _ _ => False) I1 (blk_fp hx hpn I1 f1) st1 go) fun r t2 ⟨u, e, more⟩ => ?_
    rw [e]
    refine thnF more fun _ t3 ⟨x, H3, I3, rx, y3, st3, f3⟩ => ?_
    have pinned := I3.pinned (blk_fp hx hpn I3 f3) (T.obj _ _ st3)
    have h4 := pg.run _ t3 _ H3 x u _ pinned rx (step x H3 y3)
    rw [hxe] at h4
    refine thnF h4 fun _ t4 ⟨σ4, H4, I4, w4, q4⟩ => ?_
    refine wpAny_tests_nil ?_
    have h5 := pk.run _ t4 σ4 H4 _ I4 q4
    rw [hxe] at h5
    show if true = true then _ else _
    rw [if_pos rfl]
    refine thnF h5 fun z t5 ⟨yk, H5, I5, r5, q5⟩ => ?_
    have h6 := pe.run _ t5 σ4 H5 _ I5 q5
    rw [hxe] at h6
    refine thnF h6 fun z2 t6 ⟨yv, H6, I6, r6, kvs, k, b, ek, hb, hD, hz, nx⟩ => ?_
    subst ek
    obtain rfl : z = Value.ref b := r5
    refine put_tup hu I6 hD hb hz r6 fun t7 I7 => ?_
    obtain ⟨m', lt, w7⟩ := hNx _ nx
    obtain ⟨k1, k2, k3⟩ := blk_turn T st3 w4 I7
    exact ⟨m', lt, i + 1, _, k1, k2, k3, w7⟩
theorem dcT_core {pins : List (Addr × Obj)} {s : Shared} {σ : L2.St} {H : Hp} {Q : VK} {kx vx tg iter : Expr} {scope : Scope} {own : List (Str × Nat)} {pos pos' : Pos} {wi : TI} {g : TG} {tk tv : TE} {use : Option (Value → Sem Unit)} {Qf : Value → Shared → Prop}
    (hu : X.A.units + 1 < cLine) (hc : X.calm = true) (hN : X.N.Nodup) (I : Inv X pins σ H s) (hi : PI X tg iter wi) (ok : BlkOk X.N X.env.scope scope own)
    (hg : ∀ (s : Shared) (H : Hp) (C : Addr) (cl : List (Str × Addr)) (fp : List Addr), PG (X.blk s H scope (compEnvC scope cl C X.env) fp) tg g)
    (hk : ∀ (s : Shared) (H : Hp) (C : Addr) (cl : List (Str × Addr)) (fp : List Addr), PE (X.blk s H scope (compEnvC scope cl C X.env) fp) kx tk)
    (he : ∀ (s : Shared) (H : Hp) (C : Addr) (cl : List (Str × Addr)) (fp : List Addr), PE (X.blk s H scope (compEnvC scope cl C X.env) fp) vx tv) (hs : ∀ x, foldedSetIterable iter X.env x = pure x)
    (h : tDcT wi g tk tv (own.map (·.2)) σ H Q)
    (hRR : ∀ D C s' m H', Inv X pins σ H' s' → Q (.ref D) H' → s'.heap.Ns C m → FpOk X pins H' C → compPost (model X.prog X.w) X.A X.xe use Qf (.ref D) C (.ok .next) s') :
    wpAny (model X.prog X.w) X.A (comprehension (.DictComp kx vx [⟨tg, iter, [], 0⟩] scope pos) scope X.env pos' newDict false (eval iter X.env) use) Qf X.xe s := by
  have known : ∀ y ∈ scope.names, y.2 = .free → ∃ c, X.env.cells.lookup y.1 = some c := fun y hy e => (ok.free y hy e).elim (fun k => I.ok.has _ (.inl k)) fun k => I.ok.has _ (.inr k)
  refine wpAny_comprehension_free (use := use) rfl hs (closure_ok known) ok.kind (fun y hy e => by rw [ok.uniq y hy, e]) ?_
  refine thn (hi.run pins s σ H _ I h) fun xv s1 hx => thn hx fun itv s2 h2 => ?_
  obtain ⟨it, fp, tn, J, H2, rfl, I2, T, st2, f2, q⟩ := h2
  refine wpAny_newObj_type (newEnv_comp ?_)
  have free2 : H2 s2.heap.objs.size = none := I2.hok.fresh (Nat.le_refl _)
  have below : ∀ b ∈ fp, b < s2.heap.objs.size := fun b hb => by
    obtain ⟨o, e, _⟩ := T.obj _ _ st2 b hb
    exact Heap.lt_size e
  have laid3 : Inv X pins σ (upd H2 s2.heap.objs.size (.dT [])) { s2 with heap := s2.heap.push { cls := .type "dict", data := .dict #[] } } :=
    I2.laid (t' := s2.toks) (fun b o e => Heap.get?_push_of_some _ e) (Nat.le_refl _) (dt_empty s2.heap I2.big)
  have st3 : tn 0 (s2.heap.push { cls := .type "dict", data := .dict #[] }) := T.keep _ _ _ st2 fun b _ o e => Heap.get?_push_of_some _ e
  obtain ⟨W, ⟨m0, w0⟩, turn⟩ := q _ free2
  generalize hD : s2.heap.objs.size = D at free2 below laid3 turn w0 ⊢
  generalize hH3 : upd H2 D (.dT []) = H3 at laid3 w0
  have f3 : ∀ b ∈ fp, FpOk X pins H3 b ∧ b < ({ s2 with heap := s2.heap.push { cls := .type "dict", data := .dict #[] } } : Shared).heap.objs.size := fun b hb => by
    have lt := below b hb
    refine ⟨⟨?_, (f2 b hb).2⟩, ?_⟩
    · rw [← hH3, upd_ne (Nat.ne_of_lt lt)]
      exact (f2 b hb).1
    · show b < (s2.heap.push _).objs.size
      rw [Heap.size_push, hD]
      exact Nat.lt_succ_of_lt lt
  generalize hs3 : ({ s2 with heap := s2.heap.push { cls := .type "dict", data := .dict #[] } } : Shared) = s3 at laid3 f3
  have h3 : s2.heap.push { cls := .type "dict", data := .dict #[] } = s3.heap := by rw [← hs3]
  rw [h3] at st3
  have I4 := block_start laid3 ok hN f3
  have st4 : tn 0 (pushCells (s3.heap.push { cls := .type "dict", data := .dict #[] }) scope.names) := T.keep _ _ _ st3 fun b _ o e => pushCells_keeps _ _ _ _ (Heap.get?_push_of_some _ e)
  show codeAny _ _ (.compStart (.DictComp kx vx [⟨tg, iter, [], 0⟩] scope pos) 0 (.ref it) (.ref D) (blkE X scope s3)) (compPost (model X.prog X.w) X.A X.xe use Qf (.ref D) s3.heap.objs.size) { s3 with heap := pushCells (s3.heap.push { cls := .type "dict", data := .dict #[] }) scope.names }
  have loop : codeAny (model X.prog X.w) X.A (.compLoop (.DictComp kx vx [⟨tg, iter, [], 0⟩] scope pos) 0 (.ref it) (.ref D) (blkE X scope s3)) (compPost (model X.prog X.w) X.A X.xe use Qf (.ref D) s3.heap.objs.size) { s3 with heap := pushCells (s3.heap.push { cls := .type "dict", data := .dict #[] }) scope.names } := by
    refine dcT_loop (B := X.blk s3 H3 scope (blkE X scope s3) fp) (J := J) (Qd := Q (.ref D)) (W := W) (vs := own.map (·.2)) (σ := σ) hu (fun b hb => hb) rfl rfl hc T (hg _ _ _ _ _) (hk _ _ _ _ _) (he _ _ _ _ _) turn ?_ I4 st4 (fun b hb => (f3 b hb).1.1) w0
    intro H' s' J' qd
    have back : Inv X pins σ H' s' := laid3.call' (ch := fp) J'.os J'.base J'.hok J'.bare fun b hb => ⟨(f3 b hb).1.2.2.2.1, (f3 b hb).1.2.1, (f3 b hb).1.2.2.2.2.1, (f3 b hb).1.2.2.2.2.2⟩
    obtain ⟨m, hm, _⟩ := J'.loc
    exact hRR D s3.heap.objs.size s' m H' back qd hm (laid3.fpOk (Nat.le_refl _) J'.free)
  exact codeAny_compStart_dict loop (T.self X.A 0 _ _ _ st4 loop)
/-- {k: v for x in xs}, k a tuple -/
theorem pe_dcT {kx vx tg iter : Expr} {scope : Scope} {own : List (Str × Nat)} {pos : Pos} {wi : TI} {g : TG} {tk tv : TE} (hu : X.A.units + 1 < cLine) (hc : X.calm = true) (hN : X.N.Nodup) (hi : PI X tg iter wi) (ok : BlkOk X.N X.env.scope scope own)
    (hg : ∀ (s : Shared) (H : Hp) (C : Addr) (cl : List (Str × Addr)) (fp : List Addr), PG (X.blk s H scope (compEnvC scope cl C X.env) fp) tg g)
    (hk : ∀ (s : Shared) (H : Hp) (C : Addr) (cl : List (Str × Addr)) (fp : List Addr), PE (X.blk s H scope (compEnvC scope cl C X.env) fp) kx tk)
    (he : ∀ (s : Shared) (H : Hp) (C : Addr) (cl : List (Str × Addr)) (fp : List Addr), PE (X.blk s H scope (compEnvC scope cl C X.env) fp) vx tv) (hs : ∀ x, foldedSetIterable iter X.env x = pure x := by intro _; rfl) :
    PE X (.DictComp kx vx [⟨tg, iter, [], 0⟩] scope pos) (tDcT wi g tk tv (own.map (·.2))) := by
  refine ⟨fun pins s σ H Q I h => ?_⟩
  rw [arm_eval_DictComp]
  refine dcT_core hu hc hN I hi ok hg hk he hs h fun D C s' m H' I' q hns f => ⟨m, hns, fun h2 sb => ?_⟩
  obtain ⟨a0, a1, _, a3, a4, a5⟩ := f
  exact ⟨.ref D, H', I'.turned (t' := s'.toks) (fun b o hb e => (sb.2 b hb).trans e) a0 a1 a3 a4 a5, rfl, q⟩
/-- over a text -/
theorem dcT_it {J : It} {N : Nat} {G : Hp → Prop} {Y : Nat → Hp → V → Hp → Prop} {g : TG} {tk tv : TE} {vs : List Nat} {σ : L2.St} {H1 : Hp} {D : Addr} {Qd : Hp → Prop} (Wk : Walk J N G Y) (Pv : Nat → Hp → Prop) (h0 : Pv 0 (upd H1 D (.dT []))) (hl : ∀ i H, i ≤ N → Pv i H → G H)
    (hs : ∀ i x H H', i < N → Pv i H → Y i H x H' → g x (wipe σ vs) H' fun σ2 H2 => wipe σ2 vs = wipe σ vs ∧
      tk σ2 H2 fun y H4 => tv σ2 H4 fun z H5 => ∃ kvs k b, y = .ref b ∧ H5 b = some (.tup (k.map kV)) ∧ H5 D = some (.dT kvs) ∧ kvs.length < sizeLine ∧ Pv (i + 1) (upd H5 D (.dT (putK kvs k z)))) (hd : ∀ H, Pv N H → Qd H) :
    ∃ W : Nat → Nat → Hp → Prop, (∃ m, W 0 m (upd H1 D (.dT []))) ∧ DcTW g tk tv vs σ J D W Qd := by
  refine ⟨fun i m H => m = N - i ∧ i ≤ N ∧ Pv i H, ⟨N, by simp, Nat.zero_le _, h0⟩, ?_⟩
  rintro i m H ⟨rfl, hi, p⟩
  rcases Nat.lt_or_ge i N with q | q
  · refine .inr ⟨Wk.goes i H q (hl i H hi p), Pv (i + 1), fun H' p' => ⟨N - (i + 1), by omega, rfl, q, p'⟩, fun x H' y => ?_⟩
    exact hs i x H H' q p (Wk.yields i H x H' q (hl i H hi p) y)
  · have : i = N := by omega
    subst this
    exact .inl ⟨Wk.stops H (hl i H hi p), hd H p⟩
end
end TR
end
section
set_option maxHeartbeats 4000000
set_option linter.all false
namespace TM
def fL : Nat → List Nat → List Nat
  | x, [] => [x]
  | x, y :: r => if x = 46 then y :: fL 46 r else x :: fL y r
def pL : List Nat → List Nat
  | [] => []
  | x :: r => fL x r
def fR : Nat → List Nat → List Nat
  | x, [] => [x]
  | x, y :: r => if y = 46 then 46 :: fR x r else x :: fR y r
def pR : List Nat → List Nat
  | [] => []
  | x :: r => fR x r
def it (f : List Nat → List Nat) : Nat → List Nat → List Nat
  | 0, l => l
  | k + 1, l => it f k (f l)
theorem it_snoc (f : List Nat → List Nat) : ∀ k l, it f (k + 1) l = f (it f k l)
  | 0, _ => rfl
  | k + 1, l => it_snoc f k (f l)
theorem fL_dot : ∀ r, fL 46 r = r ++ [46]
  | [] => rfl
  | y :: r => by simp [fL, fL_dot r]
theorem pL_dot (l : List Nat) : pL (46 :: l) = l ++ [46] := fL_dot l
theorem pL_mb {x : Nat} (h : x ≠ 46) (l : List Nat) : pL (x :: l) = x :: pL l := by
  cases l with
  | nil => rfl
  | cons y r => show fL x (y :: r) = _; rw [fL, if_neg h]; rfl
theorem pL_snoc : ∀ l, pL (l ++ [46]) = pL l ++ [46]
  | [] => rfl
  | x :: l => by
    by_cases h : x = 46
    · subst h
      rw [List.cons_append, pL_dot, pL_dot]
    · rw [List.cons_append, pL_mb h, pL_mb h, pL_snoc l, List.cons_append]
theorem itL_snoc : ∀ k l, it pL k (l ++ [46]) = it pL k l ++ [46]
  | 0, _ => rfl
  | k + 1, l => by show it pL k (pL (l ++ [46])) = _; rw [pL_snoc, itL_snoc k]; rfl
theorem itL_mb {x : Nat} (h : x ≠ 46) : ∀ k l, it pL k (x :: l) = x :: it pL k l
  | 0, _ => rfl
  | k + 1, l => by show it pL k (pL (x :: l)) = _; rw [pL_mb h, itL_mb h k]; rfl
theorem sl_dotL (l : List Nat) : sl true (46 :: l) = sl true l ++ [46] := by
  have e : mb (46 :: l) = mb l := by simp [mb]
  have := mb_le l
  simp only [sl, if_true, e, List.length_cons]
  rw [show l.length + 1 - (mb l).length = l.length - (mb l).length + 1 by omega]
  unfold dots
  rw [List.replicate_succ', List.append_assoc]
theorem sl_mbL {x : Nat} (h : x ≠ 46) (l : List Nat) : sl true (x :: l) = x :: sl true l := by
  have e : mb (x :: l) = x :: mb l := by simp [mb, h]
  simp only [sl, if_true, e, List.length_cons]
  rw [show l.length + 1 - ((mb l).length + 1) = l.length - (mb l).length by omega]
  rfl
theorem itL_sl : ∀ (l : List Nat) (k : Nat), l.length ≤ k → it pL k l = sl true l
  | [], k, _ => by
    have : ∀ k, it pL k [] = [] := fun k => by
      induction k with
      | zero => rfl
      | succ k ih => exact ih
    rw [this]
    rfl
  | x :: l, k, h => by
    by_cases hx : x = 46
    · subst hx
      cases k with
      | zero => simp at h
      | succ k =>
        show it pL k (pL (46 :: l)) = _
        rw [pL_dot, itL_snoc, itL_sl l k (by simpa using h), sl_dotL]
    · rw [itL_mb hx, itL_sl l k (by simp at h; omega), sl_mbL hx]
theorem fR_snoc {m : Nat} (hm : m ≠ 46) : ∀ x r, fR x (r ++ [m]) = fR x r ++ [m]
  | x, [] => by simp [fR, hm]
  | x, y :: r => by
    rw [List.cons_append, fR, fR]
    split
    · rw [fR_snoc hm x r, List.cons_append]
    · rw [fR_snoc hm y r, List.cons_append]
theorem pR_snoc {m : Nat} (hm : m ≠ 46) (l : List Nat) : pR (l ++ [m]) = pR l ++ [m] := by
  cases l with
  | nil => rfl
  | cons x r => exact fR_snoc hm x r
theorem itR_snoc {m : Nat} (hm : m ≠ 46) : ∀ k l, it pR k (l ++ [m]) = it pR k l ++ [m]
  | 0, _ => rfl
  | k + 1, l => by show it pR k (pR (l ++ [m])) = _; rw [pR_snoc hm, itR_snoc hm k]; rfl
theorem fR_last : ∀ (r : List Nat) (x : Nat), mb (x :: r) ≠ [] → ∃ l2 m, fR x r = l2 ++ [m] ∧ m ≠ 46 ∧ mb (x :: r) = mb l2 ++ [m] ∧ l2.length = r.length
  | [], x, h => by
    have hx : x ≠ 46 := fun z => h (by subst z; rfl)
    exact ⟨[], x, rfl, hx, by simp [mb, hx], rfl⟩
  | y :: r, x, h => by
    by_cases hy : y = 46
    · subst hy
      have e : mb (x :: 46 :: r) = mb (x :: r) := by
        rw [show x :: 46 :: r = [x] ++ ([46] ++ r) from rfl, mb_app, mb_app, show x :: r = [x] ++ r from rfl, mb_app]
        rfl
      rw [e] at h
      obtain ⟨l2, m, h1, h2, h3, h4⟩ := fR_last r x h
      refine ⟨46 :: l2, m, by rw [fR, if_pos rfl, h1]; rfl, h2, by rw [e, h3]; simp [mb], by simp [h4]⟩
    · have h' : mb (y :: r) ≠ [] := by simp [mb, hy]
      obtain ⟨l2, m, h1, h2, h3, h4⟩ := fR_last r y h'
      refine ⟨x :: l2, m, by rw [fR, if_neg hy, h1]; rfl, h2, ?_, by simp [h4]⟩
      rw [show x :: y :: r = [x] ++ (y :: r) from rfl, mb_app, h3, show x :: l2 = [x] ++ l2 from rfl, mb_app, List.append_assoc]
theorem pR_dots : ∀ n, pR (dots n) = dots n
  | 0 => rfl
  | n + 1 => by
    have : ∀ n, fR 46 (dots n) = dots (n + 1) := fun n => by
      induction n with
      | zero => rfl
      | succ n ih => show fR 46 (46 :: dots n) = _; rw [fR, if_pos rfl, ih]; rfl
    exact this n
theorem mb_none {l : List Nat} (h : mb l = []) : l = dots l.length := by
  refine List.eq_replicate_iff.mpr ⟨rfl, fun c hc => ?_⟩
  have := List.filter_eq_nil_iff.mp h c hc
  simpa using this
theorem itR_sl : ∀ (k : Nat) (l : List Nat), l.length ≤ k → it pR k l = sl false l
  | 0, l, h => by
    have : l = [] := List.length_eq_zero_iff.mp (by omega)
    subst this
    rfl
  | k + 1, l, h => by
    by_cases e : mb l = []
    · have z := mb_none e
      have ks : ∀ k, it pR k l = l := fun k => by
        induction k with
        | zero => rfl
        | succ k ih => show it pR k (pR l) = l; rw [z, pR_dots, ← z, ih]
      rw [ks]
      simp only [sl, Bool.false_eq_true, if_false, e, List.length_nil, Nat.sub_zero, List.append_nil]
      exact z
    · cases l with
      | nil => exact absurd rfl e
      | cons x r =>
        obtain ⟨l2, m, h1, h2, h3, h4⟩ := fR_last r x e
        show it pR k (fR x r) = _
        have hle := mb_le l2
        rw [h1, itR_snoc h2, itR_sl k l2 (by rw [h4]; simpa using h)]
        simp only [sl, Bool.false_eq_true, if_false, h3, List.length_append, List.length_cons, List.length_nil]
        rw [show r.length + 1 - ((mb l2).length + (0 + 1)) = l2.length - (mb l2).length by omega, List.append_assoc]
def st1 (s : Bool) (l : List Nat) (k : Nat) : List Nat := if s then (if 1 ≤ k ∧ l.getD (k - 1) 0 = 46 then (l.set (k - 1) (l.getD k 0)).set k 46 else l) else (if k + 1 < l.length ∧ l.getD (k + 1) 0 = 46 then (l.set (k + 1) (l.getD k 0)).set k 46 else l)
theorem st1_len (s : Bool) (l : List Nat) (k : Nat) : (st1 s l k).length = l.length := by
  unfold st1
  split <;> split <;> simp
def pass (s : Bool) (l : List Nat) : List Nat := (List.range l.length).foldl (st1 s) l
theorem shiftL (x : Nat) : ∀ (ks l : List Nat), (∀ k ∈ ks, 1 ≤ k) → (ks.map (· + 1)).foldl (st1 true) (x :: l) = x :: ks.foldl (st1 true) l
  | [], _, _ => rfl
  | k :: ks, l, h => by
    have hk := h k List.mem_cons_self
    obtain ⟨j, rfl⟩ : ∃ j, k = j + 1 := ⟨k - 1, by omega⟩
    have e : st1 true (x :: l) (j + 1 + 1) = x :: st1 true l (j + 1) := by
      simp only [st1, if_true, Nat.add_sub_cancel]
      by_cases q : l.getD j 0 = 46
      · rw [if_pos ⟨by omega, by simpa using q⟩, if_pos ⟨by omega, q⟩]
        simp
      · rw [if_neg (fun z => q (by simpa using z.2)), if_neg fun z => q z.2]
    rw [List.map_cons, List.foldl_cons, e, shiftL x ks _ fun k hk => h k (List.mem_cons_of_mem _ hk)]
    rfl
theorem shiftR (x : Nat) : ∀ (ks l : List Nat), (ks.map (· + 1)).foldl (st1 false) (x :: l) = x :: ks.foldl (st1 false) l
  | [], _ => rfl
  | k :: ks, l => by
    have e : st1 false (x :: l) (k + 1) = x :: st1 false l k := by
      simp only [st1, Bool.false_eq_true, if_false]
      by_cases q : k + 1 < l.length ∧ l.getD (k + 1) 0 = 46
      · rw [if_pos ⟨by simpa using q.1, by simpa using q.2⟩, if_pos q]
        simp
      · rw [if_neg (fun z => q ⟨by simpa using z.1, by simpa using z.2⟩), if_neg q]
    rw [List.map_cons, List.foldl_cons, e, shiftR x ks _]
    rfl
theorem foldL : ∀ (r : List Nat) (x : Nat), ((List.range r.length).map (· + 1)).foldl (st1 true) (x :: r) = fL x r
  | [], _ => rfl
  | y :: r, x => by
    have er : (List.range (y :: r).length).map (· + 1) = 1 :: (((List.range r.length).map (· + 1)).map (· + 1)) := by
      rw [List.length_cons, List.range_succ_eq_map]
      simp
    rw [er, List.foldl_cons]
    by_cases hx : x = 46
    · subst hx
      have e : st1 true (46 :: y :: r) 1 = y :: 46 :: r := by simp [st1]
      rw [e, shiftL _ _ _ (fun k hk => by obtain ⟨j, _, rfl⟩ := List.mem_map.mp hk; omega), foldL r 46, fL, if_pos rfl]
    · have e : st1 true (x :: y :: r) 1 = x :: y :: r := by simp [st1, hx]
      rw [e, shiftL _ _ _ (fun k hk => by obtain ⟨j, _, rfl⟩ := List.mem_map.mp hk; omega), foldL r y, fL, if_neg hx]
theorem pass_L (l : List Nat) : pass true l = pL l := by
  cases l with
  | nil => rfl
  | cons x r =>
    have er : List.range (x :: r).length = 0 :: (List.range r.length).map (· + 1) := by rw [List.length_cons, List.range_succ_eq_map]
    have e : st1 true (x :: r) 0 = x :: r := by simp [st1]
    unfold pass
    rw [er, List.foldl_cons, e, foldL r x]
    rfl
theorem foldR : ∀ (r : List Nat) (x : Nat), (List.range (r.length + 1)).foldl (st1 false) (x :: r) = fR x r
  | [], x => by simp [st1, fR]
  | y :: r, x => by
    rw [List.length_cons, List.range_succ_eq_map, List.foldl_cons]
    by_cases hy : y = 46
    · subst hy
      have e : st1 false (x :: 46 :: r) 0 = 46 :: x :: r := by simp [st1]
      rw [e, shiftR, foldR r x, fR, if_pos rfl]
    · have e : st1 false (x :: y :: r) 0 = x :: y :: r := by simp [st1, hy]
      rw [e, shiftR, foldR r y, fR, if_neg hy]
theorem pass_R (l : List Nat) : pass false l = pR l := by
  cases l with
  | nil => rfl
  | cons x r => exact foldR r x
theorem it_sl (s : Bool) (l : List Nat) (k : Nat) (h : l.length ≤ k) : it (pass s) k l = sl s l := by
  cases s with
  | true => rw [show pass true = pL from funext pass_L]; exact itL_sl l k h
  | false => rw [show pass false = pR from funext pass_R]; exact itR_sl k l h
theorem pass_len (s : Bool) (l : List Nat) : (pass s l).length = l.length := by
  unfold pass
  generalize List.range l.length = ks
  induction ks generalizing l with
  | nil => rfl
  | cons k ks ih => rw [List.foldl_cons, ih, st1_len]
end TM
end
section
set_option maxHeartbeats 4000000
set_option linter.all false
namespace TM
def cell (G : Grid) (i j : Nat) : Nat := (G.getD i []).getD j 0
def putc (G : Grid) (i j v : Nat) : Grid := G.set i ((G.getD i []).set j v)
/-- one cell's turn: the marble at (r, c) goes one place on, if that is free -/
def stepG (dr dc : Int) (h w : Nat) (G : Grid) (r c : Nat) : Grid :=
  if 0 ≤ (r : Int) + dr ∧ (r : Int) + dr < h ∧ 0 ≤ (c : Int) + dc ∧ (c : Int) + dc < w ∧ cell G ((r : Int) + dr).toNat ((c : Int) + dc).toNat = 46 then
    putc (putc G ((r : Int) + dr).toNat ((c : Int) + dc).toNat (cell G r c)) r c 46 else G
def rowG (dr dc : Int) (h w : Nat) (G : Grid) (r : Nat) : Grid := (List.range w).foldl (fun G c => stepG dr dc h w G r c) G
def passG (dr dc : Int) (h w : Nat) (G : Grid) : Grid := (List.range h).foldl (rowG dr dc h w) G
def itG (dr dc : Int) (h w : Nat) : Nat → Grid → Grid
  | 0, G => G
  | k + 1, G => passG dr dc h w (itG dr dc h w k G)
theorem getD_at {G : Grid} {i : Nat} (h : i < G.length) : G[i]? = some (G.getD i []) := by
  rw [List.getD_eq_getElem?_getD, List.getElem?_eq_getElem h]
  rfl
theorem getD_len {h w i : Nat} {G : Grid} (R : Rect h w G) (hi : i < h) : (G.getD i []).length = w := R.2 _ (List.mem_of_getElem? (getD_at (by rw [R.1]; exact hi)))
theorem put_rect {h w i j v : Nat} {G : Grid} (R : Rect h w G) : Rect h w (putc G i j v) := by
  by_cases q : i < G.length
  · refine ⟨by unfold putc; rw [List.length_set]; exact R.1, fun r hr => ?_⟩
    unfold putc at hr
    rcases List.mem_or_eq_of_mem_set hr with h1 | h1
    · exact R.2 r h1
    · subst h1
      rw [List.length_set]
      exact R.2 _ (List.mem_of_getElem? (getD_at q))
  · have : putc G i j v = G := by unfold putc; exact List.set_eq_of_length_le (by omega)
    rw [this]
    exact R
theorem step_rect {dr dc : Int} {h w r c : Nat} {G : Grid} (R : Rect h w G) : Rect h w (stepG dr dc h w G r c) := by
  unfold stepG
  split
  · exact put_rect (put_rect R)
  · exact R
theorem fold_rect {h w : Nat} {f : Grid → Nat → Grid} (hf : ∀ G k, Rect h w G → Rect h w (f G k)) : ∀ (ks : List Nat) (G : Grid), Rect h w G → Rect h w (ks.foldl f G)
  | [], _, R => R
  | k :: ks, G, R => fold_rect hf ks _ (hf G k R)
theorem rowG_rect {dr dc : Int} {h w r : Nat} {G : Grid} (R : Rect h w G) : Rect h w (rowG dr dc h w G r) := fold_rect (fun _ _ => step_rect) _ _ R
theorem passG_rect {dr dc : Int} {h w : Nat} {G : Grid} (R : Rect h w G) : Rect h w (passG dr dc h w G) := fold_rect (fun _ _ => rowG_rect) _ _ R
theorem itG_rect {dr dc : Int} {h w : Nat} {G : Grid} (R : Rect h w G) : ∀ k, Rect h w (itG dr dc h w k G)
  | 0 => R
  | k + 1 => passG_rect (itG_rect R k)
def dir (s : Bool) : Int := if s then -1 else 1
theorem getD_set_same {α : Type} {l : List α} {i : Nat} {x d : α} (h : i < l.length) : (l.set i x).getD i d = x := by
  rw [List.getD_eq_getElem?_getD, List.getElem?_set_self h]
  rfl
theorem putput {G : Grid} {r j k a b : Nat} (hr : r < G.length) : putc (putc G r j a) r k b = G.set r (((G.getD r []).set j a).set k b) := by
  unfold putc
  rw [getD_set_same hr, List.set_set]
/-- along a row -/
theorem step_h {s : Bool} {h w r c : Nat} {G : Grid} (R : Rect h w G) (hr : r < h) (hc : c < w) : stepG 0 (dir s) h w G r c = G.set r (st1 s (G.getD r []) c) := by
  have hl := getD_len R hr
  have hG : r < G.length := by rw [R.1]; exact hr
  have same : G.set r (G.getD r []) = G := by
    refine List.ext_getElem? fun k => ?_
    rw [List.getElem?_set]
    split
    · rename_i e
      subst e
      simp [hG]
    · rfl
  unfold stepG
  rw [Int.add_zero, Int.toNat_natCast]
  cases s with
  | true =>
    simp only [dir, if_true, st1, cell]
    by_cases q : 1 ≤ c ∧ (G.getD r []).getD (c - 1) 0 = 46
    · have e : ((c : Int) + -1).toNat = c - 1 := by omega
      rw [if_pos ⟨by omega, by omega, by omega, by omega, by rw [e]; exact q.2⟩, if_pos q, e, putput hG]
    · rw [if_neg (fun z => q ⟨by omega, by
        have := z.2.2.2.2
        rw [show ((c : Int) + -1).toNat = c - 1 by omega] at this
        exact this⟩), if_neg q, same]
  | false =>
    simp only [dir, Bool.false_eq_true, if_false, st1, cell]
    have e : ((c : Int) + 1).toNat = c + 1 := by omega
    by_cases q : c + 1 < (G.getD r []).length ∧ (G.getD r []).getD (c + 1) 0 = 46
    · rw [if_pos ⟨by omega, by omega, by omega, by omega, by rw [e]; exact q.2⟩, if_pos q, e, putput hG]
    · rw [if_neg (fun z => q ⟨by omega, by
        have := z.2.2.2.2
        rw [e] at this
        exact this⟩), if_neg q, same]
theorem fold_set {f : List Nat → Nat → List Nat} {r : Nat} : ∀ (ks : List Nat) (G : Grid), r < G.length → ks.foldl (fun G k => G.set r (f (G.getD r []) k)) G = G.set r (ks.foldl f (G.getD r []))
  | [], G, h => by
    refine List.ext_getElem? fun k => ?_
    rw [List.foldl_nil, List.foldl_nil, List.getElem?_set]
    split
    · rename_i e
      subst e
      simp [h]
    · rfl
  | k :: ks, G, h => by
    rw [List.foldl_cons, fold_set ks _ (by rw [List.length_set]; exact h), getD_set_same h, List.set_set, List.foldl_cons]
theorem fold_map {f : List Nat → List Nat} (G : Grid) : ∀ n, n ≤ G.length → (List.range n).foldl (fun G k => G.set k (f (G.getD k []))) G = (G.take n).map f ++ G.drop n
  | 0, _ => by simp
  | n + 1, h => by
    rw [List.range_succ, List.foldl_append, fold_map G n (by omega), List.foldl_cons, List.foldl_nil]
    have hn : n < G.length := by omega
    have hl : ((G.take n).map f).length = n := by simp; omega
    have e1 : ((G.take n).map f ++ G.drop n).getD n [] = G.getD n [] := by
      rw [List.getD_eq_getElem?_getD, List.getElem?_append_right (by omega), hl, Nat.sub_self, List.getElem?_drop, Nat.add_zero, List.getD_eq_getElem?_getD]
    rw [e1, List.set_append_right _ _ (by omega), hl, Nat.sub_self, List.take_add_one, getD_at hn, List.map_append, List.append_assoc]
    congr 1
    rw [List.drop_eq_getElem_cons hn, List.set_cons_zero]
    have : G[n] = G.getD n [] := by simp [hn]
    rfl
theorem fold_map' {f : List Nat → List Nat} {G : Grid} {n : Nat} (h : G.length = n) : (List.range n).foldl (fun G k => G.set k (f (G.getD k []))) G = G.map f := by
  subst h
  rw [fold_map G _ (Nat.le_refl _), List.take_length, List.drop_length, List.append_nil]
theorem foldl_same {f g : Grid → Nat → Grid} {I : Grid → Prop} : ∀ (ks : List Nat) (G : Grid), I G → (∀ G k, k ∈ ks → I G → f G k = g G k ∧ I (g G k)) → ks.foldl f G = ks.foldl g G
  | [], _, _, _ => rfl
  | k :: ks, G, i, h => by
    have := h G k List.mem_cons_self i
    rw [List.foldl_cons, List.foldl_cons, this.1, foldl_same ks _ this.2 fun G k hk => h G k (List.mem_cons_of_mem _ hk)]
theorem set_rect {h w r : Nat} {l : List Nat} {G : Grid} (R : Rect h w G) (hl : l.length = w) : Rect h w (G.set r l) := by
  refine ⟨by rw [List.length_set]; exact R.1, fun x hx => ?_⟩
  rcases List.mem_or_eq_of_mem_set hx with h1 | h1
  · exact R.2 x h1
  · rw [h1]; exact hl
theorem row_h {s : Bool} {h w r : Nat} {G : Grid} (R : Rect h w G) (hr : r < h) : rowG 0 (dir s) h w G r = G.set r (pass s (G.getD r [])) := by
  unfold rowG
  rw [foldl_same (g := fun G k => G.set r (st1 s (G.getD r []) k)) (I := Rect h w) _ _ R fun G k hk i => ⟨step_h i hr (List.mem_range.mp hk), set_rect i (by rw [st1_len]; exact getD_len i hr)⟩]
  rw [fold_set _ _ (by rw [R.1]; exact hr)]
  unfold pass
  rw [getD_len R hr]
theorem pass_h {s : Bool} {h w : Nat} {G : Grid} (R : Rect h w G) : passG 0 (dir s) h w G = G.map (pass s) := by
  unfold passG
  rw [foldl_same (g := fun G k => G.set k (pass s (G.getD k []))) (I := Rect h w) _ _ R fun G k hk i => ⟨row_h i (List.mem_range.mp hk), set_rect i (by rw [pass_len]; exact getD_len i (List.mem_range.mp hk))⟩]
  exact fold_map' R.1
theorem it_h {s : Bool} {h w : Nat} {G : Grid} (R : Rect h w G) : ∀ k, itG 0 (dir s) h w k G = G.map (it (pass s) k)
  | 0 => by simp [itG, it]
  | k + 1 => by
    rw [itG, pass_h (itG_rect R k), it_h R k, List.map_map]
    refine List.map_congr_left fun l _ => ?_
    exact (it_snoc (pass s) k l).symm
theorem all_h {s : Bool} {h w k : Nat} {G : Grid} (R : Rect h w G) (hk : w ≤ k) : itG 0 (dir s) h w k G = LT s G := by
  rw [it_h R]
  exact List.map_congr_left fun l hl => it_sl s l k (by rw [R.2 l hl]; exact hk)
/-- along a column: the grid turned -/
theorem tr_cell {h w i j : Nat} {G : Grid} (R : Rect h w G) (hi : i < h) (hj : j < w) : cell (tr w G) j i = cell G i j := by
  unfold cell
  rw [List.getD_eq_getElem?_getD (l := tr w G), tr_get hj]
  show (G.map fun r => r.getD j 46).getD i 0 = _
  rw [List.getD_eq_getElem?_getD, List.getElem?_map, getD_at (by rw [R.1]; exact hi)]
  show (G.getD i []).getD j 46 = _
  have hl := getD_len R hi
  generalize G.getD i [] = l at hl ⊢
  rw [List.getD_eq_getElem?_getD, List.getD_eq_getElem?_getD, List.getElem?_eq_getElem (show j < l.length by omega)]
  rfl
theorem cell_ext {h w : Nat} {A B : Grid} (RA : Rect h w A) (RB : Rect h w B) (e : ∀ i j, i < h → j < w → cell A i j = cell B i j) : A = B := by
  refine List.ext_getElem? fun i => ?_
  by_cases hi : i < h
  · rw [getD_at (by rw [RA.1]; exact hi), getD_at (by rw [RB.1]; exact hi)]
    refine congrArg some (List.ext_getElem? fun j => ?_)
    have la := getD_len RA hi
    have lb := getD_len RB hi
    by_cases hj : j < w
    · have := e i j hi hj
      unfold cell at this
      rw [List.getD_eq_getElem?_getD, List.getD_eq_getElem?_getD (l := B.getD i []), List.getElem?_eq_getElem (show j < (A.getD i []).length by omega), List.getElem?_eq_getElem (show j < (B.getD i []).length by omega)] at this
      rw [List.getElem?_eq_getElem (show j < (A.getD i []).length by omega), List.getElem?_eq_getElem (show j < (B.getD i []).length by omega)]
      exact congrArg some this
    · rw [List.getElem?_eq_none_iff.mpr (show (A.getD i []).length ≤ j by omega), List.getElem?_eq_none_iff.mpr (show (B.getD i []).length ≤ j by omega)]
  · rw [List.getElem?_eq_none_iff.mpr (by have := RA.1; omega), List.getElem?_eq_none_iff.mpr (by have := RB.1; omega)]
theorem put_cell {h w i j v i' j' : Nat} {G : Grid} (R : Rect h w G) (hi : i < h) (hj : j < w) (hi' : i' < h) (hj' : j' < w) : cell (putc G i j v) i' j' = if i' = i ∧ j' = j then v else cell G i' j' := by
  have hG : i < G.length := by rw [R.1]; exact hi
  have hl := getD_len R hi
  unfold cell putc
  by_cases e : i' = i
  · subst e
    rw [getD_set_same hG]
    by_cases e2 : j' = j
    · subst e2
      rw [if_pos ⟨rfl, rfl⟩, getD_set_same (by omega)]
    · rw [if_neg fun z => e2 z.2, List.getD_eq_getElem?_getD (l := List.set _ _ _), List.getElem?_set_ne (fun z => e2 z.symm), ← List.getD_eq_getElem?_getD]
  · rw [if_neg fun z => e z.1, List.getD_eq_getElem?_getD (l := G.set i _), List.getElem?_set_ne (fun z => e z.symm), ← List.getD_eq_getElem?_getD]
theorem tr_put {h w i j v : Nat} {G : Grid} (R : Rect h w G) (hi : i < h) (hj : j < w) : tr w (putc G i j v) = putc (tr w G) j i v := by
  refine cell_ext (tr_rect (put_rect R)) (put_rect (tr_rect R)) fun a b ha hb => ?_
  rw [tr_cell (put_rect R) hb ha, put_cell R hi hj hb ha, put_cell (tr_rect R) hj hi ha hb, tr_cell R hb ha]
  by_cases q : b = i ∧ a = j
  · rw [if_pos q, if_pos ⟨q.2, q.1⟩]
  · rw [if_neg q, if_neg fun z => q ⟨z.2, z.1⟩]
theorem step_tr {d : Int} {h w r c : Nat} {G : Grid} (R : Rect h w G) (hr : r < h) (hc : c < w) : tr w (stepG d 0 h w G r c) = stepG 0 d w h (tr w G) c r := by
  unfold stepG
  rw [Int.add_zero, Int.toNat_natCast]
  by_cases q : 0 ≤ (r : Int) + d ∧ (r : Int) + d < h
  · have hl : ((r : Int) + d).toNat < h := by omega
    have hc2 : 0 ≤ (c : Int) ∧ (c : Int) < w := by omega
    rw [tr_cell R hl hc, tr_cell R hr hc]
    by_cases q2 : cell G ((r : Int) + d).toNat c = 46
    · rw [if_pos ⟨q.1, q.2, hc2.1, hc2.2, q2⟩, if_pos ⟨hc2.1, hc2.2, q.1, q.2, q2⟩, tr_put (put_rect R) hr hc, tr_put R hl hc]
    · rw [if_neg fun z => q2 z.2.2.2.2, if_neg fun z => q2 z.2.2.2.2]
  · rw [if_neg fun z => q ⟨z.1, z.2.1⟩, if_neg fun z => q ⟨z.2.2.1, z.2.2.2.1⟩]
theorem fold_tr {h w : Nat} {f g : Grid → Nat → Grid} : ∀ (ks : List Nat) (G : Grid), Rect h w G → (∀ G k, k ∈ ks → Rect h w G → tr w (f G k) = g (tr w G) k ∧ Rect h w (f G k)) → tr w (ks.foldl f G) = ks.foldl g (tr w G)
  | [], _, _, _ => rfl
  | k :: ks, G, R, H => by
    have := H G k List.mem_cons_self R
    rw [List.foldl_cons, List.foldl_cons, fold_tr ks _ this.2 (fun G k hk => H G k (List.mem_cons_of_mem _ hk)), this.1]
theorem map_rect {h w : Nat} {f : List Nat → List Nat} {G : Grid} (R : Rect h w G) (hf : ∀ l, (f l).length = l.length) : Rect h w (G.map f) := by
  refine ⟨by rw [List.length_map]; exact R.1, fun r hr => ?_⟩
  obtain ⟨l, hl, rfl⟩ := List.mem_map.mp hr
  rw [hf]
  exact R.2 l hl
theorem row_v {s : Bool} {h w r : Nat} {G : Grid} (R : Rect h w G) (hr : r < h) : tr w (rowG (dir s) 0 h w G r) = (tr w G).map fun l => st1 s l r := by
  unfold rowG
  rw [fold_tr (g := fun T c => stepG 0 (dir s) w h T c r) _ _ R fun G k hk i => ⟨step_tr i hr (List.mem_range.mp hk), step_rect i⟩]
  rw [foldl_same (g := fun T c => T.set c (st1 s (T.getD c []) r)) (I := Rect w h) _ _ (tr_rect R) fun G k hk i => ⟨step_h i (List.mem_range.mp hk) hr, set_rect i (by rw [st1_len]; exact getD_len i (List.mem_range.mp hk))⟩]
  exact fold_map' (f := fun l => st1 s l r) (tr_rect R).1
theorem fold_maps {s : Bool} : ∀ (ks : List Nat) (T : Grid), ks.foldl (fun T k => T.map fun l => st1 s l k) T = T.map fun l => ks.foldl (st1 s) l
  | [], T => by simp
  | k :: ks, T => by
    rw [List.foldl_cons, fold_maps ks, List.map_map]
    rfl
theorem pass_v {s : Bool} {h w : Nat} {G : Grid} (R : Rect h w G) : tr w (passG (dir s) 0 h w G) = (tr w G).map (pass s) := by
  unfold passG
  rw [fold_tr (g := fun T k => T.map fun l => st1 s l k) _ _ R fun G k hk i => ⟨row_v i (List.mem_range.mp hk), rowG_rect i⟩, fold_maps]
  refine List.map_congr_left fun l hl => ?_
  unfold pass
  rw [(tr_rect R).2 l hl]
theorem it_v {s : Bool} {h w : Nat} {G : Grid} (R : Rect h w G) : ∀ k, tr w (itG (dir s) 0 h w k G) = (tr w G).map (it (pass s) k)
  | 0 => by simp [itG, it]
  | k + 1 => by
    rw [itG, pass_v (itG_rect R k), it_v R k, List.map_map]
    refine List.map_congr_left fun l _ => ?_
    exact (it_snoc (pass s) k l).symm
theorem all_v {s : Bool} {h w k : Nat} {G : Grid} (R : Rect h w G) (hk : h ≤ k) : itG (dir s) 0 h w k G = UT s h w G := by
  rw [← tr_tr (itG_rect R k), it_v R]
  unfold UT LT
  congr 1
  exact List.map_congr_left fun l hl => it_sl s l k (by rw [(tr_rect R).2 l hl]; exact hk)
/-- the four tilts -/
def dirs (c : Nat) : Int × Int := if c = 108 then (0, -1) else if c = 114 then (0, 1) else if c = 117 then (-1, 0) else (1, 0)
theorem all_tilt {h w k c : Nat} {G : Grid} (R : Rect h w G) (hk : w ≤ k ∧ h ≤ k) (hc : c = 108 ∨ c = 114 ∨ c = 117 ∨ c = 100) : itG (dirs c).1 (dirs c).2 h w k G = tilt h w G c := by
  rcases hc with rfl | rfl | rfl | rfl
  · exact all_h (s := true) R hk.1
  · exact all_h (s := false) R hk.1
  · exact all_v (s := true) R hk.2
  · exact all_v (s := false) R hk.2
end TM
end
section
set_option maxHeartbeats 4000000
set_option linter.all false
namespace TM
/-- other signs for the marbles -/
structure Sig (f : Nat → Nat) : Prop where
  z : f 46 = 46
  nz : ∀ c, c ≠ 46 → f c ≠ 46
abbrev rel (f : Nat → Nat) (g : Grid) : Grid := g.map (List.map f)
theorem mb_map {f : Nat → Nat} (s : Sig f) : ∀ l : List Nat, mb (l.map f) = (mb l).map f
  | [] => rfl
  | x :: l => by
    by_cases h : x = 46
    · subst h
      have e1 : mb (46 :: l) = mb l := by simp [mb]
      have e2 : mb (f 46 :: l.map f) = mb (l.map f) := by rw [s.z]; simp [mb]
      rw [List.map_cons, e1, e2, mb_map s l]
    · have e1 : mb (x :: l) = x :: mb l := by simp [mb, h]
      have e2 : mb (f x :: l.map f) = f x :: mb (l.map f) := by simp [mb, s.nz x h]
      rw [List.map_cons, e1, e2, mb_map s l, List.map_cons]
theorem sl_map {f : Nat → Nat} (s : Sig f) (b : Bool) (l : List Nat) : sl b (l.map f) = (sl b l).map f := by
  have e := mb_map s l
  have d : ∀ n, dots n = (dots n).map f := fun n => by simp [dots, s.z]
  unfold sl
  rw [e, List.length_map, List.length_map]
  cases b with
  | true => simp only [if_true, List.map_append, ← d]
  | false => simp only [Bool.false_eq_true, if_false, List.map_append, ← d]
theorem lt_rel {f : Nat → Nat} (s : Sig f) (b : Bool) (g : Grid) : LT b (rel f g) = rel f (LT b g) := by
  show (g.map (List.map f)).map (sl b) = (g.map (sl b)).map (List.map f)
  rw [List.map_map, List.map_map]
  exact List.map_congr_left fun l _ => sl_map s b l
theorem tr_rel {f : Nat → Nat} (s : Sig f) (m : Nat) (g : Grid) : tr m (rel f g) = rel f (tr m g) := by
  show (List.range m).map _ = ((List.range m).map _).map (List.map f)
  rw [List.map_map]
  refine List.map_congr_left fun j _ => ?_
  show (g.map (List.map f)).map (fun r => r.getD j 46) = (g.map fun r => r.getD j 46).map f
  rw [List.map_map, List.map_map]
  refine List.map_congr_left fun r _ => ?_
  show (r.map f).getD j 46 = f (r.getD j 46)
  rw [List.getD_eq_getElem?_getD, List.getD_eq_getElem?_getD, List.getElem?_map]
  cases r[j]? with
  | none => exact s.z.symm
  | some x => rfl
theorem tilt_rel {f : Nat → Nat} (s : Sig f) (n m c : Nat) (g : Grid) : tilt n m (rel f g) c = rel f (tilt n m g c) := by
  unfold tilt UT
  split
  · exact lt_rel s _ g
  · rw [tr_rel s, lt_rel s, tr_rel s]
theorem tilts_rel {f : Nat → Nat} (s : Sig f) (n m : Nat) : ∀ (t : List Nat) (g : Grid), tilts n m t (rel f g) = rel f (tilts n m t g)
  | [], _ => rfl
  | c :: t, g => by
    show tilts n m t (tilt n m (rel f g) c) = _
    rw [tilt_rel s, tilts_rel s n m t]
    rfl
theorem snoc_ind {p : List Nat → Prop} (h0 : p []) (hs : ∀ t c, p t → p (t ++ [c])) (t : List Nat) : p t := by
  have : ∀ l : List Nat, p l.reverse := fun l => by
    induction l with
    | nil => exact h0
    | cons c l ih => rw [List.reverse_cons]; exact hs _ c ih
  have h := this t.reverse
  rw [List.reverse_reverse] at h
  exact h
theorem lt_still {a o : Bool} {n m : Nat} {g : Grid} (R : Rect n m g) (h : UT a n m g = g) : UT a n m (LT o g) = LT o g := by
  have := ulu (a := a) (o := o) R
  rw [h] at this
  exact this
theorem ut_still {a o : Bool} {n m : Nat} {g : Grid} (R : Rect n m g) (h : LT a g = g) : LT a (UT o n m g) = UT o n m g := by
  have := lul (a := a) (o := o) R
  rw [h] at this
  exact this
/-- the last tilt along rows, along columns: to the beginning -/
def lastH (t : List Nat) : Option Bool := ((t.filter isH).getLast?).map (· == 108)
def lastV (t : List Nat) : Option Bool := ((t.filter fun c => !isH c).getLast?).map (· == 117)
theorem lastH_snoc (t : List Nat) (c : Nat) : lastH (t ++ [c]) = if isH c then some (c == 108) else lastH t := by
  unfold lastH
  rw [List.filter_append]
  by_cases h : isH c = true
  · rw [if_pos h]; simp [h]
  · rw [if_neg h]; simp [h]
theorem lastV_snoc (t : List Nat) (c : Nat) : lastV (t ++ [c]) = if isH c then lastV t else some (c == 117) := by
  unfold lastV
  rw [List.filter_append]
  by_cases h : isH c = true
  · rw [if_pos h]; simp [h]
  · rw [if_neg h]; simp [h]
theorem tilt_H {n m c : Nat} {g : Grid} (h : isH c = true) : tilt n m g c = LT (c == 108) g := if_pos h
theorem tilt_V {n m c : Nat} {g : Grid} (h : ¬ isH c = true) : tilt n m g c = UT (c == 117) n m g := if_neg h
theorem still {n m : Nat} {g : Grid} (R : Rect n m g) (t : List Nat) : (∀ b, lastH t = some b → LT b (tilts n m t g) = tilts n m t g) ∧ ∀ b, lastV t = some b → UT b n m (tilts n m t g) = tilts n m t g := by
  refine snoc_ind (p := fun t => (∀ b, lastH t = some b → LT b (tilts n m t g) = tilts n m t g) ∧ ∀ b, lastV t = some b → UT b n m (tilts n m t g) = tilts n m t g) ⟨fun b h => by simp [lastH] at h, fun b h => by simp [lastV] at h⟩ (fun t c ih => ?_) t
  · have R2 := tilts_rect t R
    rw [tilts_snoc, lastH_snoc, lastV_snoc]
    by_cases h : isH c = true
    · rw [if_pos h, if_pos h, tilt_H h]
      refine ⟨fun b e => ?_, fun b e => lt_still R2 (ih.2 b e)⟩
      cases e
      exact lt_lt _ _ _
    · rw [if_neg h, if_neg h, tilt_V h]
      refine ⟨fun b e => ut_still R2 (ih.1 b e), fun b e => ?_⟩
      cases e
      exact ut_ut R2
def Bin (g : Grid) : Prop := ∀ r ∈ g, ∀ c ∈ r, c = 46 ∨ c = 97
theorem bin_mb {l : List Nat} (h : ∀ c ∈ l, c = 46 ∨ c = 97) : mb l = List.replicate (mb l).length 97 := by
  refine List.eq_replicate_iff.mpr ⟨rfl, fun c hc => ?_⟩
  have := List.mem_filter.mp hc
  rcases h c this.1 with e | e
  · rw [e] at this; simp at this
  · exact e
theorem bin_rev {s : Bool} {l : List Nat} (hb : ∀ c ∈ l, c = 46 ∨ c = 97) (h : sl s l = l) : sl (!s) l = l.reverse := by
  have e := bin_mb hb
  cases s with
  | true =>
    simp only [sl, if_true] at h
    simp only [sl, Bool.not_true, Bool.false_eq_true, if_false]
    conv => rhs; rw [← h]
    rw [List.reverse_append, e]
    simp [dots]
  | false =>
    simp only [sl, Bool.false_eq_true, if_false] at h
    simp only [sl, Bool.not_false, if_true]
    conv => rhs; rw [← h]
    rw [List.reverse_append, e]
    simp [dots]
abbrev MH (g : Grid) : Grid := g.map List.reverse
theorem lt_mirror {s b : Bool} {g : Grid} (hb : Bin g) (h : LT s g = g) : LT b g = if b = s then g else MH g := by
  by_cases q : b = s
  · rw [if_pos q, q, h]
  · rw [if_neg q]
    have e : b = !s := by cases b <;> cases s <;> simp_all
    subst e
    refine List.map_congr_left fun l hl => bin_rev (hb l hl) ?_
    unfold LT at h
    obtain ⟨i, hi, rfl⟩ := List.mem_iff_getElem.mp hl
    have h2 := congrArg (fun g => g[i]?) h
    simp only [List.getElem?_map, List.getElem?_eq_getElem hi] at h2
    exact Option.some.inj h2
theorem rev_cell {h w i j : Nat} {g : Grid} (R : Rect h w g) (hi : i < h) (hj : j < w) : cell (MH g) i j = cell g i (w - 1 - j) := by
  have hg : i < g.length := by rw [R.1]; exact hi
  have hl := getD_len R hi
  unfold cell
  have e : (MH g).getD i [] = (g.getD i []).reverse := by
    rw [List.getD_eq_getElem?_getD, List.getElem?_map, getD_at hg]
    rfl
  rw [e]
  generalize g.getD i [] = l at hl ⊢
  rw [List.getD_eq_getElem?_getD, List.getElem?_reverse (by omega), List.getD_eq_getElem?_getD, hl]
theorem vrev_cell {h w i j : Nat} {g : Grid} (R : Rect h w g) (hi : i < h) (_hj : j < w) : cell g.reverse i j = cell g (h - 1 - i) j := by
  unfold cell
  rw [List.getD_eq_getElem?_getD (l := g.reverse), List.getElem?_reverse (by rw [R.1]; exact hi), R.1, ← List.getD_eq_getElem?_getD]
theorem mh_rect {h w : Nat} {g : Grid} (R : Rect h w g) : Rect h w (MH g) := map_rect R fun l => List.length_reverse
theorem mv_rect {h w : Nat} {g : Grid} (R : Rect h w g) : Rect h w g.reverse := ⟨by rw [List.length_reverse]; exact R.1, fun r hr => R.2 r (List.mem_reverse.mp hr)⟩
theorem tr_mh {h w : Nat} {g : Grid} (R : Rect h w g) : tr w (MH g) = (tr w g).reverse := by
  refine cell_ext (tr_rect (mh_rect R)) (mv_rect (tr_rect R)) fun i j hi hj => ?_
  rw [tr_cell (mh_rect R) hj hi, rev_cell R hj hi, vrev_cell (tr_rect R) hi hj, tr_cell R hj (by omega)]
theorem tr_mv {h w : Nat} {g : Grid} (R : Rect h w g) : tr w g.reverse = MH (tr w g) := by
  refine cell_ext (tr_rect (mv_rect R)) (mh_rect (tr_rect R)) fun i j hi hj => ?_
  rw [tr_cell (mv_rect R) hj hi, vrev_cell R hj hi, rev_cell (tr_rect R) hi hj, tr_cell R (by omega) hi]
theorem lt_mv (s : Bool) (g : Grid) : LT s g.reverse = (LT s g).reverse := List.map_reverse ..
theorem ut_mh {s : Bool} {h w : Nat} {g : Grid} (R : Rect h w g) : UT s h w (MH g) = MH (UT s h w g) := by
  unfold UT
  rw [tr_mh R, lt_mv, tr_mv (lt_rect (tr_rect R))]
theorem bin_tr {h w : Nat} {g : Grid} (R : Rect h w g) (hb : Bin g) : Bin (tr w g) := by
  intro r hr c hc
  obtain ⟨j, hj, rfl⟩ := List.mem_map.mp hr
  obtain ⟨l, hl, rfl⟩ := List.mem_map.mp hc
  have hj := List.mem_range.mp hj
  have ll := R.2 l hl
  rw [List.getD_eq_getElem?_getD, List.getElem?_eq_getElem (by omega)]
  exact hb l hl _ (List.getElem_mem _)
theorem ut_mirror {s b : Bool} {h w : Nat} {g : Grid} (R : Rect h w g) (hb : Bin g) (hs : UT s h w g = g) : UT b h w g = if b = s then g else g.reverse := by
  have hs' : LT s (tr w g) = tr w g := by
    have e := congrArg (tr w) hs
    unfold UT at e
    rw [tr_tr (lt_rect (tr_rect R))] at e
    exact e
  unfold UT
  rw [lt_mirror (bin_tr R hb) hs']
  by_cases q : b = s
  · rw [if_pos q, if_pos q, tr_tr R]
  · rw [if_neg q, if_neg q, tr_mh (tr_rect R), tr_tr R]
/-- where both kinds of tilts leave a heap of two signs, they do not mind each other -/
theorem lt_ut {v h s b : Bool} {n m : Nat} {g : Grid} (R : Rect n m g) (hb : Bin g) (hv : UT v n m g = g) (hh : LT h g = g) : LT s (UT b n m g) = UT b n m (LT s g) := by
  rw [ut_mirror R hb hv, lt_mirror (b := s) hb hh]
  by_cases q : b = v
  · rw [if_pos q, q]
    by_cases q2 : s = h
    · rw [if_pos q2, q2, hh, hv]
    · rw [if_neg q2, ut_mh R, hv, lt_mirror hb hh, if_neg q2]
  · rw [if_neg q, lt_mv, lt_mirror hb hh]
    by_cases q2 : s = h
    · rw [if_pos q2, ut_mirror R hb hv, if_neg q]
    · rw [if_neg q2, ut_mh R, ut_mirror R hb hv, if_neg q]
      exact (List.map_reverse ..).symm
theorem bin_lt {s : Bool} {g : Grid} (hb : Bin g) : Bin (LT s g) := by
  intro r hr c hc
  obtain ⟨l, hl, rfl⟩ := List.mem_map.mp hr
  have : c = 46 ∨ c ∈ l := by
    cases s with
    | true =>
      rcases List.mem_append.mp hc with h | h
      · exact .inr (List.mem_filter.mp h).1
      · exact .inl (List.mem_replicate.mp h).2
    | false =>
      rcases List.mem_append.mp hc with h | h
      · exact .inl (List.mem_replicate.mp h).2
      · exact .inr (List.mem_filter.mp h).1
  rcases this with h | h
  · exact .inl h
  · exact hb l hl c h
theorem bin_tilt {n m c : Nat} {g : Grid} (R : Rect n m g) (hb : Bin g) : Bin (tilt n m g c) := by
  unfold tilt
  split
  · exact bin_lt hb
  · exact bin_tr (lt_rect (tr_rect R)) (bin_lt (bin_tr R hb))
theorem bin_tilts {n m : Nat} : ∀ (t : List Nat) {g : Grid}, Rect n m g → Bin g → Bin (tilts n m t g)
  | [], _, _, hb => hb
  | _ :: t, _, R, hb => bin_tilts t (tilt_rect R) (bin_tilt R hb)
theorem goes {v h : Bool} {n m : Nat} {g : Grid} (R : Rect n m g) (hb : Bin g) (hv : UT v n m g = g) (hh : LT h g = g) (t : List Nat) : tilts n m t g = UT ((lastV t).getD v) n m (LT ((lastH t).getD h) g) := by
  refine snoc_ind (p := fun t => tilts n m t g = UT ((lastV t).getD v) n m (LT ((lastH t).getD h) g)) ?_ (fun t c ih => ?_) t
  · show g = UT v n m (LT h g)
    rw [hh, hv]
  · rw [tilts_snoc, ih, lastH_snoc, lastV_snoc]
    by_cases q : isH c = true
    · rw [if_pos q, if_pos q, tilt_H q]
      show LT (c == 108) _ = UT _ n m (LT (c == 108) g)
      rw [← lt_ut R hb hv hh, lt_lt, lt_ut R hb hv hh]
    · rw [if_neg q, if_neg q, tilt_V q]
      show UT (c == 117) n m _ = UT (c == 117) n m _
      exact ut_ut (lt_rect R)
end TM
end
section
set_option maxHeartbeats 4000000
set_option linter.all false
namespace TM
def occ (c : Nat) : Nat := if c = 46 then 46 else 97
theorem occ_sig : Sig occ := ⟨rfl, fun c h => by unfold occ; rw [if_neg h]; decide⟩
theorem occ_bin (g : Grid) : Bin (rel occ g) := by
  intro r hr c hc
  obtain ⟨l, _, rfl⟩ := List.mem_map.mp hr
  obtain ⟨x, _, rfl⟩ := List.mem_map.mp hc
  unfold occ
  split
  · exact .inl rfl
  · exact .inr rfl
theorem rel_rect {f : Nat → Nat} {n m : Nat} {g : Grid} (R : Rect n m g) : Rect n m (rel f g) := map_rect R fun l => List.length_map ..
theorem lastH_none {t : List Nat} (h : lastH t = none) : ∀ c ∈ t, isH c = false := fun c hc => by
  unfold lastH at h
  rw [Option.map_eq_none_iff, List.getLast?_eq_none_iff, List.filter_eq_nil_iff] at h
  have := h c hc
  simpa using this
theorem lastV_none {t : List Nat} (h : lastV t = none) : ∀ c ∈ t, isH c = true := fun c hc => by
  unfold lastV at h
  rw [Option.map_eq_none_iff, List.getLast?_eq_none_iff, List.filter_eq_nil_iff] at h
  have := h c hc
  simpa using this
theorem all_H {n m : Nat} (g : Grid) (t : List Nat) : (∀ c ∈ t, isH c = true) → tilts n m t g = match lastH t with
    | some b => LT b g
    | none => g := by
  refine snoc_ind (p := fun t => (∀ c ∈ t, isH c = true) → tilts n m t g = match lastH t with
    | some b => LT b g
    | none => g) (fun _ => rfl) (fun t c ih h => ?_) t
  have hc := h c (by simp)
  rw [tilts_snoc, ih fun d hd => h d (List.mem_append_left _ hd), lastH_snoc, if_pos hc, tilt_H hc]
  cases lastH t with
  | none => rfl
  | some b => exact lt_lt _ _ _
theorem all_V {n m : Nat} {g : Grid} (R : Rect n m g) (t : List Nat) : (∀ c ∈ t, isH c = false) → tilts n m t g = match lastV t with
    | some b => UT b n m g
    | none => g := by
  refine snoc_ind (p := fun t => (∀ c ∈ t, isH c = false) → tilts n m t g = match lastV t with
    | some b => UT b n m g
    | none => g) (fun _ => rfl) (fun t c ih h => ?_) t
  have hc : ¬ isH c = true := by rw [h c (by simp)]; exact Bool.false_ne_true
  rw [tilts_snoc, ih fun d hd => h d (List.mem_append_left _ hd), lastV_snoc, if_neg hc, tilt_V hc]
  cases lastV t with
  | none => rfl
  | some b => exact ut_ut R
/-- a second round leaves the shape -/
theorem twice_bin {n m : Nat} {g : Grid} (R : Rect n m g) (hb : Bin g) (t : List Nat) : tilts n m t (tilts n m t g) = tilts n m t g := by
  have S := still R t
  have R2 := tilts_rect t R
  cases eh : lastH t with
  | none =>
    have a := lastH_none eh
    rw [all_V R2 t a, all_V R t a]
    cases lastV t with
    | none => rfl
    | some b => exact ut_ut R
  | some h =>
    cases ev : lastV t with
    | none =>
      have a := lastV_none ev
      rw [all_H _ t a, all_H _ t a, eh]
      exact lt_lt _ _ _
    | some v =>
      have sh := S.1 h eh
      have sv := S.2 v ev
      rw [goes R2 (bin_tilts t R hb) sv sh t, eh, ev]
      show UT v n m (LT h _) = _
      rw [sh, sv]
theorem twice_occ {n m : Nat} {g : Grid} (R : Rect n m g) (t : List Nat) : rel occ (tilts n m t (tilts n m t g)) = rel occ (tilts n m t g) := by
  rw [← tilts_rel occ_sig, ← tilts_rel occ_sig]
  exact twice_bin (rel_rect R) (occ_bin g) t
/-- signs told by places -/
theorem find_sig : ∀ (a b : List Nat), a.map occ = b.map occ → (mb a).Nodup → ∃ f, Sig f ∧ b = a.map f
  | [], [], _, _ => ⟨id, ⟨rfl, fun _ h => h⟩, rfl⟩
  | [], _ :: _, h, _ => by cases h
  | _ :: _, [], h, _ => by cases h
  | x :: a, y :: b, h, nd => by
    rw [List.map_cons, List.map_cons] at h
    injection h with h1 h2
    by_cases hx : x = 46
    · subst hx
      have hy : y = 46 := by
        by_cases q : y = 46
        · exact q
        · unfold occ at h1
          rw [if_pos rfl, if_neg q] at h1
          cases h1
      have e : mb (46 :: a) = mb a := by simp [mb]
      rw [e] at nd
      obtain ⟨f, s, hf⟩ := find_sig a b h2 nd
      exact ⟨f, s, by rw [List.map_cons, s.z, ← hf, hy]⟩
    · have hy : y ≠ 46 := fun q => by
        unfold occ at h1
        rw [if_neg hx, if_pos q] at h1
        cases h1
      have e : mb (x :: a) = x :: mb a := by simp [mb, hx]
      rw [e] at nd
      have nd' := List.nodup_cons.mp nd
      obtain ⟨f, s, hf⟩ := find_sig a b h2 nd'.2
      refine ⟨fun c => if c = x then y else f c, ⟨?_, fun c hc => ?_⟩, ?_⟩
      · show (if 46 = x then y else f 46) = 46
        rw [if_neg (fun z => hx z.symm)]
        exact s.z
      · show (if c = x then y else f c) ≠ 46
        split
        · exact hy
        · exact s.nz c hc
      · rw [List.map_cons]
        show y :: b = (if x = x then y else f x) :: _
        rw [if_pos rfl, hf]
        congr 1
        refine List.map_congr_left fun c hc => ?_
        show f c = if c = x then y else f c
        rw [if_neg]
        intro z
        subst z
        exact nd'.1 (List.mem_filter.mpr ⟨hc, by simp [hx]⟩)
theorem rel_flat {f : Nat → Nat} : ∀ g : Grid, (rel f g).flatten = g.flatten.map f := fun g => (List.map_flatten ..).symm
theorem same_flat {n m : Nat} {a b : Grid} (ha : Rect n m a) (hb : Rect n m b) (e : a.flatten = b.flatten) : a = b := by
  refine List.eq_iff_flatten_eq.mpr ⟨e, ?_⟩
  have h1 : a.map List.length = List.replicate n m := by
    refine List.eq_replicate_iff.mpr ⟨by rw [List.length_map]; exact ha.1, fun x hx => ?_⟩
    obtain ⟨l, hl, rfl⟩ := List.mem_map.mp hx
    exact ha.2 l hl
  have h2 : b.map List.length = List.replicate n m := by
    refine List.eq_replicate_iff.mpr ⟨by rw [List.length_map]; exact hb.1, fun x hx => ?_⟩
    obtain ⟨l, hl, rfl⟩ := List.mem_map.mp hx
    exact hb.2 l hl
  rw [h1, h2]
/-- so many rounds -/
def rounds (n m : Nat) (t : List Nat) : Nat → Grid → Grid
  | 0, g => g
  | k + 1, g => tilts n m t (rounds n m t k g)
/-- the exchange of signs after the first round -/
theorem turn_sig {n m : Nat} {t : List Nat} {g : Grid} (R : Rect n m g) (nd : (mb (tilts n m t g).flatten).Nodup) : ∃ f, Sig f ∧ tilts n m t (tilts n m t g) = rel f (tilts n m t g) := by
  have R2 := tilts_rect t R
  have R3 := tilts_rect t R2
  have e : (tilts n m t g).flatten.map occ = (tilts n m t (tilts n m t g)).flatten.map occ := by
    rw [← rel_flat, ← rel_flat, twice_occ R t]
  obtain ⟨f, s, hf⟩ := find_sig _ _ e nd
  exact ⟨f, s, same_flat R3 (rel_rect R2) (by rw [rel_flat]; exact hf)⟩
theorem rounds_rel {n m : Nat} {t : List Nat} {f : Nat → Nat} {g : Grid} (s : Sig f) (h : tilts n m t (tilts n m t g) = rel f (tilts n m t g)) : ∀ k, rounds n m t (k + 2) g = rel f (rounds n m t (k + 1) g)
  | 0 => h
  | k + 1 => by
    have e := congrArg (tilts n m t) (rounds_rel s h k)
    rw [tilts_rel s] at e
    exact e
end TM
end
section
set_option maxHeartbeats 4000000
set_option linter.all false
namespace TM
/-- what follows c: the sign in B where A has c -/
def nxt (A B : List Nat) (c : Nat) : Nat := B.getD (A.idxOf c) 46
def pw (φ : Nat → Nat) : Nat → Nat → Nat
  | 0, s => s
  | n + 1, s => φ (pw φ n s)
theorem pw_add (φ : Nat → Nat) (m s : Nat) : ∀ n, pw φ (m + n) s = pw φ m (pw φ n s) := fun n => by
  induction m with
  | zero => rw [Nat.zero_add]; rfl
  | succ m ih =>
    rw [Nat.succ_add]
    show φ (pw φ (m + n) s) = φ (pw φ m (pw φ n s))
    rw [ih]
theorem pw_mem {φ : Nat → Nat} {M : List Nat} (h : ∀ c ∈ M, φ c ∈ M) {s : Nat} (hs : s ∈ M) : ∀ n, pw φ n s ∈ M
  | 0 => hs
  | n + 1 => h _ (pw_mem h hs n)
/-- maps M to M, no two to one -/
structure Onto (φ : Nat → Nat) (M : List Nat) : Prop where
  mem : ∀ c ∈ M, φ c ∈ M
  inj : ∀ c ∈ M, ∀ d ∈ M, φ c = φ d → c = d
theorem pw_inj {φ : Nat → Nat} {M : List Nat} (O : Onto φ M) : ∀ (n : Nat) {c d : Nat}, c ∈ M → d ∈ M → pw φ n c = pw φ n d → c = d
  | 0, _, _, _, _, e => e
  | n + 1, c, d, hc, hd, e => pw_inj O n hc hd (O.inj _ (pw_mem O.mem hc n) _ (pw_mem O.mem hd n) e)
theorem few : ∀ (n : Nat) (l : List Nat), l.Nodup → (∀ c ∈ l, 97 ≤ c ∧ c < 97 + n) → l.length ≤ n
  | 0, l, _, h => by
    cases l with
    | nil => exact Nat.le_refl _
    | cons c l =>
      have := h c List.mem_cons_self
      omega
  | n + 1, l, nd, h => by
    by_cases q : (97 + n) ∈ l
    · have e := List.length_erase_of_mem q
      have ih := few n (l.erase (97 + n)) (nd.erase _) fun c hc => by
        have h1 := (List.Nodup.mem_erase_iff nd).mp hc
        have h2 := h c h1.2
        have h3 := h1.1
        omega
      omega
    · have ih := few n l nd fun c hc => by
        have h2 := h c hc
        have : c ≠ 97 + n := fun z => q (by rw [← z]; exact hc)
        omega
      omega
theorem least {p : Nat → Prop} : ∀ n, (∃ k, k ≤ n ∧ p k) → ∃ k, k ≤ n ∧ p k ∧ ∀ j, j < k → ¬ p j
  | 0, ⟨k, hk, h⟩ => by
    obtain rfl : k = 0 := by omega
    exact ⟨0, Nat.le_refl _, h, fun j hj => absurd hj (Nat.not_lt_zero _)⟩
  | n + 1, ⟨k, hk, h⟩ => by
    by_cases q : ∃ k, k ≤ n ∧ p k
    · obtain ⟨k, h1, h2, h3⟩ := least n q
      exact ⟨k, by omega, h2, h3⟩
    · have : k = n + 1 := by
        by_cases z : k ≤ n
        · exact absurd ⟨k, z, h⟩ q
        · omega
      subst this
      exact ⟨n + 1, Nat.le_refl _, h, fun j hj hp => q ⟨j, by omega, hp⟩⟩
/-- a circle's length -/
structure Ring (φ : Nat → Nat) (s L : Nat) : Prop where
  one : 1 ≤ L
  back : pw φ L s = s
  no : ∀ i, 1 ≤ i → i < L → pw φ i s ≠ s
theorem ring_ex {φ : Nat → Nat} {M : List Nat} (O : Onto φ M) (hM : ∀ c ∈ M, 97 ≤ c ∧ c < 123) {s : Nat} (hs : s ∈ M) : ∃ L, L ≤ 26 ∧ Ring φ s L := by
  have two : ∃ i j, i < j ∧ j ≤ 26 ∧ pw φ i s = pw φ j s := by
    refine Classical.byContradiction fun hn => ?_
    have nd : ((List.range 27).map fun i => pw φ i s).Nodup := by
      refine List.pairwise_map.mpr ((List.pairwise_lt_range (n := 27)).imp_of_mem fun {a b} ha hb hab => ?_)
      intro e
      exact hn ⟨a, b, hab, by have := List.mem_range.mp hb; omega, e⟩
    have := few 26 _ nd fun c hc => by
      obtain ⟨i, _, rfl⟩ := List.mem_map.mp hc
      exact hM _ (pw_mem O.mem hs i)
    rw [List.length_map, List.length_range] at this
    omega
  obtain ⟨i, j, hij, hj, e⟩ := two
  have e2 : pw φ (j - i) s = s := by
    have : j = i + (j - i) := by omega
    rw [this, pw_add] at e
    exact (pw_inj O i hs (pw_mem O.mem hs _) e).symm
  obtain ⟨k, h1, ⟨h2, h3⟩, h4⟩ := least (p := fun k => 1 ≤ k ∧ pw φ k s = s) 26 ⟨j - i, by omega, by omega, e2⟩
  exact ⟨k, h1, h2, h3, fun i hi hk e => h4 i hk ⟨hi, e⟩⟩
theorem Ring.uniq {φ : Nat → Nat} {s L L' : Nat} (a : Ring φ s L) (b : Ring φ s L') : L = L' := by
  rcases Nat.lt_trichotomy L L' with h | h | h
  · exact absurd a.back (b.no L a.one h)
  · exact h
  · exact absurd b.back (a.no L' b.one h)
theorem Ring.times {φ : Nat → Nat} {s L : Nat} (a : Ring φ s L) : ∀ k, pw φ (k * L) s = s
  | 0 => by rw [Nat.zero_mul]; rfl
  | k + 1 => by
    rw [Nat.succ_mul, Nat.add_comm, pw_add, a.times k]
    exact a.back
theorem Ring.mod {φ : Nat → Nat} {s L : Nat} (a : Ring φ s L) (n : Nat) : pw φ (n % L) s = pw φ n s := by
  have e : n = n % L + (n / L) * L := by
    have := Nat.mod_add_div n L
    rw [Nat.mul_comm] at this
    omega
  conv => rhs; rw [e, pw_add, a.times]
/-- the next ring place -/
theorem Ring.step {φ : Nat → Nat} {M : List Nat} (O : Onto φ M) {s L i j : Nat} (hs : s ∈ M) (a : Ring φ s L) (hi : i < L) (hj : j < L) (e : pw φ i s = pw φ j s) : i = j := by
  have aux : ∀ {i j : Nat}, i < j → j < L → pw φ i s = pw φ j s → False := fun {i j} hij hj e => by
    have hh : j = i + (j - i) := by omega
    rw [hh, pw_add] at e
    have := (pw_inj O i hs (pw_mem O.mem hs _) e).symm
    exact a.no _ (by omega) (by omega) this
  rcases Nat.lt_trichotomy i j with h | h | h
  · exact (aux h hj e).elim
  · exact h
  · exact (aux h hi e.symm).elim
theorem getD_some {l : List Nat} {i : Nat} (h : i < l.length) : l[i]? = some (l.getD i 46) := by
  rw [List.getD_eq_getElem?_getD, List.getElem?_eq_getElem h]
  rfl
structure Two (f : Nat → Nat) (A B : List Nat) : Prop where
  s : Sig f
  e : B = A.map f
  nd : (mb A).Nodup
  pm : (mb B).Perm (mb A)
theorem mem_mb {l : List Nat} {c : Nat} : c ∈ mb l ↔ c ∈ l ∧ c ≠ 46 := by
  unfold mb
  rw [List.mem_filter]
  simp
theorem one_place : ∀ {l : List Nat} {c i j : Nat}, (mb l).Nodup → c ≠ 46 → l[i]? = some c → l[j]? = some c → i = j
  | [], _, _, _, _, _, h, _ => by simp at h
  | x :: l, c, i, j, nd, hc, hi, hj => by
    have nd' : (mb l).Nodup := by
      by_cases q : x = 46
      · subst q
        exact nd
      · have e : mb (x :: l) = x :: mb l := by simp [mb, q]
        rw [e] at nd
        exact (List.nodup_cons.mp nd).2
    have no : x = c → c ∉ l := fun q hm => by
      subst q
      have e : mb (x :: l) = x :: mb l := by simp [mb, hc]
      rw [e] at nd
      exact (List.nodup_cons.mp nd).1 (mem_mb.mpr ⟨hm, hc⟩)
    match i, j with
    | 0, 0 => rfl
    | 0, j + 1 =>
      have h1 : x = c := by simpa using hi
      have h2 : l[j]? = some c := by simpa using hj
      exact (no h1 (List.mem_of_getElem? h2)).elim
    | i + 1, 0 =>
      have h1 : x = c := by simpa using hj
      have h2 : l[i]? = some c := by simpa using hi
      exact (no h1 (List.mem_of_getElem? h2)).elim
    | i + 1, j + 1 => rw [one_place (i := i) (j := j) nd' hc (by simpa using hi) (by simpa using hj)]
theorem idx_at {l : List Nat} {c : Nat} (h : c ∈ l) : l.idxOf c < l.length ∧ l[l.idxOf c]? = some c := by
  have h1 := List.idxOf_lt_length_of_mem h
  exact ⟨h1, by rw [List.getElem?_eq_getElem h1, List.getElem_idxOf]⟩
theorem idx_uniq {l : List Nat} {c i : Nat} (nd : (mb l).Nodup) (hc : c ≠ 46) (h : l[i]? = some c) : l.idxOf c = i :=
  one_place nd hc (idx_at (List.mem_of_getElem? h)).2 h
section
variable {f : Nat → Nat} {A B : List Nat}
theorem Two.len (T : Two f A B) : B.length = A.length := by rw [T.e, List.length_map]
theorem Two.ndB (T : Two f A B) : (mb B).Nodup := T.pm.nodup_iff.mpr T.nd
theorem Two.mbB (T : Two f A B) : mb B = (mb A).map f := by rw [T.e, mb_map T.s]
theorem Two.onto (T : Two f A B) : Onto f (mb A) := by
  have h := T.mbB
  refine ⟨fun c hc => T.pm.mem_iff.mp (by rw [h]; exact List.mem_map_of_mem hc), fun c hc d hd e => ?_⟩
  obtain ⟨i, hi⟩ := List.mem_iff_getElem?.mp hc
  obtain ⟨j, hj⟩ := List.mem_iff_getElem?.mp hd
  have nd := T.ndB
  rw [h] at nd
  have e1 : ((mb A).map f)[i]? = some (f c) := by rw [List.getElem?_map, hi]; rfl
  have e2 : ((mb A).map f)[j]? = some (f c) := by rw [List.getElem?_map, hj, e]; rfl
  obtain ⟨l1, g1⟩ := List.getElem?_eq_some_iff.mp e1
  obtain ⟨l2, g2⟩ := List.getElem?_eq_some_iff.mp e2
  have pw_ := List.pairwise_iff_getElem.mp nd
  have ij : i = j := by
    rcases Nat.lt_trichotomy i j with q | q | q
    · exact absurd (g1.trans g2.symm) (pw_ i j l1 l2 q)
    · exact q
    · exact absurd (g2.trans g1.symm) (pw_ j i l2 l1 q)
  subst ij
  rw [hi] at hj
  exact Option.some.inj hj
theorem Two.nxt (T : Two f A B) {c : Nat} (hc : c ∈ mb A) : nxt A B c = f c := by
  obtain ⟨h1, h2⟩ := idx_at (mem_mb.mp hc).1
  unfold TM.nxt
  have : B[A.idxOf c]? = some (f c) := by rw [T.e, List.getElem?_map, h2]; rfl
  rw [List.getD_eq_getElem?_getD, this]
  rfl
/-- back: the sign in A where B has c -/
theorem Two.prv (T : Two f A B) {c : Nat} (hc : c ∈ mb A) : TM.nxt B A c ∈ mb A ∧ f (TM.nxt B A c) = c ∧ A[B.idxOf c]? = some (TM.nxt B A c) ∧ A.idxOf (TM.nxt B A c) = B.idxOf c := by
  have hB := T.pm.mem_iff.mpr hc
  obtain ⟨h1, h2⟩ := idx_at (mem_mb.mp hB).1
  have hl : B.idxOf c < A.length := by rw [← T.len]; exact h1
  have e := getD_some hl
  have e2 : A[B.idxOf c]? = some (TM.nxt B A c) := e
  have e3 : f (TM.nxt B A c) = c := by
    have : B[B.idxOf c]? = some (f (TM.nxt B A c)) := by
      conv => lhs; rw [T.e]
      rw [List.getElem?_map, ← T.e, e2]
      rfl
    rw [h2] at this
    exact (Option.some.inj this).symm
  have n46 : TM.nxt B A c ≠ 46 := fun z => by
    rw [z, T.s.z] at e3
    exact (mem_mb.mp hc).2 e3.symm
  exact ⟨mem_mb.mpr ⟨List.mem_of_getElem? e2, n46⟩, e3, e2, idx_uniq T.nd n46 e2⟩
theorem Two.ontoP (T : Two f A B) : Onto (TM.nxt B A) (mb A) :=
  ⟨fun c hc => (T.prv hc).1, fun c hc d hd e => by rw [← (T.prv hc).2.1, ← (T.prv hd).2.1, e]⟩
theorem Two.pw_back (T : Two f A B) {c : Nat} (hc : c ∈ mb A) : ∀ n, pw f n (pw (TM.nxt B A) n c) = c
  | 0 => rfl
  | n + 1 => by
    rw [show n + 1 = n + 1 from rfl, pw_add f n _ 1]
    show pw f n (f (TM.nxt B A (pw (TM.nxt B A) n c))) = c
    rw [(T.prv (pw_mem T.ontoP.mem hc n)).2.1]
    exact T.pw_back hc n
end
theorem rounds_pw {n m : Nat} {t : List Nat} {f : Nat → Nat} {g : Grid} (s : Sig f) (h : tilts n m t (tilts n m t g) = rel f (tilts n m t g)) : ∀ k, rounds n m t (k + 1) g = rel (pw f k) (rounds n m t 1 g)
  | 0 => by
    show _ = (rounds n m t 1 g).map (List.map fun c => c)
    simp
  | k + 1 => by
    rw [rounds_rel s h k, rounds_pw s h k]
    show ((rounds n m t 1 g).map (List.map (pw f k))).map (List.map f) = _
    rw [List.map_map]
    refine List.map_congr_left fun l _ => ?_
    show (l.map (pw f k)).map f = _
    rw [List.map_map]
    rfl
theorem rounds_add (n m : Nat) (t : List Nat) (g : Grid) (a : Nat) : ∀ b, rounds n m t (a + b) g = rounds n m t a (rounds n m t b g) := fun b => by
  induction a with
  | zero => rw [Nat.zero_add]; rfl
  | succ a ih =>
    rw [Nat.succ_add]
    show tilts n m t (rounds n m t (a + b) g) = tilts n m t (rounds n m t a _)
    rw [ih]
/-- the sign at a place of the flat list -/
theorem flat_at {w j : Nat} : ∀ {g : Grid} {h i : Nat}, Rect h w g → i < h → j < w → g.flatten[i * w + j]? = some (cell g i j)
  | [], h, i, R, hi, _ => by
    have := R.1
    simp at this
    omega
  | r :: g, h, i, R, hi, hj => by
    have hr : r.length = w := R.2 r List.mem_cons_self
    have R' : Rect (h - 1) w g := ⟨by have := R.1; simp at this; omega, fun x hx => R.2 x (List.mem_cons_of_mem _ hx)⟩
    rw [List.flatten_cons]
    match i with
    | 0 =>
      rw [Nat.zero_mul, Nat.zero_add, List.getElem?_append_left (by omega)]
      show _ = some (r.getD j 0)
      rw [List.getD_eq_getElem?_getD, List.getElem?_eq_getElem (by omega)]
      rfl
    | i + 1 =>
      rw [List.getElem?_append_right (by rw [hr, Nat.succ_mul]; omega)]
      have : (i + 1) * w + j - r.length = i * w + j := by rw [hr, Nat.succ_mul]; omega
      rw [this, flat_at (i := i) R' (by omega) hj]
      rfl
end TM
end
namespace TB
end TB
namespace TA
end TA
namespace TA
end TA
namespace TA
end TA
namespace TA
end TA
section
set_option Elab.async false
set_option maxRecDepth 100000
set_option linter.all false
namespace TB
open PySem PySem.Spec PyProof.Rows L2 TK
theorem call_list_txt {X : Cx} (hc : X.calm = true) : CallR X (.type "list") (fun xs H Q => ∃ t : List Nat, xs = [.str (S t)] ∧ t.length ≤ 1000 ∧ ∀ l, H l = none → Q (.ref l) (upd H l (.lst (t.map sg)))) := by
  intro pins s σ H xs us Q I r h
  obtain ⟨t, rfl, ht, q⟩ := h
  obtain ⟨u, rfl, rx⟩ := r.one
  obtain ⟨a, rfl⟩ := (show ∃ a, u = Value.str (S t) a from rx)
  refine call_list_str (I.ok.hd hc) (S t) a (fun h' tk acc c' kp e it => ?_) (by rw [S_size]; show _ ≤ 16777216; omega)
  have hsz : acc.toList.length = t.length := by
    have := it.1
    rw [S_size] at this
    simpa using this
  have rv : Vals (t.map sg) acc.toList := TH.sgn_vals _ _ hsz fun k c hk => by
    have hlt : k < acc.size := by
      have := (List.getElem?_eq_some_iff.mp hk).1
      have e2 : acc.toList.length = acc.size := by simp
      omega
    obtain ⟨c2, u2, h1, h2⟩ := it.2 k acc[k] (by simp [hlt])
    rw [S_at, hk] at h1
    cases h1
    exact ⟨u2, by rw [← h2]; simp [hlt]⟩
  exact ⟨.ref s.heap.objs.size, _, I.laid (t' := tk) kp (Nat.le_refl _) (show ObjOk X.prog X.w _ h' _ (.lst (t.map sg)) from ⟨by rw [List.length_map]; show _ ≤ 16777216; omega, acc.toList, c', rv, by simpa using e⟩), rfl, q _ (I.hok.fresh (Nat.le_refl _))⟩
end TB
end
section
set_option Elab.async false
set_option maxRecDepth 100000
set_option linter.all false
namespace TU
open PySem L2 TM TK TB
open PySem.Spec PyProof.Rows TH
abbrev NTl : List Str := ["_law_rows_here", "_law_tilt", "_law_cells", "_law_line", "_law_dr", "_law_dc", "_law_turn", "_law_r", "_law_c", "_law_low", "_law_right"]
theorem scTl : FnScope NTl ["_law_rows_here", "_law_tilt"] (defScope sLawTilted) := ⟨rfl, rfl, rfl, by decide +kernel, rfl, by decide +kernel, by decide +kernel⟩
/-- the cells at D, its rows at ds -/
def CellsAt (H : Hp) (D : Addr) (ds : List Addr) (G : Grid) : Prop := H D = some (.lst (ds.map V.ref)) ∧ ds.length = G.length ∧ ∀ i a, ds[i]? = some a → H a = some (.lst ((G.getD i []).map sg))
theorem CellsAt.row {H : Hp} {D a : Addr} {ds : List Addr} {G : Grid} {i : Nat} (h : CellsAt H D ds G) (e : ds[i]? = some a) : H a = some (.lst ((G.getD i []).map sg)) := h.2.2 i a e
theorem CellsAt.same {H H' : Hp} {D : Addr} {ds : List Addr} {G : Grid} (h : CellsAt H D ds G) (s : Same H H') : CellsAt H' D ds G := ⟨s _ _ h.1, h.2.1, fun i a e => s _ _ (h.2.2 i a e)⟩
theorem CellsAt.put {H : Hp} {D a : Addr} {ds : List Addr} {G : Grid} {i j v : Nat} (h : CellsAt H D ds G) (nd : ds.Nodup) (hD : D ∉ ds) (e : ds[i]? = some a) : CellsAt (upd H a (.lst (((G.getD i []).set j v).map sg))) D ds (putc G i j v) := by
  have ha : a ∈ ds := List.mem_of_getElem? e
  have hi : i < G.length := by rw [← h.2.1]; exact (List.getElem?_eq_some_iff.mp e).1
  refine ⟨by rw [upd_ne (fun z => hD (by rw [z]; exact ha))]; exact h.1, by unfold putc; rw [List.length_set]; exact h.2.1, fun k b hb => ?_⟩
  unfold putc
  by_cases q : k = i
  · subst q
    rw [e] at hb
    cases hb
    rw [upd_same, getD_set_same hi]
  · have hab : b ≠ a := fun z => by
      subst z
      have h1 := (List.getElem?_eq_some_iff.mp e)
      have h2 := (List.getElem?_eq_some_iff.mp hb)
      obtain ⟨l1, e1⟩ := h1
      obtain ⟨l2, e2⟩ := h2
      have pw := List.pairwise_iff_getElem.mp nd
      rcases Nat.lt_or_gt_of_ne q with q | q
      · exact pw k i l2 l1 q (e2.trans e1.symm)
      · exact pw i k l1 l2 q (e1.trans e2.symm)
    rw [upd_ne hab, h.2.2 k b hb, List.getD_eq_getElem?_getD (l := G.set i _), List.getElem?_set_ne (fun z => q z.symm), ← List.getD_eq_getElem?_getD]
abbrev S' (c : Nat) : Str := ⟨#[c]⟩
abbrev dkv (p1 p2 p3 p4 : Addr) : List (Key × V) := [(Sum.inr (S' 108), .ref p1), (Sum.inr (S' 114), .ref p2), (Sum.inr (S' 117), .ref p3), (Sum.inr (S' 100), .ref p4)]
theorem dkv_merge (p1 p2 p3 p4 : Addr) : mergeK [] (dkv p1 p2 p3 p4) = dkv p1 p2 p3 p4 := rfl
section
variable {P : Program} {w : World} {K : PySem.W.Frag} {mg : Str → Option Value} {base : Heap}
structure TxtS (K : PySem.W.Frag) (mg : Str → Option Value) : Prop where
  lst : mg "list" = none
  len : mg "len" = none
  range : mg "range" = none
def spTl (K : PySem.W.Frag) : Sp := fun vs H Q _ => ∃ (a c h w : Nat) (g : Grid), vs = [.ref a, sg c] ∧ SqL K H a (rowV g) ∧ Rect h w g ∧ 1 ≤ h ∧ h ≤ 8 ∧ 1 ≤ w ∧ w ≤ 8 ∧ isT c = true ∧ ∀ H' b, Same H H' → H b = none → H' b = some (.lst (rowV (tilt h w g c))) → Q (.ref b) H'
theorem ok_tl {f : Addr} {fd : FuncData} (F : Fun K "_law_tilted" "_law_tilted" sLawTilted f fd) (T : TxtS K mg) : FnOk P w K mg base CX0 1 f fd ["_law_rows_here", "_law_tilt"] (spTl K) := by
  refine F.ok scTl (fun vs H Q E h => ?_) (fun cdv A outer s H vs Q E hr h => ?_)
  · obtain ⟨a, c, h, w, g, rfl, _⟩ := h
    rfl
  · obtain ⟨a, c, h, w, g, rfl, hS, R, h1, h8, w1, w8, hc, k⟩ := h
    have nd := scTl.nd
    refine ⟨_, C8.pss_cut (ps_setLc (i := 2) (own := [("_law_line", 3)]) (g := gName 3) (tt := tYes) rfl nd rfl rfl (sw_true rfl rfl rfl (by decide +kernel)) (pi_list (pv 0)) (blkOk_by (N := NTl) (sc := defScope sLawTilted) (by decide +kernel)) (fun _ _ _ _ _ => pg_name (i := 3) nd rfl (.inl rfl)) (fun _ _ _ _ _ => pts_nil)
          (fun _ _ _ _ _ => pe_callTy (call_list_txt rfl) (by rfl) T.lst (by decide +kernel) (pa_cons (pv 3) pa_nil)))
      (C8.pss_cut (ps_asg (pe_dget (hu_of hr) (pe_disp (pps_cons pe_str (pe_tup (pa_cons pe_int (pa_cons (pe_op op_sub pe_int pe_int) pa_nil))) (pps_cons pe_str (pe_tup (pa_cons pe_int (pa_cons pe_int pa_nil)))
            (pps_cons pe_str (pe_tup (pa_cons (pe_op op_sub pe_int pe_int) (pa_cons pe_int pa_nil))) (pps_cons pe_str (pe_tup (pa_cons pe_int (pa_cons pe_int pa_nil))) pps_nil)))) (by rfl) (by rfl) (fun z => by cases z) (by decide)) (pv 1) (fun _ _ => rfl))
          (pg_tup (by rfl) (pgs_cons (pg_name (i := 4) nd rfl (.inl rfl)) (pgs_cons (pg_name (i := 5) nd rfl (.inl rfl)) pgs_nil))))
      (C8.pss_cut (ps_for PassesOwn.never rfl (pi_range1 (by rfl) T.range (pa_cons (pe_op op_add (pe_callB call_len_seq (by rfl) T.len PySem.boot_len (pa_cons (pv 0) pa_nil)) (pe_callB call_len_str (by rfl) T.len PySem.boot_len (pa_cons (pe_ix ix_list (pv 0) pe_int (fun _ _ => rfl)) pa_nil))) pa_nil)) (pg_name (i := 6) nd rfl (.inl rfl))
        (pss_one (ps_for PassesOwn.never rfl (pi_range1 (by rfl) T.range (pa_cons (pe_callB call_len_seq (by rfl) T.len PySem.boot_len (pa_cons (pv 0) pa_nil)) pa_nil)) (pg_name (i := 7) nd rfl (.inl rfl))
          (pss_one (ps_for PassesOwn.never rfl (pi_range1 (by rfl) T.range (pa_cons (pe_callB call_len_str (by rfl) T.len PySem.boot_len (pa_cons (pe_ix ix_list (pv 0) pe_int (fun _ _ => rfl)) pa_nil)) pa_nil)) (pg_name (i := 8) nd rfl (.inl rfl))
            (pss_cons (ps_par (i := 9) (j := 10) rfl nd rfl rfl (by decide) rfl rfl (pa_cons (pe_op op_add (pv 7) (pv 4)) (pa_cons (pe_op op_add (pv 8) (pv 5)) pa_nil)) (by rfl))
            (pss_one (ps_if (PW.pt (pw_and (pt_chain op_le op_lt pe_int (pv 9) (pe_callB call_len_seq (by rfl) T.len PySem.boot_len (pa_cons (pv 0) pa_nil)))
                (pw_and (pt_chain op_le op_lt pe_int (pv 10) (pe_callB call_len_str (by rfl) T.len PySem.boot_len (pa_cons (pe_ix ix_list (pv 0) pe_int (fun _ _ => rfl)) pa_nil)))
                (pw_and1 (pt_cmpR op_eq (pe_ix ix_list (pe_ix ix_list (pv 2) (pv 9) (fun _ _ => rfl)) (pv 10) (fun _ _ => rfl)) pe_str (nomark _))))))
              (pss_one (ps_asg (pe_tup (pa_cons (pe_ix ix_list (pe_ix ix_list (pv 2) (pv 7) (fun _ _ => rfl)) (pv 8) (fun _ _ => rfl)) (pa_cons pe_str pa_nil)))
                (pg_tup (by rfl) (pgs_cons (pg_sub (pe_ix ix_list (pv 2) (pv 9) (fun _ _ => rfl)) (pv 10) set_list) (pgs_cons (pg_sub (pe_ix ix_list (pv 2) (pv 7) (fun _ _ => rfl)) (pv 8) set_list) pgs_nil)))))
              pss_nil))))))))
      (pss_one (ps_ret (pe_lc (own := [("_law_line", 3)]) (g := gName 3) (tt := tYes) rfl nd (pi_list (pv 2)) (blkOk_by (N := NTl) (sc := defScope sLawTilted) (by decide +kernel)) (fun _ _ _ _ _ => pg_name (i := 3) nd rfl (.inl rfl)) (fun _ _ _ _ _ => pts_nil)
        (fun _ _ _ _ _ => pe_joinK (K := K) rfl pe_str (pv 3))))))), ?_⟩
    have r0h : ∃ r0, g[0]? = some r0 ∧ r0.length = w := by
      have hg : 0 < g.length := by rw [R.1]; exact h1
      exact ⟨g[0], List.getElem?_eq_getElem hg, R.2 _ (List.getElem_mem hg)⟩
    obtain ⟨r0, e0, hr0⟩ := r0h
    have at0 : atI (rowV g) ((0 : Nat) : Int) = some (V.str (S r0)) := atI_nat (by rw [List.getElem?_map, e0]; all_goals rfl)
    have lg : (rowV g).length = h := by rw [List.length_map]; exact R.1
    have l0 : (S r0).length = w := by rw [S_len]; exact hr0
    have s0 : (S r0).length ≤ sizeLine := by rw [l0]; show _ ≤ 16777216; omega
    refine ⟨fun σ H1 => ∃ D ds v3, σ = [some (.ref a), some (sg c), some (.ref D), v3, none, none, none, none, none, none, none] ∧ CellsAt H1 D ds g ∧ ds.Nodup ∧ D ∉ ds ∧ H D = none ∧ (∀ b ∈ ds, H b = none) ∧ Same H H1, ?_, ?_⟩
    · refine ⟨_, rfl, a, rfl, ⟨_, hS⟩, fun D hD => lc_list (K := K) (a := a) (xs := rowV g) (fun i H1 => ∃ ds, H1 D = some (.lst (ds.map V.ref)) ∧ ds.length = i ∧ (∀ k b, ds[k]? = some b → H1 b = some (.lst ((g.getD k []).map sg))) ∧ ds.Nodup ∧ D ∉ ds ∧ (∀ b ∈ ds, H b = none) ∧ Same H H1)
        ⟨[], upd_same, rfl, fun k b e => by simp at e, List.nodup_nil, by simp, fun b hb => (by cases hb), same_new hD⟩ (fun i H1 _ ⟨_, _, _, _, _, _, _, sm⟩ => sm.seq hS) ?_ ?_⟩
      · rintro i x H1 hi ⟨ds, hL, hl, hrow, ndp, hDn, fr, sm⟩
        obtain ⟨r, hri, rfl⟩ := at_map hi
        have hrl : r.length = w := R.2 r (List.mem_of_getElem? hri)
        refine ⟨rfl, _, rfl, r, rfl, by omega, fun l hln => ?_⟩
        have nD : D ≠ l := ne_of_none hL hln
        have nl : ∀ b ∈ ds, b ≠ l := fun b hb => by
          obtain ⟨k, hk, rfl⟩ := List.mem_iff_getElem.mp hb
          exact ne_of_none (hrow k _ (List.getElem?_eq_getElem hk)) hln
        have hi' : i < g.length := (List.getElem?_eq_some_iff.mp hri).1
        refine ⟨_, by rw [upd_ne nD]; exact hL, ?_, ds ++ [l], ?_, by simp [hl], fun k b e => ?_, ?_, ?_, ?_, same_put (sm.trans (same_new hln)) hD⟩
        · rw [List.length_map]
          have := R.1
          show _ < 16777216
          omega
        · rw [upd_same, List.map_append]
          rfl
        · by_cases q : k < ds.length
          · rw [List.getElem?_append_left q] at e
            have hb := List.mem_of_getElem? e
            rw [upd_ne (fun z => hDn (by rw [← z]; exact hb)), upd_ne (nl b hb)]
            exact hrow k b e
          · rw [List.getElem?_append_right (by omega)] at e
            have hk : k = i := by
              have := (List.getElem?_eq_some_iff.mp e).1
              simp at this
              omega
            subst hk
            rw [hl, Nat.sub_self] at e
            cases e
            rw [upd_ne nD.symm, upd_same, List.getD_eq_getElem?_getD, hri]
            rfl
        · rw [List.nodup_append]
          exact ⟨ndp, by simp, fun x hx y hy => by rw [List.mem_singleton.mp hy]; exact nl x hx⟩
        · intro z
          rcases List.mem_append.mp z with z | z
          · exact hDn z
          · exact nD (List.mem_singleton.mp z)
        · intro b hb
          rcases List.mem_append.mp hb with hb | hb
          · exact fr b hb
          · rw [List.mem_singleton.mp hb]
            cases e : H l with
            | none => rfl
            | some o =>
              rw [sm _ _ e] at hln
              cases hln
      · rintro H1 ⟨ds, hL, hl, hrow, ndp, hDn, fr, sm⟩
        rw [lg] at hl
        exact ⟨D, ds, _, rfl, ⟨hL, by rw [hl, R.1], hrow⟩, ndp, hDn, hD, fr, sm⟩
    rintro σ H1 ⟨D, ds, v3, rfl, C1, ndp, hDn, hD0, fr, sm1⟩
    have hc4 : c = 108 ∨ c = 114 ∨ c = 117 ∨ c = 100 := by
      simp only [isT, decide_eq_true_eq, List.mem_cons, List.not_mem_nil, or_false] at hc
      exact hc
    refine ⟨fun σ H2 => σ = [some (.ref a), some (sg c), some (.ref D), v3, some (.int (dirs c).1), some (.int (dirs c).2), none, none, none, none, none] ∧ CellsAt H2 D ds g ∧ Same H H2, ?_, ?_⟩
    · intro p hp
      refine ⟨_, _, rfl, rfl, (by show 2 ≤ sizeLine; decide), fun p1 q1 => ⟨(by show 2 ≤ sizeLine; decide), fun p2 q2 => ⟨_, _, rfl, rfl, (by show 2 ≤ sizeLine; decide), fun p3 q3 => ⟨(by show 2 ≤ sizeLine; decide), fun p4 q4 => ?_⟩⟩⟩⟩
      have e0p := upd_same (H := H1) (a := p) (o := .dK [])
      have e1p := same_new (o := .tup [V.int 0, V.int (0 - 1)]) q1 _ _ e0p
      have e2p := same_new (o := .tup [V.int 0, V.int 1]) q2 _ _ e1p
      have e3p := same_new (o := .tup [V.int (0 - 1), V.int 0]) q3 _ _ e2p
      have e4p := same_new (o := .tup [V.int 1, V.int 0]) q4 _ _ e3p
      have z1 := same_new (o := .tup [V.int 1, V.int 0]) q4 _ _ (same_new (o := .tup [V.int (0 - 1), V.int 0]) q3 _ _ (same_new (o := .tup [V.int 0, V.int 1]) q2 _ _ (upd_same (H := upd H1 p (.dK [])) (a := p1) (o := .tup [V.int 0, V.int (0 - 1)]))))
      have z2 := same_new (o := .tup [V.int 1, V.int 0]) q4 _ _ (same_new (o := .tup [V.int (0 - 1), V.int 0]) q3 _ _ (upd_same (H := upd (upd H1 p (.dK [])) p1 (.tup [V.int 0, V.int (0 - 1)])) (a := p2) (o := .tup [V.int 0, V.int 1])))
      have z3 := same_new (o := .tup [V.int 1, V.int 0]) q4 _ _ (upd_same (H := upd (upd (upd H1 p (.dK [])) p1 (.tup [V.int 0, V.int (0 - 1)])) p2 (.tup [V.int 0, V.int 1])) (a := p3) (o := .tup [V.int (0 - 1), V.int 0]))
      have z4 := upd_same (H := upd (upd (upd (upd H1 p (.dK [])) p1 (.tup [V.int 0, V.int (0 - 1)])) p2 (.tup [V.int 0, V.int 1])) p3 (.tup [V.int (0 - 1), V.int 0])) (a := p4) (o := .tup [V.int 1, V.int 0])
      have sm4 := ((((same_new (o := .dK []) hp).trans (same_new (o := .tup [V.int 0, V.int (0 - 1)]) q1)).trans (same_new (o := .tup [V.int 0, V.int 1]) q2)).trans (same_new (o := .tup [V.int (0 - 1), V.int 0]) q3)).trans (same_new (o := .tup [V.int 1, V.int 0]) q4)
      have np : ∀ {b : Addr} {x y : V}, (upd (upd (upd (upd (upd H1 p (.dK [])) p1 (.tup [V.int 0, V.int (0 - 1)])) p2 (.tup [V.int 0, V.int 1])) p3 (.tup [V.int (0 - 1), V.int 0])) p4 (.tup [V.int 1, V.int 0])) b = some (.tup [x, y]) → b ≠ p := fun e z => by
        rw [z, e4p] at e
        cases e
      refine ⟨e4p, dkv p1 p2 p3 p4, rfl, by show 4 ≤ 15; decide, _, rfl, p, ?_⟩
      rw [dkv_merge]
      have fin : ∀ {b : Addr} {x y : Int}, (upd (upd (upd (upd (upd H1 p (.dK [])) p1 (.tup [V.int 0, V.int (0 - 1)])) p2 (.tup [V.int 0, V.int 1])) p3 (.tup [V.int (0 - 1), V.int 0])) p4 (.tup [V.int 1, V.int 0])) b = some (.tup [V.int x, V.int y]) → dirs c = (x, y) → valV (dkv p1 p2 p3 p4) (Sum.inr (S' c)) = some (.ref b) →
          ∃ v, V.ref p = V.ref p ∧ DGet (upd (upd (upd (upd (upd (upd H1 p (.dK [])) p1 (.tup [V.int 0, V.int (0 - 1)])) p2 (.tup [V.int 0, V.int 1])) p3 (.tup [V.int (0 - 1), V.int 0])) p4 (.tup [V.int 1, V.int 0])) p (.dK (dkv p1 p2 p3 p4))) p (sg c) (some v) ∧ gTup K 2 (gCons (gName 4) (gCons (gName 5) gNil)) v [some (.ref a), some (sg c), some (.ref D), v3, none, none, none, none, none, none, none] (upd (upd (upd (upd (upd (upd H1 p (.dK [])) p1 (.tup [V.int 0, V.int (0 - 1)])) p2 (.tup [V.int 0, V.int 1])) p3 (.tup [V.int (0 - 1), V.int 0])) p4 (.tup [V.int 1, V.int 0])) p (.dK (dkv p1 p2 p3 p4)))
            fun σ H2 => σ = [some (.ref a), some (sg c), some (.ref D), v3, some (.int (dirs c).1), some (.int (dirs c).2), none, none, none, none, none] ∧ CellsAt H2 D ds g ∧ Same H H2 := fun {b x y} eb ed ev => by
        have g := DGet.k (k := Sum.inr (S' c)) (upd_same (H := upd (upd (upd (upd (upd H1 p (.dK [])) p1 (.tup [V.int 0, V.int (0 - 1)])) p2 (.tup [V.int 0, V.int 1])) p3 (.tup [V.int (0 - 1), V.int 0])) p4 (.tup [V.int 1, V.int 0])) (a := p) (o := .dK (dkv p1 p2 p3 p4)))
        rw [ev] at g
        refine ⟨.ref b, rfl, g, b, _, rfl, SqT.of (by rw [upd_ne (np eb)]; exact eb), rfl, _, _, rfl, _, _, rfl, rfl, ?_⟩
        have sm5 : Same H1 (upd (upd (upd (upd (upd (upd H1 p (.dK [])) p1 (.tup [V.int 0, V.int (0 - 1)])) p2 (.tup [V.int 0, V.int 1])) p3 (.tup [V.int (0 - 1), V.int 0])) p4 (.tup [V.int 1, V.int 0])) p (.dK (dkv p1 p2 p3 p4))) := same_put sm4 hp
        rw [ed]
        exact ⟨rfl, C1.same sm5, sm1.trans sm5⟩
      rcases hc4 with rfl | rfl | rfl | rfl
      · exact fin z1 rfl rfl
      · exact fin z2 rfl rfl
      · exact fin z3 rfl rfl
      · exact fin z4 rfl rfl
    rintro σ H2 ⟨rfl, C2, sm2⟩
    have hd1 : -1 ≤ (dirs c).1 ∧ (dirs c).1 ≤ 1 ∧ -1 ≤ (dirs c).2 ∧ (dirs c).2 ≤ 1 := by
      rcases hc4 with rfl | rfl | rfl | rfl <;> decide
    have key := all_tilt (k := h + w) R ⟨by omega, by omega⟩ hc4
    generalize (dirs c).1 = d1 at hd1 key ⊢
    generalize (dirs c).2 = d2 at hd1 key ⊢
    have cont : ∀ {H' : Hp} {G : Grid} {i : Nat}, CellsAt H' D ds G → Rect h w G → i < h → ∃ b, ds[i]? = some b ∧ H' b = some (.lst ((G.getD i []).map sg)) ∧ atI (ds.map V.ref) (i : Int) = some (.ref b) ∧ b ∈ ds := fun {H' G i} C RG hi => by
      have hi' : i < ds.length := by rw [C.2.1, RG.1]; exact hi
      have e := List.getElem?_eq_getElem hi'
      exact ⟨ds[i], e, C.row e, atI_nat (by rw [List.getElem?_map, e]; all_goals rfl), List.getElem_mem hi'⟩
    have cellat : ∀ {G : Grid} {i j : Nat}, Rect h w G → i < h → j < w → atI ((G.getD i []).map sg) (j : Int) = some (sg (cell G i j)) := fun {G i j} RG hi hj => by
      have hl := getD_len RG hi
      refine atI_nat ?_
      rw [List.getElem?_map]
      unfold cell
      generalize G.getD i [] = l at hl ⊢
      rw [List.getD_eq_getElem?_getD, List.getElem?_eq_getElem (show j < l.length by omega)]
      rfl
    refine ⟨fun σ H3 => ∃ v6 v7 v8 v9 v10, σ = [some (.ref a), some (sg c), some (.ref D), v3, some (.int d1), some (.int d2), v6, v7, v8, v9, v10] ∧ CellsAt H3 D ds (itG d1 d2 h w (h + w) g) ∧ Same H H3, ?_, ?_⟩
    · refine ⟨_, rfl, a, _, rfl, .inl (sm2.seq hS), _, rfl, a, _, _, _, rfl, rfl, sm2.seq hS, at0, _, rfl, s0, _, _, rfl, rfl, ?_⟩
      rw [lg, l0]
      refine ⟨((h + w : Nat) : Int), congrArg (fun z => [V.int z]) (by omega), by omega, by omega, for_range (lo := 0) (n := ((h + w : Nat) : Int).toNat) (fun i σ H3 => ∃ v6 v7 v8 v9 v10, σ = [some (.ref a), some (sg c), some (.ref D), v3, some (.int d1), some (.int d2), v6, v7, v8, v9, v10] ∧ CellsAt H3 D ds (itG d1 d2 h w i g) ∧ Same H H3)
        ⟨none, none, none, none, none, rfl, C2, sm2⟩ ?_ fun σ H3 p => p⟩
      rintro i σ H3 hi ⟨v6, v7, v8, v9, v10, rfl, C3, sm3⟩
      have R3 := itG_rect (dr := d1) (dc := d2) R i
      refine ⟨_, rfl, a, _, rfl, .inl (sm3.seq hS), ?_⟩
      rw [lg]
      refine ⟨(h : Int), rfl, by omega, by omega, for_range (lo := 0) (n := ((h : Nat) : Int).toNat) (fun r σ H4 => ∃ v6 v7 v8 v9 v10, σ = [some (.ref a), some (sg c), some (.ref D), v3, some (.int d1), some (.int d2), v6, v7, v8, v9, v10] ∧ CellsAt H4 D ds ((List.range r).foldl (rowG d1 d2 h w) (itG d1 d2 h w i g)) ∧ Same H H4)
        ⟨_, v7, v8, v9, v10, rfl, C3, sm3⟩ ?_ fun σ H4 p => p⟩
      rintro r σ H4 hr4 ⟨v6, v7, v8, v9, v10, rfl, C4, sm4⟩
      rw [Int.toNat_natCast] at hr4
      have R4 : Rect h w ((List.range r).foldl (rowG d1 d2 h w) (itG d1 d2 h w i g)) := fold_rect (fun _ _ => rowG_rect) _ _ R3
      rw [show (List.range (r + 1)).foldl (rowG d1 d2 h w) (itG d1 d2 h w i g) = rowG d1 d2 h w ((List.range r).foldl (rowG d1 d2 h w) (itG d1 d2 h w i g)) r by rw [List.range_succ, List.foldl_append]; rfl]
      generalize (List.range r).foldl (rowG d1 d2 h w) (itG d1 d2 h w i g) = G4 at C4 R4 ⊢
      rw [Int.zero_add]
      refine ⟨_, rfl, a, _, _, _, rfl, rfl, sm4.seq hS, at0, _, rfl, s0, ?_⟩
      rw [l0]
      refine ⟨(w : Int), rfl, by omega, by omega, for_range (lo := 0) (n := ((w : Nat) : Int).toNat) (fun j σ H5 => ∃ v8 v9 v10, σ = [some (.ref a), some (sg c), some (.ref D), v3, some (.int d1), some (.int d2), v6, some (.int (r : Nat)), v8, v9, v10] ∧ CellsAt H5 D ds ((List.range j).foldl (fun G k => stepG d1 d2 h w G r k) G4) ∧ Same H H5)
        ⟨v8, v9, v10, rfl, C4, sm4⟩ ?_ fun σ H5 ⟨v8, v9, v10, e, p, q⟩ => ⟨_, _, v8, v9, v10, e, by rw [Int.toNat_natCast] at p; exact p, q⟩⟩
      rintro j σ H5 hj ⟨v8, v9, v10, rfl, C5, sm5⟩
      rw [Int.toNat_natCast] at hj
      have R5 : Rect h w ((List.range j).foldl (fun G k => stepG d1 d2 h w G r k) G4) := fold_rect (fun _ _ => step_rect) _ _ R4
      rw [show (List.range (j + 1)).foldl (fun G k => stepG d1 d2 h w G r k) G4 = stepG d1 d2 h w ((List.range j).foldl (fun G k => stepG d1 d2 h w G r k) G4) r j by rw [List.range_succ, List.foldl_append]; rfl]
      generalize (List.range j).foldl (fun G k => stepG d1 d2 h w G r k) G4 = G5 at C5 R5 ⊢
      rw [Int.zero_add]
      refine ⟨_, rfl, _, rfl, _, _, rfl, rfl, _, rfl, _, rfl, _, _, rfl, rfl, _, _, rfl, ?_⟩
      have stay : ¬ (0 ≤ (r : Int) + d1 ∧ (r : Int) + d1 < h ∧ 0 ≤ (j : Int) + d2 ∧ (j : Int) + d2 < w ∧ cell G5 ((r : Int) + d1).toNat ((j : Int) + d2).toNat = 46) → CellsAt H5 D ds (stepG d1 d2 h w G5 r j) := fun q => by
        rw [show stepG d1 d2 h w G5 r j = G5 from if_neg q]
        exact C5
      refine ⟨_, rfl, _, _, rfl, rfl, _, rfl, ?_⟩
      by_cases c1 : (0 : Int) ≤ (r : Int) + d1
      case neg =>
        rw [decide_eq_false c1]
        exact iteF ⟨_, rfl, iteF (iteF ⟨_, _, _, rfl, stay fun z => c1 z.1, sm5⟩)⟩
      rw [decide_eq_true c1]
      refine iteT ⟨_, rfl, a, _, rfl, .inl (sm5.seq hS), _, _, rfl, rfl, _, rfl, ?_⟩
      rw [lg]
      by_cases c2 : (r : Int) + d1 < ((h : Nat) : Int)
      case neg =>
        rw [decide_eq_false c2]
        exact iteF (iteF ⟨_, _, _, rfl, stay fun z => c2 z.2.1, sm5⟩)
      rw [decide_eq_true c2]
      refine iteT ⟨_, rfl, _, _, rfl, rfl, _, rfl, ?_⟩
      by_cases c3 : (0 : Int) ≤ (j : Int) + d2
      case neg =>
        rw [decide_eq_false c3]
        exact iteF ⟨_, rfl, iteF (iteF ⟨_, _, _, rfl, stay fun z => c3 z.2.2.1, sm5⟩)⟩
      rw [decide_eq_true c3]
      refine iteT ⟨_, rfl, a, _, _, _, rfl, rfl, sm5.seq hS, at0, _, rfl, s0, _, _, rfl, rfl, _, rfl, ?_⟩
      rw [l0]
      by_cases c4 : (j : Int) + d2 < ((w : Nat) : Int)
      case neg =>
        rw [decide_eq_false c4]
        exact iteF (iteF ⟨_, _, _, rfl, stay fun z => c4 z.2.2.2.1, sm5⟩)
      rw [decide_eq_true c4]
      obtain ⟨lo, hlo⟩ : ∃ lo : Nat, (r : Int) + d1 = lo := ⟨((r : Int) + d1).toNat, by omega⟩
      obtain ⟨ri, hri⟩ : ∃ ri : Nat, (j : Int) + d2 = ri := ⟨((j : Int) + d2).toNat, by omega⟩
      unfold stepG at stay ⊢
      rw [hlo, hri, Int.toNat_natCast, Int.toNat_natCast] at stay ⊢
      have lo1 : lo < h := by omega
      have ri1 : ri < w := by omega
      obtain ⟨bl, ebl, hbl, abl, mbl⟩ := cont C5 R5 lo1
      obtain ⟨br, ebr, hbr, abr, mbr⟩ := cont C5 R5 hr4
      refine iteT ⟨_, rfl, _, rfl, D, _, _, _, rfl, rfl, SqL.of C5.1, (by rw [hlo]; exact abl), _, rfl, bl, _, _, _, rfl, rfl, SqL.of hbl, (by rw [hri]; exact cellat R5 lo1 ri1), rfl, _, rfl, ?_⟩
      rw [show decide (sg (cell G5 lo ri) = V.str (Str.ofString ".")) = (cell G5 lo ri == 46) from dL _ 46]
      by_cases c5 : cell G5 lo ri = 46
      case neg =>
        rw [beq_eq_false_iff_ne.mpr c5]
        exact iteF ⟨_, _, _, rfl, stay fun z => c5 z.2.2.2.2, sm5⟩
      rw [beq_iff_eq.mpr c5, if_pos ⟨by omega, by omega, by omega, by omega, c5⟩]
      refine iteT ⟨_, rfl, _, rfl, D, _, _, _, rfl, rfl, SqL.of C5.1, abr, _, rfl, br, _, _, _, rfl, rfl, SqL.of hbr, cellat R5 hr4 hj, (by show 2 ≤ sizeLine; decide), fun p hp => ?_⟩
      have C6 := C5.same (same_new (o := .tup [sg (cell G5 r j), V.str (Str.ofString ".")]) hp)
      have sm6 := sm5.trans (same_new (o := .tup [sg (cell G5 r j), V.str (Str.ofString ".")]) hp)
      have C7 := C6.put (v := cell G5 r j) (j := ri) ndp hDn ebl
      have R7 := put_rect (i := lo) (j := ri) (v := cell G5 r j) R5
      have C8' := C7.put (v := 46) (j := j) ndp hDn ebr
      have ll := getD_len R5 lo1
      have lr := getD_len R7 hr4
      refine ⟨p, _, rfl, SqT.of upd_same, rfl, _, _, rfl, _, rfl, _, rfl, D, _, _, _, rfl, rfl, SqL.of C6.1, (by rw [hlo]; exact abl), _, rfl, bl, _, _, ri, rfl, rfl, C6.row ebl, ?_, ?_⟩
      · rw [hri, List.length_map, ll]
        unfold ixN
        rw [if_pos (by omega), if_pos (by omega), Int.toNat_natCast]
      rw [← List.map_set]
      obtain ⟨br2, ebr2, hbr2, abr2, mbr2⟩ := cont C7 R7 hr4
      rw [ebr] at ebr2
      cases ebr2
      refine ⟨_, _, rfl, _, rfl, _, rfl, D, _, _, _, rfl, rfl, SqL.of C7.1, abr, _, rfl, br, _, _, j, rfl, rfl, hbr2, ?_, ?_⟩
      · rw [List.length_map, lr]
        unfold ixN
        rw [if_pos (by omega), if_pos (by omega), Int.toNat_natCast]
      refine ⟨rfl, _, _, _, rfl, ?_, same_put (same_put sm6 (fr bl mbl)) (fr br mbr)⟩
      rw [show (List.map sg (List.getD (putc G5 lo ri (cell G5 r j)) r [])).set j (V.str (Str.ofString ".")) = List.map sg ((List.getD (putc G5 lo ri (cell G5 r j)) r []).set j 46) from List.map_set.symm]
      exact C8'
    rw [key]
    rintro σ H3 ⟨v6, v7, v8, v9, v10, rfl, C3, sm3⟩
    have Rt := tilt_rect (c := c) R
    refine ⟨_, rfl, D, rfl, ⟨_, SqL.of C3.1⟩, fun E2 hE2 => lc_list (K := K) (a := D) (xs := ds.map V.ref) (fun i H4 => Same H3 H4 ∧ H4 E2 = some (.lst (((tilt h w g c).take i).map fun r => V.str (S r))))
      ⟨same_new hE2, upd_same⟩ (fun i H4 _ ⟨sm, _⟩ => SqL.of (sm _ _ C3.1)) ?_ ?_⟩
    · rintro i x H4 hi ⟨sm, hL⟩
      obtain ⟨b, hb, rfl⟩ := at_map hi
      have hi' : i < (tilt h w g c).length := by rw [← C3.2.1]; exact (List.getElem?_eq_some_iff.mp hb).1
      have hrow := getD_at hi'
      have hlr : ((tilt h w g c).getD i []).length = w := getD_len Rt (by rw [← Rt.1]; exact hi')
      generalize hq : (tilt h w g c).getD i [] = r at hrow hlr
      have hbr := sm _ _ (C3.row hb)
      rw [hq] at hbr
      refine ⟨rfl, ⟨_, rfl⟩, _, rfl, _, b, r.map fun c => S [c], rfl, rfl, .inl ?_, ?_, _, hL, ?_, ?_⟩
      · rw [List.map_map]
        exact SqL.of hbr
      · rw [sum_ones, List.length_map]
        show _ + _ * 0 ≤ _
        omega
      · rw [List.length_map, List.length_take]
        have := Rt.1
        show _ < 16777216
        omega
      · refine ⟨same_put sm hE2, ?_⟩
        rw [upd_same, take_map_snoc hrow, join_signs]
    · rintro H4 ⟨sm, hL⟩
      rw [List.length_map, C3.2.1, List.take_length] at hL
      refine k _ E2 (sm3.trans sm) ?_ hL
      cases e : H E2 with
      | none => rfl
      | some o =>
        rw [sm3 _ _ e] at hE2
        cases hE2
end
end TU
end
section
set_option Elab.async false
set_option maxRecDepth 100000
set_option linter.all false
namespace TU
open PySem L2 TM TK TB
open PySem.Spec PyProof.Rows TH
section
variable {X : Cx} {n : Nat}
theorem pen_callB {id : String} {r : List V → Hp → VK → Prop} {x : Str} {e : Expr} {es : List Expr} {t : TA} {p pos : Pos} (hc : CallR X (.builtin id) r) (hg : Gl X x) (hm : X.mg x = none) (hv : bootBuiltins x = some (.builtin id)) (ha : PAn n X (e :: es) t) (hne : x ≠ "__name__" := by decide) (hdb : (x == ("__debug__" : Str)) = false := by decide)
    (he : starEach (e :: es) X.env = (false, eval e X.env) :: starEach es X.env := by rfl) (hpl : (backTo pos (starEach es X.env)).any (·.1) = false := by rfl) : PEn n X (.Call (.Name x p) (e :: es) [] pos) (tCB r t) := by
  intro pins s σ H Q hn I h
  refine wpAny_Call_Name_kw (ld_blt I hg hm hv ?_ hne hdb)
  exact PyProof.Rows.callWith_builtin1 (thn (ha pos pins s σ H _ hn I h) fun us s1 ⟨vs, H1, I1, r1, q1⟩ => hc pins s1 σ H1 vs us Q I1 r1 q1) he hpl
theorem pen_lst {es : List Expr} {t : TA} {pos : Pos} (h : PAn n X es t) : PEn n X (.List es pos) (tLst t) := by
  intro pins s σ H Q hn I hq
  refine wpAny_List_spliced (thn (h pos pins s σ H _ hn I hq) fun us s1 ⟨xs, H1, I1, r, z, q⟩ => ⟨by rw [← r.length]; exact z, ?_⟩)
  have hf : H1 s1.heap.objs.size = none := I1.hok.fresh (Nat.le_refl _)
  refine ⟨.ref s1.heap.objs.size, upd H1 s1.heap.objs.size (.lst xs), I1.laid (t' := s1.toks) (fun b u e => Heap.get?_push_of_some _ e) (Nat.le_refl _) ?_, rfl, q _ hf⟩
  exact ⟨z, us, 0, r, Heap.get?_push_size _ rfl⟩
end
theorem fnR_n {P : Program} {w : World} {K : PySem.W.Frag} {mg : Str → Option Value} {base : Heap} {CX : CXT} {n k : Nat} {f : Addr} {sp : Sp} (F : FnR P w K mg base CX k f sp) : FnRn n P w K mg base CX k f sp := fun A outer s H us vs Q E _ hr e0 r hs => F A outer s H us vs Q E hr e0 r hs
theorem fnOk_n {P : Program} {w : World} {K : PySem.W.Frag} {mg : Str → Option Value} {base : Heap} {CX : CXT} {n k : Nat} {f : Addr} {fd : FuncData} {ps : List Str} {sp : Sp} (F : FnOk P w K mg base CX k f fd ps sp) (b : Binds K fd ps []) : FnRn n P w K mg base CX k f sp := fnR_n ((F.raw b .nil).imp fun vs H Q E h => by rw [List.append_nil]; exact h)
section
variable {P : Program} {w : World} {K : PySem.W.Frag} {mg : Str → Option Value} {base : Heap} {fT : Addr} {fdT : FuncData}
abbrev NAf : List Str := ["_law_rows_here", "_law_text_here", "_law_tilt"]
theorem scAf : FnScope NAf ["_law_rows_here", "_law_text_here"] (defScope sLawAfter) := ⟨rfl, rfl, rfl, by decide +kernel, rfl, by decide +kernel, by decide +kernel⟩
end
end TU
end
section
set_option Elab.async false
set_option maxRecDepth 100000
set_option linter.all false
namespace TW
open PySem L2 TM TK TB TU
open PySem.Spec PyProof.Rows TH
section
variable {X : Cx} {n : Nat}
end
theorem eqv_rows : ∀ g g' : Grid, PyData.eqvAll (rowD g) (rowD g') = decide (g = g')
  | [], [] => rfl
  | [], _ :: _ => by simp [PyData.eqvAll]
  | _ :: _, [] => by simp [PyData.eqvAll]
  | x :: g, y :: g' => by
    have e : PyData.eqv (.str (S x)) (.str (S y)) = decide (x = y) := by
      show (S x == S y) = _
      rw [Bool.eq_iff_iff]
      simp [beq_iff_eq]
    show PyData.eqvAll (PyData.str (S x) :: rowD g) (PyData.str (S y) :: rowD g') = _
    rw [PyData.eqvAll, e, eqv_rows g g']
    rw [Bool.eq_iff_iff]
    simp
theorem eqv_tup (g g' : Grid) : PyData.eqv (.tuple (rowD g)) (.tuple (rowD g')) = decide (g = g') := eqv_rows g g'
section
variable {P : Program} {w : World} {K : PySem.W.Frag} {mg : Str → Option Value} {base : Heap} {C D : Addr}
theorem scTe : FnScope ["self", "other"] ["self", "other"] (defScope sTrayEq) := ⟨rfl, rfl, rfl, by decide +kernel, rfl, by decide +kernel, by decide +kernel⟩
def spTe (K : PySem.W.Frag) (D : Addr) : Sp := fun vs H Q _ => ∃ (p q : Addr) (h w h' w' : Nat) (g g' : Grid), vs = [.ref p, .ref q] ∧ TrayAt K D H p g ∧ TrayAt K D H q g' ∧ VG h w g ∧ VG h' w' g' ∧ Q (.bl (decide (g = g'))) H
theorem ok_te {f : Addr} {fd : FuncData} (F : Fun K "__eq__" "Tray.__eq__" sTrayEq f fd) (T : TxtW K mg) (CT : ClsT K mg D) (IC : C8.InsC K D) : FnOk P w K mg base CX0 1 f fd ["self", "other"] (spTe K D) := by
  refine F.ok scTe (fun vs H Q E h => ?_) (fun cdv A outer s H vs Q E hr h => ?_)
  · obtain ⟨p, q, h, w, h', w', g, g', rfl, _⟩ := h
    rfl
  · obtain ⟨p, q, h, w, h', w', g, g', rfl, ⟨dp, ap, hp, hSp⟩, ⟨dq, aq, hq, hSq⟩, V1, V2, k⟩ := h
    refine ⟨_, pss_one (ps_ret (pe_and (pe_callB (C8.call_isC IC) (by rfl) T.isi (by decide +kernel) (pa_cons (pv 1) (pa_cons (pe_glob (v := .ref D) rfl CT.mgC rfl) pa_nil)))
      (pe_one (pe_cmpR (op_eqD hr.units) (pe_fld (pv 0) rfl) (pe_fld (pv 1) rfl) (nomark _))))), ?_⟩
    refine ⟨_, rfl, q, dq, _, rfl, hq, true, rfl, iteT ?_⟩
    refine ⟨_, rfl, p, D, dp, _, _, rfl, hp, CT.cl, CT.nR, rfl, ?_⟩
    refine ⟨_, rfl, q, D, dq, _, _, rfl, hq, CT.cl, CT.nR, rfl, ?_⟩
    refine ⟨_, _, .tup hSp (row_all _), .tup hSq (row_all _), row_shaped V1, row_shaped V2, ?_⟩
    rw [eqv_tup]
    exact k
end
end TW
end
namespace TW
end TW
section
set_option Elab.async false
set_option maxRecDepth 100000
set_option linter.all false
namespace TR
open PySem PySem.Spec PyProof.Rows L2 TM TK TB TP TH
theorem pssn_cut {X : Cx} {n : Nat} {st : Stmt} {rest : List Stmt} {t u : TS} (h1 : PSn n X st t) (h2 : PSsn n X rest u) : PSsn n X (st :: rest) (C8.tCut t u) := by
  intro pins s σ H D hn I h
  obtain ⟨Mid, hm, hu⟩ := h
  refine wpAny_execs_cons (thnN hn (h1 pins s σ H { D with nx := Mid } hn I hm) fun f s1 hn1 q => ?_)
  cases f with
  | next =>
    obtain ⟨σ', H', I', q⟩ := q
    exact h2 pins s1 σ' H' D hn1 I' (hu σ' H' q)
  | ret v => exact q
  | brk => exact q
  | cont => exact q
def tCallO (C : Addr) (sp : Sp) (E : XK) (tf : TE) (t : TA) : TE := fun σ H Q => tf σ H fun y H1 => ∃ a, y = V.ref a ∧ t σ H1 fun vs H2 => (∃ dx fs, H2 a = some (HO.ins C dx fs)) ∧ sp (V.ref a :: vs) H2 Q E
/-- f(e, ..), f an instance with its own __call__ -/
theorem pe_callO {X : Cx} {CX : CXT} {k : Nat} {C : Addr} {sp : Sp} {E : XK} {e fe : Expr} {es : List Expr} {tf : TE} {t : TA} {pos : Pos} {g : Addr} (hf : PE X fe tf) (c : StX.CallO X.K C g) (F : FnR X.prog X.w X.K X.mg X.base CX k g sp) (hr : Room k X.A) (hx : Passes CX X E) (ha : PA X (e :: es) t)
    (ht : eval (.Call fe (e :: es) [] pos) X.env = (do callWith pos (← eval fe X.env) [] (backTo pos (starEach (e :: es) X.env)) (backToKw pos (keywordEach [] X.env))) := by rfl)
    (he : starEach (e :: es) X.env = (false, eval e X.env) :: starEach es X.env := by rfl) (hpl : (backTo pos (starEach es X.env)).any (·.1) = false := by rfl) : PE X (.Call fe (e :: es) [] pos) (tCallO C sp E tf t) := by
  refine ⟨fun pins s σ H Q I h => ?_⟩
  refine Call_ (thn (hf.run pins s σ H _ I h) fun u s1 ⟨y, H1, I1, ry, a, ey, q⟩ => ?_) ht
  subst ey
  obtain rfl : u = Value.ref a := ry
  refine StX.callO_with (thn (ha.run pos pins s1 σ H1 _ I1 q) fun us s2 ⟨vs, H2, I2, r, hi, q2⟩ => ?_) he hpl
  obtain ⟨ox, od, J, hd⟩ := StX.insC_at I2 (.inr hi)
  exact ⟨⟨C, ox, od, J, hd⟩, StX.run_callO c F hr hx I2 (.inr hi) r q2⟩
def plV (w k : Nat) : List V := [.int ((k : Int) / w), .int ((k : Int) % w)]
def plK (w k : Nat) : List Key := [Sum.inl ((k : Int) / w), Sum.inl ((k : Int) % w)]
theorem plKV (w k : Nat) : (plK w k).map kV = plV w k := rfl
theorem plK_inj {w a b : Nat} (e : plK w a = plK w b) : a = b := by
  have h1 : (a : Int) / w = (b : Int) / w := by
    injection e with e1 e2
    exact Sum.inl.inj e1
  have h2 : (a : Int) % w = (b : Int) % w := by
    injection e with e1 e2
    injection e2 with e3 e4
    exact Sum.inl.inj e3
  have ha := Int.mul_ediv_add_emod (a : Int) w
  have hb := Int.mul_ediv_add_emod (b : Int) w
  rw [h1, h2] at ha
  have : (a : Int) = b := ha.symm.trans hb
  omega
theorem valV_no {κ : Type} [DecidableEq κ] {S : List Nat} {f : Nat → κ} {v : Nat → V} {k : κ} (h : ∀ m ∈ S, f m ≠ k) : valV (S.map fun m => (f m, v m)) k = none := by
  unfold valV
  rw [Option.map_eq_none_iff, List.find?_eq_none]
  intro x hx
  obtain ⟨m, hm, rfl⟩ := List.mem_map.mp hx
  simpa using h m hm
theorem valV_at {κ : Type} [DecidableEq κ] {f : Nat → κ} {v : Nat → V} : ∀ {S : List Nat} {m : Nat}, m ∈ S → (∀ a ∈ S, f a = f m → a = m) → valV (S.map fun m => (f m, v m)) (f m) = some (v m)
  | [], _, h, _ => by cases h
  | a :: S, m, h, hi => by
    unfold valV
    rw [List.map_cons, List.find?_cons]
    by_cases q : f a = f m
    · have e := hi a List.mem_cons_self q
      subst e
      simp
    · have : decide (f a = f m) = false := decide_eq_false q
      rw [this]
      have hm : m ∈ S := by
        rcases List.mem_cons.mp h with z | z
        · subst z
          exact absurd rfl q
        · exact z
      exact valV_at hm fun b hb => hi b (List.mem_cons_of_mem _ hb)
/-- from places to places: A ahead, B behind -/
def ExAt (H : Hp) (d : Addr) (w : Nat) (A B : List Nat) (S : List Nat) (qa : Nat → Addr) : Prop := H d = some (.dT (S.map fun m => (plK w (A.idxOf m), V.ref (qa m)))) ∧ ∀ m ∈ S, H (qa m) = some (.tup (plV w (B.idxOf m)))
theorem ExAt.same {H H' : Hp} {d w : Nat} {A B S : List Nat} {qa : Nat → Addr} (h : ExAt H d w A B S qa) (s : Same H H') : ExAt H' d w A B S qa := ⟨s _ _ h.1, fun m hm => s _ _ (h.2 m hm)⟩
theorem like_tilts {n m : Nat} : ∀ (t : List Nat) {g : Grid}, Rect n m g → Like g (tilts n m t g)
  | [], _, _ => ⟨List.Perm.refl _, fun h => h⟩
  | c :: t, _, R => (like_tilt (c := c) R).trans (like_tilts t (tilt_rect R))
theorem mem_srt {l : List Nat} {c : Nat} : c ∈ srt l ↔ c ∈ l := (srt_perm l).mem_iff
section
variable {P : Program} {w_ : World} {K : PySem.W.Frag} {mg : Str → Option Value} {base : Heap} {C D CU fRs fCl pM gM : Addr} {n : Nat} {fdM : FuncData}
abbrev NEx : List Str := ["tray", "word", "first", "second", "marble"]
theorem scEx : FnScope NEx ["tray", "word"] (defScope sExchange) := ⟨rfl, rfl, rfl, by decide +kernel, rfl, by decide +kernel, by decide +kernel⟩
def spEx (K : PySem.W.Frag) (C D : Addr) : Sp := fun vs H Q _ => ∃ (p q : Addr) (h w : Nat) (g : Grid) (t : List Nat), vs = [.ref p, .ref q] ∧ TrayAt K D H p g ∧ VG h w g ∧ WordAt C H q t ∧
  ∀ H' d qa, Same H H' → H d = none → ExAt H' d w (tilts h w t g).flatten (tilts h w t (tilts h w t g)).flatten (srt (mb (tilts h w t g).flatten)) qa → Q (.ref d) H'
theorem ok_ex {f : Addr} {fd : FuncData} (F : Fun K "exchange" "exchange" sExchange f fd) (b : Binds K fd ["tray", "word"] []) (hDC : D ≠ C) (CT : ClsT K mg D)
    (sf : PySem.W.selfFirst K D = true) (NO : NoOp K C Operator.RShift.info.2) (hs : PySem.W.findIn K (.ref D) (PySem.dunder Operator.RShift.info.2) = some (some (.ref fRs))) (hf : PySem.W.isFn K (.ref fRs) = true) (GRs : FnRn n P w_ K mg base CX0 5 fRs (spRs K C D))
    (PM : PropOf K D "marbles" pM gM) (GM : FnOk P w_ K mg base CX0 1 gM fdM ["self"] (spMb K D)) (bM : Binds K fdM ["self"] [])
    (CO : StX.CallO K D fCl) (GC : FnR P w_ K mg base (L2.CX P w_) 4 fCl (spCl K D CU)) :
    FnRn n P w_ K mg base CX0 6 f (spEx K C D) := by
  refine fn_n F b scEx (fun vs H Q E h => ?_) fun cdv A outer s H vs Q E hr h => ?_
  · obtain ⟨p, q, h, w, g, t, rfl, _⟩ := h
    rfl
  · obtain ⟨p, q, h, w, g, t, rfl, T0, hV, W0, k⟩ := h
    have nd := scEx.nd
    refine ⟨_, pssn_cons (psn_set (i := 2) nd rfl (.inr rfl) (pen_op (op_twoN hDC sf NO hs hf GRs hr pass0) (PE.up (pv 0)) (PE.up (pv 1))))
      (pssn_cons (psn_set (i := 3) nd rfl (.inr rfl) (pen_op (op_twoN hDC sf NO hs hf GRs hr pass0) (PE.up (pv 2)) (PE.up (pv 1))))
      (pssn_one (PS.up (ps_ret (pe_dcT (own := [("marble", 4)]) (g := gName 4) (hu_of hr) rfl nd (pi_str (pe_prop (pv 2) CT.cl PM GM (hr.mono (by decide)) bM .nil pass0 rfl)) (blkOk_by (N := NEx) (sc := defScope sExchange) (by decide +kernel)) (fun _ _ _ _ _ => pg_name (i := 4) nd rfl (.inl rfl))
        (fun _ _ _ _ _ => pe_callO (pv 2) CO GC (hr.mono (by decide)) passL (pa_cons (pv 4) pa_nil)) (fun _ _ _ _ _ => pe_callO (pv 3) CO GC (hr.mono (by decide)) passL (pa_cons (pv 4) pa_nil))))))), ?_⟩
    obtain ⟨dp, ap, hp, hSp⟩ := id T0
    obtain ⟨dq, hq⟩ := id W0
    have V1 := VG.tilts t hV
    have V2 := VG.tilts t V1
    refine ⟨_, rfl, _, rfl, p, dp, _, q, dq, _, rfl, rfl, hp, hq, p, q, h, w, g, t, rfl, T0, hV, W0, fun H1 p1 sm1 ht1 => ?_⟩
    obtain ⟨d1, a1, hp1, hS1⟩ := id ht1
    refine ⟨_, rfl, _, rfl, p1, d1, _, q, dq, _, rfl, rfl, hp1, sm1 _ _ hq, p1, q, h, w, _, t, rfl, ht1, V1, W0.same sm1, fun H2 p2 sm2 ht2 => ?_⟩
    have ht1' := ht1.same sm2
    obtain ⟨d1', a1', hp1', hS1'⟩ := id ht1'
    obtain ⟨d2, a2, hp2, hS2⟩ := id ht2
    have sm02 := sm1.trans sm2
    generalize hA : (tilts h w t g).flatten = A at k
    generalize hB : (tilts h w t (tilts h w t g)).flatten = B at k
    have ndA : (mb A).Nodup := by rw [← hA]; exact V1.nd
    have pmB : (mb B).Perm (mb A) := by
      rw [← hA, ← hB]
      exact (like_tilts t V1.rc).pm
    have ndB : (mb B).Nodup := pmB.nodup_iff.mpr ndA
    refine ⟨_, rfl, p1, d1', _, rfl, hp1', p1, h, w, _, rfl, ht1', V1, fun H3 sm3 => ⟨_, rfl, fun D_ hD => ?_⟩⟩
    rw [hA]
    have h26 : (srt (mb A)).length ≤ 26 := by
      rw [(srt_perm _).length_eq, ← hA]
      exact mb_26 V1
    have ndS : (srt (mb A)).Nodup := (srt_perm _).nodup_iff.mpr ndA
    have inA : ∀ m ∈ srt (mb A), A[A.idxOf m]? = some m ∧ m ≠ 46 := fun m hm => by
      have := mem_mb.mp (mem_srt.mp hm)
      exact ⟨(idx_at this.1).2, this.2⟩
    refine dcT_it (walk_str (z := S (srt (mb A)))) (fun i H4 => ∃ qa, Same H3 H4 ∧ ExAt H4 D_ w A B ((srt (mb A)).take i) qa)
      ⟨fun _ => 0, same_new hD, upd_same, fun m hm => by simp at hm⟩ (fun _ _ _ _ => True.intro) ?_ ?_
    · rintro i x H4 H5 hi ⟨qa, sm4, hEx⟩ ⟨rfl, c, hc, rfl⟩
      rw [S_at] at hc
      have hcS := List.mem_of_getElem? hc
      obtain ⟨hcA, c46⟩ := inA c hcS
      have hcB : B[B.idxOf c]? = some c := (idx_at (mem_mb.mp (pmB.mem_iff.mpr (mem_srt.mp hcS))).1).2
      have s23 := sm3.trans sm4
      have T1 := ht1'.same s23
      have T2 := ht2.same s23
      obtain ⟨e1, b1, g1, _⟩ := id T1
      obtain ⟨e2, b2, g2, _⟩ := id T2
      refine ⟨rfl, _, rfl, p1, rfl, _, rfl, ⟨e1, _, g1⟩, p1, _, h, w, _, rfl, T1, V1, .inl ⟨c, A.idxOf c, rfl, c46, by rw [hA]; exact hcA, fun H6 q1 sm6 hq1 hq1' => ?_⟩⟩
      have T2' := T2.same sm6
      refine ⟨_, rfl, p2, rfl, _, rfl, ⟨e2, _, sm6 _ _ g2⟩, p2, _, h, w, _, rfl, T2', V2, .inl ⟨c, B.idxOf c, rfl, c46, by rw [hB]; exact hcB, fun H7 q2 sm7 hq2 hq2' => ?_⟩⟩
      have hEx7 := (hEx.same sm6).same sm7
      have take1 : (srt (mb A)).take (i + 1) = (srt (mb A)).take i ++ [c] := by rw [List.take_add_one, hc]; rfl
      have cnew : c ∉ (srt (mb A)).take i := fun hm => by
        obtain ⟨j, hj⟩ := List.mem_iff_getElem?.mp hm
        rw [List.getElem?_take] at hj
        split at hj
        · rename_i hji
          have nd := List.pairwise_iff_getElem.mp ndS
          obtain ⟨l1, z1⟩ := List.getElem?_eq_some_iff.mp hj
          obtain ⟨l2, z2⟩ := List.getElem?_eq_some_iff.mp hc
          exact nd j i l1 l2 hji (z1.trans z2.symm)
        · cases hj
      have inj : ∀ m ∈ (srt (mb A)).take i, plK w (A.idxOf m) ≠ plK w (A.idxOf c) := fun m hm e => by
        have e2 := plK_inj e
        have := (inA m (List.mem_of_mem_take hm)).1
        rw [e2, hcA] at this
        have : c = m := Option.some.inj this
        exact cnew (by rw [this]; exact hm)
      obtain ⟨qn, hqn1, hqn2⟩ : ∃ qn : Nat → Addr, qn c = q2 ∧ ∀ m, m ≠ c → qn m = qa m := ⟨fun m => if m = c then q2 else qa m, if_pos rfl, fun m hm => if_neg hm⟩
      refine ⟨_, plK w (A.idxOf c), q1, rfl, by rw [plKV]; exact sm7 _ _ hq1', hEx7.1, ?_, qn, ?_, ?_⟩
      · rw [List.length_map, List.length_take]
        show _ < 16777216
        omega
      · exact same_put ((sm4.trans sm6).trans sm7) hD
      have hqD : ∀ {b : Addr} {xs : List V}, H7 b = some (.tup xs) → b ≠ D_ := fun e z => by
        rw [z, hEx7.1] at e
        cases e
      refine ⟨?_, fun m hm => ?_⟩
      · rw [upd_same, putK_new _ (valV_no inj), take1, List.map_append]
        congr 3
        · refine List.map_congr_left fun m hm => ?_
          rw [hqn2 m (fun z => cnew (by rw [← z]; exact hm))]
        · simp [hqn1]
      · rw [take1] at hm
        rcases List.mem_append.mp hm with hm | hm
        · rw [hqn2 m (fun z => cnew (by rw [← z]; exact hm))]
          have := hEx7.2 m hm
          rw [upd_ne (hqD this)]
          exact this
        · rw [List.mem_singleton.mp hm, hqn1, upd_ne (hqD hq2')]
          exact hq2'
    · rintro H4 ⟨qa, sm4, hEx⟩
      rw [S_size, List.take_length] at hEx
      exact k _ D_ qa ((sm02.trans sm3).trans sm4) ((sm02.trans sm3).free hD) hEx
end
end TR
end
section
set_option Elab.async false
set_option maxRecDepth 100000
set_option linter.all false
namespace TR
open PySem PySem.Spec PyProof.Rows L2 TM TK TB TP TH
theorem dget_same {H H' : Hp} {d : Addr} {y : V} {r : Option V} (h : DGet H d y r) (s : Same H H') : DGet H' d y r := by
  have rd : ∀ {u : HO}, Rd H d u → Rd H' d u := fun z => by
    rcases z with z | ⟨o, z⟩
    · exact .inl (s _ _ z)
    · exact .inr ⟨o, s _ _ z⟩
  rcases h with ⟨kvs, k, z, e, l⟩ | ⟨kvs, k, b, z, e, eb, l⟩
  · exact .inl ⟨kvs, k, rd z, e, l⟩
  · exact .inr ⟨kvs, k, b, rd z, e, s _ _ eb, l⟩
section
variable {P : Program} {w_ : World} {K : PySem.W.Frag} {mg : Str → Option Value} {base : Heap}
abbrev NCf : List Str := ["start", "followers", "circle", "following"]
theorem scCf : FnScope NCf ["start", "followers"] (defScope sCircleFrom) := ⟨rfl, rfl, rfl, by decide +kernel, rfl, by decide +kernel, by decide +kernel⟩
/-- from x0 on: val i is what follows after i steps, back at x0 after L -/
def spCf (K : PySem.W.Frag) : Sp := fun vs H Q _ => ∃ (x0 : V) (d : Addr) (val : Nat → V) (pd : Nat → PyData) (L : Nat), vs = [x0, .ref d] ∧ val 0 = x0 ∧ 1 ≤ L ∧ L ≤ 64 ∧ (∀ i, i < L → DGet H d (val i) (some (val (i + 1)))) ∧
  (∀ i, i ≤ L → (∀ H', Same H H' → Dp K H' (val i) (pd i)) ∧ SeqAt.shaped (pd i) = true) ∧ (∀ i, 1 ≤ i → i ≤ L → PyData.eqv (pd i) (pd 0) = decide (i = L)) ∧
  ∀ H' l, Same H H' → H l = none → H' l = some (.lst ((List.range L).map val)) → Q (.ref l) H'
theorem ok_cf {f : Addr} {fd : FuncData} (F : Fun K "_circle_from" "_circle_from" sCircleFrom f fd) : FnOk P w_ K mg base CX0 1 f fd ["start", "followers"] (spCf K) := by
  refine F.ok scCf (fun vs H Q E h => ?_) (fun cdv A outer s H vs Q E hr h => ?_)
  · obtain ⟨x0, d, val, pd, L, rfl, _⟩ := h
    rfl
  · obtain ⟨x0, d, val, pd, L, rfl, rfl, L1, L64, hG, hD, hE, k⟩ := h
    have nd := scCf.nd
    refine ⟨_, pss_cons (ps_set (i := 2) nd rfl (.inl rfl) (pe_lst (pa_cons (pv 0) pa_nil)))
      (pss_cons (ps_set (i := 3) nd rfl (.inl rfl) (pe_dget (hu_of hr) (pv 1) (pv 0) (fun _ _ => rfl)))
      (pss_cons (ps_while PassesOwn.never (pt_cmpR (op_neD hr.units) (pv 3) (pv 0) (nomark _))
        (pss_cons (ps_expr (pe_bm PySem.F.plainAttrs_list PySem.F.slot_list_append PySem.F.type_list_append mt_append (pv 2) (pa_cons (pv 3) pa_nil)))
        (pss_one (ps_set (i := 3) nd rfl (.inl rfl) (pe_dget (hu_of hr) (pv 1) (pv 3) (fun _ _ => rfl))))))
      (pss_one (ps_ret (pv 2))))), ?_⟩
    refine ⟨_, rfl, by show 1 ≤ sizeLine; decide, fun l hl => ?_⟩
    have s1 : Same H (upd H l (.lst [val 0])) := same_new hl
    refine ⟨_, rfl, _, rfl, d, _, rfl, dget_same (hG 0 (by omega)) s1, ?_⟩
    refine while_by (fun σ H1 => ∃ i, 1 ≤ i ∧ i ≤ L ∧ σ = [some (val 0), some (.ref d), some (.ref l), some (val i)] ∧ Same H H1 ∧ H1 l = some (.lst ((List.range i).map val)))
      (fun σ H1 => match H1 l with | some (.lst xs) => L - xs.length | _ => 0) ⟨1, by omega, L1, rfl, s1, by rw [upd_same]; rfl⟩ ?_ ?_
    · rintro σ H1 ⟨i, i1, iL, rfl, sm, hl1⟩
      refine ⟨_, rfl, _, rfl, pd i, pd 0, (hD i iL).1 _ sm, (hD 0 (by omega)).1 _ sm, (hD i iL).2, (hD 0 (by omega)).2, _, rfl, ?_⟩
      rw [hE i i1 iL]
      by_cases q : i = L
      · rw [decide_eq_true q]
        subst q
        exact ⟨_, rfl, k H1 l sm hl hl1⟩
      · rw [decide_eq_false q]
        have hlen : ((List.range i).map val).length = i := by rw [List.length_map, List.length_range]
        refine ⟨_, rfl, .inl ⟨rfl, _, SqL.of hl1⟩, _, rfl, l, _, _, rfl, rfl, hl1, ?_, ?_⟩
        · rw [hlen]
          show i < 16777216
          omega
        have s2 : Same H (upd H1 l (.lst ((List.range i).map val ++ [val i]))) := same_put sm hl
        refine ⟨_, rfl, _, rfl, d, _, rfl, dget_same (hG i (by omega)) s2, ?_, ?_⟩
        · refine ⟨i + 1, by omega, by omega, rfl, s2, ?_⟩
          rw [upd_same, List.range_succ, List.map_append]
          rfl
        · rw [upd_same, hl1]
          show L - ((List.range i).map val ++ [val i]).length < L - ((List.range i).map val).length
          rw [List.length_append, hlen]
          show L - (i + 1) < L - i
          omega
    · rintro σ H1 Q1 Q2 hq ⟨x, e1, y, e2, d1, d2, h1, h2, h3, h4, c, e3, q⟩
      exact ⟨x, e1, y, e2, d1, d2, h1, h2, h3, h4, c, e3, hq _ _ q⟩
end
end TR
end
section
set_option maxHeartbeats 4000000
set_option linter.all false
namespace TM
theorem flatten_len {h w : Nat} {g : Grid} (R : Rect h w g) : g.flatten.length = h * w := by
  rw [List.length_flatten]
  have : g.map List.length = List.replicate h w := List.eq_replicate_iff.mpr ⟨by rw [List.length_map]; exact R.1, fun x hx => by
    obtain ⟨l, hl, rfl⟩ := List.mem_map.mp hx
    exact R.2 l hl⟩
  rw [this]
  simp
/-- a place of the flat list is a row and a column -/
theorem at_flat {h w k : Nat} {g : Grid} (R : Rect h w g) (hk : k < g.flatten.length) : k / w < h ∧ k % w < w ∧ g.flatten[k]? = some (cell g (k / w) (k % w)) := by
  rw [flatten_len R] at hk
  have w0 : 0 < w := by
    rcases Nat.eq_zero_or_pos w with z | z
    · rw [z, Nat.mul_zero] at hk
      omega
    · exact z
  have h1 : k / w < h := Nat.div_lt_of_lt_mul (by rw [Nat.mul_comm]; exact hk)
  have h2 := Nat.mod_lt k w0
  refine ⟨h1, h2, ?_⟩
  have e := flat_at R h1 h2
  have : k / w * w + k % w = k := by rw [Nat.mul_comm]; exact Nat.div_add_mod k w
  rw [this] at e
  exact e
theorem same_cell {h w r c r' c' : Nat} {g : Grid} (R : Rect h w g) (nd : (mb g.flatten).Nodup) (hr : r < h) (hc : c < w) (hr' : r' < h) (hc' : c' < w) (e : cell g r c = cell g r' c') (n : cell g r c ≠ 46) : r = r' ∧ c = c' := by
  have e1 := flat_at R hr hc
  have e2 := flat_at R hr' hc'
  rw [← e] at e2
  have k := one_place nd n e1 e2
  have w0 : 0 < w := by omega
  have d1 : (r * w + c) / w = r := by rw [Nat.mul_comm, Nat.mul_add_div w0, Nat.div_eq_of_lt hc, Nat.add_zero]
  have d2 : (r' * w + c') / w = r' := by rw [Nat.mul_comm, Nat.mul_add_div w0, Nat.div_eq_of_lt hc', Nat.add_zero]
  have er : r = r' := by rw [← d1, ← d2, k]
  subst er
  exact ⟨rfl, by omega⟩
theorem cell_rel {f : Nat → Nat} {h w r c : Nat} {g : Grid} (R : Rect h w g) (hr : r < h) (hc : c < w) : cell (rel f g) r c = f (cell g r c) := by
  have hg : r < g.length := by rw [R.1]; exact hr
  have e := getD_at hg
  have hl := R.2 _ (List.mem_of_getElem? e)
  unfold cell
  have e2 : (rel f g).getD r [] = (g.getD r []).map f := by
    show (g.map (List.map f)).getD r [] = _
    rw [List.getD_eq_getElem?_getD, List.getElem?_map, e]
    rfl
  rw [e2]
  generalize g.getD r [] = l at hl
  rw [List.getD_eq_getElem?_getD, List.getElem?_map, List.getD_eq_getElem?_getD, List.getElem?_eq_getElem (show c < l.length by omega)]
  rfl
structure Fill (φ : Nat → Nat) (G1 : Grid) (h w : Nat) (seen : List Nat) (G : Grid) : Prop where
  rc : Rect h w G
  at_ : ∀ r c, r < h → c < w → cell G r c = if cell G1 r c ≠ 46 ∧ φ (cell G1 r c) ∈ seen then φ (cell G1 r c) else 46
theorem fill_start (φ : Nat → Nat) (G1 : Grid) (h w : Nat) : Fill φ G1 h w [] (List.replicate h (List.replicate w 46)) := by
  refine ⟨⟨List.length_replicate, fun r hr => by rw [(List.mem_replicate.mp hr).2, List.length_replicate]⟩, fun r c hr hc => ?_⟩
  rw [if_neg (fun z => by cases z.2)]
  unfold cell
  have e1 : (List.replicate h (List.replicate w 46)).getD r [] = List.replicate w 46 := by
    rw [List.getD_eq_getElem?_getD, List.getElem?_replicate, if_pos hr]
    rfl
  rw [e1, List.getD_eq_getElem?_getD, List.getElem?_replicate, if_pos hc]
  rfl
theorem Fill.put {φ : Nat → Nat} {G1 G : Grid} {h w r0 c0 m : Nat} {seen : List Nat} (F : Fill φ G1 h w seen G) (hr : r0 < h) (hc : c0 < w) (n : cell G1 r0 c0 ≠ 46) (e : φ (cell G1 r0 c0) = m)
    (u : ∀ r c, r < h → c < w → cell G1 r c ≠ 46 → φ (cell G1 r c) = m → r = r0 ∧ c = c0) : Fill φ G1 h w (seen ++ [m]) (putc G r0 c0 m) := by
  refine ⟨put_rect F.rc, fun r c hr' hc' => ?_⟩
  rw [put_cell F.rc hr hc hr' hc']
  by_cases q : r = r0 ∧ c = c0
  · obtain ⟨rfl, rfl⟩ := q
    rw [if_pos ⟨rfl, rfl⟩, if_pos ⟨n, by rw [e]; simp⟩, e]
  · rw [if_neg q, F.at_ r c hr' hc']
    by_cases q2 : cell G1 r c ≠ 46 ∧ φ (cell G1 r c) ∈ seen
    · rw [if_pos q2, if_pos ⟨q2.1, List.mem_append_left _ q2.2⟩]
    · rw [if_neg q2, if_neg]
      intro z
      rcases List.mem_append.mp z.2 with y | y
      · exact q2 ⟨z.1, y⟩
      · exact q (u r c hr' hc' z.1 (List.mem_singleton.mp y))
theorem Fill.all {φ : Nat → Nat} {G1 G : Grid} {h w : Nat} {S : List Nat} (F : Fill φ G1 h w S G) (R : Rect h w G1) (z : φ 46 = 46) (a : ∀ r c, r < h → c < w → cell G1 r c ≠ 46 → φ (cell G1 r c) ∈ S) : G = rel φ G1 := by
  refine cell_ext F.rc (map_rect R fun l => List.length_map ..) fun r c hr hc => ?_
  rw [F.at_ r c hr hc, cell_rel R hr hc]
  by_cases q : cell G1 r c = 46
  · rw [if_neg (fun y => y.1 q), q, z]
  · rw [if_pos ⟨q, a r c hr hc q⟩]
theorem pw_46 {f : Nat → Nat} (h : f 46 = 46) : ∀ n, pw f n 46 = 46
  | 0 => rfl
  | n + 1 => by
    show f (pw f n 46) = 46
    rw [pw_46 h n, h]
end TM
end
section
set_option Elab.async false
set_option maxRecDepth 100000
set_option linter.all false
namespace TR
open PySem PySem.Spec PyProof.Rows L2 TM TK TB TP TH TU
section
variable {P : Program} {w_ : World} {K : PySem.W.Frag} {mg : Str → Option Value} {base : Heap} {C D CU fRs fCl fI fEx fCf fCn fN pM gM pH gH pW gW : Addr} {n : Nat} {fdM fdH fdW fdCf fdCn fdN : FuncData}
theorem scCn : FnScope ["value", "limit"] ["value", "limit"] (defScope sCheckNumber) := ⟨rfl, rfl, rfl, by decide +kernel, rfl, by decide +kernel, by decide +kernel⟩
def spCn : Sp := fun vs H Q _ => ∃ (k l : Nat), vs = [.int k, .int l] ∧ k ≤ l ∧ Q .non H
theorem isN_ok {k l : Nat} (h : k ≤ l) : TA.isN (.int k) (l : Int) = true := by
  show (decide ((0 : Int) ≤ k) && decide ((k : Int) ≤ l)) = true
  rw [decide_eq_true (by omega), decide_eq_true (by omega)]
  rfl
theorem ok_cn {f : Addr} {fd : FuncData} (F : Fun K "check_number" "check_number" sCheckNumber f fd) (GN : FnOk P w_ K mg base CX0 1 fN fdN ["value", "limit"] (TA.spNum K)) (kN : PySem.W.keepIn K (.ref fN) = true) (bN : Binds K fdN ["value", "limit"] []) (mN : mg "is_number" = some (.ref fN)) :
    FnOk P w_ K mg base CX0 2 f fd ["value", "limit"] spCn := by
  refine F.ok scCn (fun vs H Q E h => ?_) (fun cdv A outer s H vs Q E hr h => ?_)
  · obtain ⟨k, l, rfl, _⟩ := h
    rfl
  · obtain ⟨k, l, rfl, hk, q⟩ := h
    refine ⟨_, pss_one (ps_if (pt_not (pt_val (pe_call GN hr rfl mN kN bN .nil pass0 (pa_cons (pv 0) (pa_cons (pv 1) pa_nil))))) pss_never pss_nil), ?_⟩
    refine ⟨_, rfl, _, rfl, _, _, _, _, _, rfl, TA.kn_int _, ?_⟩
    rw [isN_ok hk]
    exact ⟨true, rfl, iteF q⟩
abbrev NAr : List Str := ["tray", "word", "times", "first", "moves", "cells", "_", "marble", "circle", "row", "column", "rows", "line"]
theorem scAr : FnScope NAr ["tray", "word", "times"] (defScope sAfterRounds) := ⟨rfl, rfl, rfl, by decide +kernel, rfl, by decide +kernel, by decide +kernel⟩
def spAr (K : PySem.W.Frag) (C D : Addr) : Sp := fun vs H Q _ => ∃ (p q : Addr) (h w k : Nat) (g : Grid) (t : List Nat), vs = [.ref p, .ref q, .int k] ∧ TrayAt K D H p g ∧ VG h w g ∧ WordAt C H q t ∧ k ≤ 10 ^ 18 ∧
  ∀ H' r, Same H H' → TrayAt K D H' r (rounds h w t k g) → Q (.ref r) H'
structure TxtR (K : PySem.W.Frag) (mg : Str → Option Value) : Prop where
  em : ∃ u, mg "EMPTY" = some u ∧ RelV (.str (S [46])) u
  mr : ∃ u, mg "MAX_ROUNDS" = some u ∧ RelV (.int ((10 ^ 18 : Nat) : Int)) u
  range : mg "range" = none
  int : mg "int" = none
  len : mg "len" = none
theorem mb_let {h w : Nat} {g : Grid} (V : VG h w g) : ∀ c ∈ mb g.flatten, 97 ≤ c ∧ c < 123 := fun c hc => by
  have h1 := mem_mb.mp hc
  obtain ⟨r, hr, hcr⟩ := List.mem_flatten.mp h1.1
  rcases V.ok r hr c hcr with h2 | h2
  · exact absurd h2 h1.2
  · exact ⟨by omega, by omega⟩
theorem VG.rounds {h w : Nat} {t : List Nat} {g : Grid} : ∀ k, VG h w g → VG h w (TM.rounds h w t k g)
  | 0, V => V
  | k + 1, V => VG.tilts t (VG.rounds k V)
def plD (w k : Nat) : PyData := .tuple [.int ((k : Int) / w), .int ((k : Int) % w)]
theorem pl_dp {H : Hp} {a : Addr} {w k : Nat} (h : H a = some (.tup (plV w k))) : Dp K H (.ref a) (plD w k) := .tup (SqT.of h) (.cons (.int _) (.cons (.int _) .nil))
theorem pl_shaped (w k : Nat) : SeqAt.shaped (plD w k) = true := rfl
theorem pl_eqv (w a b : Nat) : PyData.eqv (plD w a) (plD w b) = decide (a = b) := by
  have h1 : PyData.eqv (plD w a) (plD w b) = (decide ((a : Int) / w = (b : Int) / w) && (decide ((a : Int) % w = (b : Int) % w) && true)) := by
    unfold plD
    simp [PyData.eqv, PyData.eqvAll]
    rfl
  rw [h1]
  by_cases q : a = b
  · subst q
    simp
  · rw [decide_eq_false q]
    have : ¬ ((a : Int) / w = (b : Int) / w ∧ (a : Int) % w = (b : Int) % w) := fun z => q (plK_inj (w := w) (by unfold plK; rw [z.1, z.2]))
    by_cases q1 : (a : Int) / w = (b : Int) / w
    · rw [decide_eq_true q1, decide_eq_false (fun z => this ⟨q1, z⟩)]
      rfl
    · rw [decide_eq_false q1]
      rfl
theorem ok_ar {f : Addr} {fd : FuncData} (F : Fun K "after_rounds" "after_rounds" sAfterRounds f fd) (b : Binds K fd ["tray", "word", "times"] []) (T : TxtR K mg) (hDC : D ≠ C) (CT : ClsT K mg D)
    (sf : PySem.W.selfFirst K D = true) (NO : NoOp K C Operator.RShift.info.2) (hs : PySem.W.findIn K (.ref D) (PySem.dunder Operator.RShift.info.2) = some (some (.ref fRs))) (hf : PySem.W.isFn K (.ref fRs) = true) (GRs : FnRn n P w_ K mg base CX0 5 fRs (spRs K C D))
    (PM : PropOf K D "marbles" pM gM) (GM : FnOk P w_ K mg base CX0 1 gM fdM ["self"] (spMb K D)) (bM : Binds K fdM ["self"] [])
    (PH : PropOf K D "height" pH gH) (GH : FnOk P w_ K mg base CX0 1 gH fdH ["self"] (spHt K D)) (bH : Binds K fdH ["self"] [])
    (PW_ : PropOf K D "width" pW gW) (GW : FnOk P w_ K mg base CX0 1 gW fdW ["self"] (spWd K D)) (bW : Binds K fdW ["self"] [])
    (CO : StX.CallO K D fCl) (GC : FnR P w_ K mg base (L2.CX P w_) 4 fCl (spCl K D CU))
    (GE : FnRn n P w_ K mg base CX0 6 fEx (spEx K C D)) (kE : PySem.W.keepIn K (.ref fEx) = true) (mE : mg "exchange" = some (.ref fEx))
    (GF : FnOk P w_ K mg base CX0 1 fCf fdCf ["start", "followers"] (spCf K)) (kF : PySem.W.keepIn K (.ref fCf) = true) (bF : Binds K fdCf ["start", "followers"] []) (mF : mg "_circle_from" = some (.ref fCf))
    (GN : FnOk P w_ K mg base CX0 2 fCn fdCn ["value", "limit"] spCn) (kN : PySem.W.keepIn K (.ref fCn) = true) (bN : Binds K fdCn ["value", "limit"] []) (mN : mg "check_number" = some (.ref fCn))
    (M : Mk K D fI) (GI : FnR P w_ K mg base CX0 3 fI (fun vs H Q E => ∃ ws rest, vs = ws ++ rest ∧ ws.length = 1 ∧ rest.length ≤ sizeLine ∧ ∀ p, H p = Option.none → spTi K D (ws ++ [V.ref p]) (upd H p (.tup rest)) Q E)) :
    FnRn n P w_ K mg base CX0 7 f (spAr K C D) := by
  refine fn_n F b scAr (fun vs H Q E h => ?_) fun cdv A outer s H vs Q E hr h => ?_
  · obtain ⟨p, q, h, w, k, g, t, rfl, _⟩ := h
    rfl
  · obtain ⟨p, q, h, w, k, g, t, rfl, T0, hV, W0, hk, kk⟩ := h
    have nd := scAr.nd
    refine ⟨_, pssn_cons (PS.up (ps_expr (pe_call GN (hr.mono (by decide)) rfl mN kN bN .nil pass0 (pa_cons (pv 2) (pa_cons (C8.pe_gc rfl T.mr) pa_nil)))))
      (pssn_cons (PS.up (ps_if (pt_cmpR op_eq (pv 2) pe_int (nomark _)) (pss_one (ps_ret (pv 0))) pss_nil))
      (pssn_cons (psn_set (i := 3) nd rfl (.inl rfl) (pen_op (op_twoN hDC sf NO hs hf GRs (hr.mono (by decide)) pass0) (PE.up (pv 0)) (PE.up (pv 1))))
      (pssn_cons (psn_set (i := 4) nd rfl (.inl rfl) (pen_call GE hr rfl mE kE pass0 (pan_cons (PE.up (pv 0)) (pan_cons (PE.up (pv 1)) pan_nil))))
      (pssn_cut (PS.up (ps_setLc (i := 5) (own := [("_", 6)]) (g := gName 6) (tt := tYes) rfl nd rfl rfl (sw_true rfl rfl rfl (by decide +kernel)) (pi_range1 (by rfl) T.range (pa_cons (pe_prop (pv 0) CT.cl PH GH (hr.mono (by decide)) bH .nil pass0 rfl) pa_nil)) (blkOk_by (N := NAr) (sc := defScope sAfterRounds) (by decide +kernel)) (fun _ _ _ _ _ => pg_name (i := 6) nd rfl (.inl rfl)) (fun _ _ _ _ _ => pts_nil)
          (fun _ _ _ _ _ => pe_op op_rep (pe_lst (pa_cons (C8.pe_gc rfl T.em) pa_nil)) (pe_prop (pv 0) CT.cl PW_ GW (hr.mono (by decide)) bW .nil pass0 rfl))))
      (pssn_cut (PS.up (ps_for PassesOwn.never rfl (pi_str (pe_prop (pv 3) CT.cl PM GM (hr.mono (by decide)) bM .nil pass0 rfl)) (pg_name (i := 7) nd rfl (.inl rfl))
          (pss_cons (ps_set (i := 8) nd rfl (.inl rfl) (pe_call GF (hr.mono (by decide)) rfl mF kF bF .nil pass0 (pa_cons (pe_callO (pv 3) CO GC (hr.mono (by decide)) passL (pa_cons (pv 7) pa_nil)) (pa_cons (pv 4) pa_nil))))
          (pss_cons (ps_asg (pe_ix ix_list (pv 8) (pe_op op_modN (pe_callTy call_int1 (by rfl) T.int (by decide +kernel) (pa_cons (pe_op op_sub (pv 2) pe_int) pa_nil)) (pe_callB call_len_seq (by rfl) T.len PySem.boot_len (pa_cons (pv 8) pa_nil))) (fun _ _ => rfl)) (pg_tup (by rfl) (pgs_cons (pg_name (i := 9) nd rfl (.inl rfl)) (pgs_cons (pg_name (i := 10) nd rfl (.inl rfl)) pgs_nil))))
          (pss_one (ps_asg (pv 7) (pg_sub (pe_ix ix_list (pv 5) (pv 9) (fun _ _ => rfl)) (pv 10) set_list)))))))
      (pssn_cons (PS.up (ps_setLc (i := 11) (own := [("line", 12)]) (g := gName 12) (tt := tYes) rfl nd rfl rfl (sw_true rfl rfl rfl (by decide +kernel)) (pi_list (pv 5)) (blkOk_by (N := NAr) (sc := defScope sAfterRounds) (by decide +kernel)) (fun _ _ _ _ _ => pg_name (i := 12) nd rfl (.inl rfl)) (fun _ _ _ _ _ => pts_nil)
          (fun _ _ _ _ _ => pe_joinK (K := K) rfl pe_str (pv 12))))
      (pssn_one (PS.up (ps_ret (pe_makeS M GI (hr.mono (by decide)) rfl CT.mgC pass0 (pv 11))))))))))), ?_⟩
    obtain ⟨dp, ap, hp, hSp⟩ := id T0
    obtain ⟨dq, hq⟩ := id W0
    have V1 := VG.tilts t hV
    have V2 := VG.tilts t V1
    refine ⟨_, rfl, k, 10 ^ 18, rfl, hk, ?_⟩
    refine ⟨_, rfl, rfl, _, rfl, ?_⟩
    by_cases k0 : k = 0
    · subst k0
      exact iteT ⟨_, rfl, kk H p (Same.refl H) T0⟩
    rw [show decide (V.int (k : Nat) = V.int 0) = false from decide_eq_false (fun z => k0 (by injection z with z; omega))]
    refine iteF ?_
    refine ⟨_, rfl, _, rfl, p, dp, _, q, dq, _, rfl, rfl, hp, hq, p, q, h, w, g, t, rfl, T0, hV, W0, fun H1 p1 sm1 ht1 => ?_⟩
    refine ⟨_, rfl, _, rfl, p, q, h, w, g, t, rfl, T0.same sm1, hV, W0.same sm1, fun H2 d qa sm2 hd0 hEx => ?_⟩
    have sm02 := sm1.trans sm2
    have Tt2 := T0.same sm02
    obtain ⟨dp2, ap2, hp2, _⟩ := id Tt2
    have h1 := hV.n1
    have h8 := hV.n8
    have w1 := hV.m1
    have w8 := hV.m8
    refine ⟨fun σ H3 => ∃ D0 ds v6, σ = [some (.ref p), some (.ref q), some (.int (k : Nat)), some (.ref p1), some (.ref d), some (.ref D0), v6, none, none, none, none, none, none] ∧ CellsAt H3 D0 ds (List.replicate h (List.replicate w 46)) ∧ ds.Nodup ∧ D0 ∉ ds ∧ H2 D0 = none ∧ (∀ b ∈ ds, H2 b = none) ∧ Same H2 H3, ?_, ?_⟩
    · refine ⟨_, rfl, p, dp2, _, rfl, hp2, p, h, w, g, rfl, Tt2, hV, (h : Int), rfl, by omega, by omega, fun D hD => lc_range (lo := 0) (n := ((h : Nat) : Int).toNat) (fun i H3 => ∃ ds, H3 D = some (.lst (ds.map V.ref)) ∧ ds.length = i ∧ (∀ b ∈ ds, H3 b = some (.lst ((List.replicate w 46).map sg))) ∧ ds.Nodup ∧ D ∉ ds ∧ (∀ b ∈ ds, H2 b = none) ∧ Same H2 H3)
        ⟨[], upd_same, rfl, fun b hb => (by cases hb), List.nodup_nil, by simp, fun b hb => (by cases hb), same_new hD⟩ ?_ ?_⟩
      · rintro i H3 hi ⟨ds, hL, hl, hrow, ndp, hDn, fr, sm⟩
        rw [Int.toNat_natCast] at hi
        refine ⟨rfl, by show 1 ≤ sizeLine; decide, fun e he => ?_⟩
        have se : Same H3 (upd H3 e (.lst [V.str (S [46])])) := same_new he
        have he' : upd H3 e (.lst [V.str (S [46])]) e = some (.lst [V.str (S [46])]) := upd_same
        generalize upd H3 e (.lst [V.str (S [46])]) = H4 at se he'
        have sm4 := sm.trans se
        refine ⟨_, rfl, p, dp2, _, rfl, sm4 _ _ hp2, p, h, w, g, rfl, Tt2.same sm4, hV, e, (w : Int), _, rfl, rfl, he', by omega, by omega, ?_, fun r hr => ?_⟩
        · show 1 * ((w : Nat) : Int).toNat ≤ 16777216
          rw [Int.toNat_natCast]
          omega
        rw [Int.toNat_natCast]
        have hL4 := se _ _ hL
        have nD : D ≠ r := ne_of_none hL4 hr
        have nl : ∀ b ∈ ds, b ≠ r := fun b hb => ne_of_none (se _ _ (hrow b hb)) hr
        refine ⟨_, by rw [upd_ne nD]; exact hL4, ?_, ds ++ [r], ?_, by simp [hl], fun b hb => ?_, ?_, ?_, ?_, same_put (sm4.trans (same_new hr)) hD⟩
        · rw [List.length_map]
          show _ < 16777216
          omega
        · rw [upd_same, List.map_append]
          rfl
        · rcases List.mem_append.mp hb with hb | hb
          · rw [upd_ne (fun z => hDn (by rw [← z]; exact hb)), upd_ne (nl b hb)]
            exact se _ _ (hrow b hb)
          · rw [List.mem_singleton.mp hb, upd_ne nD.symm, upd_same]
            exact congrArg (fun z => some (HO.lst z)) (rep_dots w)
        · rw [List.nodup_append]
          exact ⟨ndp, by simp, fun x hx y hy => by rw [List.mem_singleton.mp hy]; exact nl x hx⟩
        · intro z
          rcases List.mem_append.mp z with z | z
          · exact hDn z
          · exact nD (List.mem_singleton.mp z)
        · intro b hb
          rcases List.mem_append.mp hb with hb | hb
          · exact fr b hb
          · rw [List.mem_singleton.mp hb]
            exact sm4.free hr
      · rintro H3 ⟨ds, hL, hl, hrow, ndp, hDn, fr, sm⟩
        rw [Int.toNat_natCast] at hl
        refine ⟨D, ds, _, rfl, ⟨hL, by rw [hl, List.length_replicate], fun i a e => ?_⟩, ndp, hDn, hD, fr, sm⟩
        rw [hrow a (List.mem_of_getElem? e), List.getD_eq_getElem?_getD, List.getElem?_replicate, if_pos (by rw [← hl]; exact (List.getElem?_eq_some_iff.mp e).1)]
        rfl
    rintro σ H3 ⟨D0, ds, v6, rfl, C0, ndp, hDn, hD0, fr, sm3⟩
    obtain ⟨f0, sg0, hf0⟩ := turn_sig hV.rc V1.nd
    have hT : Two f0 (tilts h w t g).flatten (tilts h w t (tilts h w t g)).flatten := ⟨sg0, by rw [hf0, rel_flat], V1.nd, (like_tilts t V1.rc).pm⟩
    have hM := mb_let V1
    have hround : rounds h w t k g = rel (pw f0 (k - 1)) (tilts h w t g) := by
      have := rounds_pw sg0 hf0 (k - 1)
      rw [show k - 1 + 1 = k by omega] at this
      exact this
    have R1 := V1.rc
    generalize hB : (tilts h w t (tilts h w t g)).flatten = B at hT hEx
    have hA : (tilts h w t g).flatten = (tilts h w t g).flatten := rfl
    generalize hG1 : tilts h w t g = G1 at *
    have hcS : ∀ {c i : Nat}, (srt (mb G1.flatten))[i]? = some c → c ∈ mb G1.flatten := fun e => mem_srt.mp (List.mem_of_getElem? e)
    have ndS : (srt (mb G1.flatten)).Nodup := (srt_perm _).nodup_iff.mpr V1.nd
    have sS : (S (srt (mb G1.flatten))).cps.size = (srt (mb G1.flatten)).length := S_size _
    refine ⟨fun σ H4 => ∃ v7 v8 v9 v10 G, σ = [some (.ref p), some (.ref q), some (.int (k : Nat)), some (.ref p1), some (.ref d), some (.ref D0), v6, v7, v8, v9, v10, none, none] ∧ CellsAt H4 D0 ds G ∧ Fill (pw f0 (k - 1)) G1 h w (srt (mb G1.flatten)) G ∧ Same H2 H4, ?_, ?_⟩
    · have ht2 := (ht1.same sm2).same sm3
      obtain ⟨d1, a1, hp1, hS1⟩ := id ht2
      refine ⟨_, rfl, p1, d1, _, rfl, hp1, p1, h, w, _, rfl, ht2, V1, fun H4 sm4 => ⟨_, rfl, ?_⟩⟩
      refine for_it (walk_str (z := S (srt (mb G1.flatten)))) (fun i σ H5 => ∃ v7 v8 v9 v10 G, σ = [some (.ref p), some (.ref q), some (.int (k : Nat)), some (.ref p1), some (.ref d), some (.ref D0), v6, v7, v8, v9, v10, none, none] ∧ CellsAt H5 D0 ds G ∧ Fill (pw f0 (k - 1)) G1 h w ((srt (mb G1.flatten)).take i) G ∧ Same H2 H5)
        ⟨none, none, none, none, _, rfl, C0.same sm4, fill_start _ _ h w, sm3.trans sm4⟩ (fun _ _ _ _ _ => True.intro) ?_ ?_
      · rintro i x σ H5 H6 hi ⟨v7, v8, v9, v10, G, rfl, C5, F5, sm5⟩ ⟨rfl, c, hc, rfl⟩
        rw [S_at] at hc
        have hcM := hcS hc
        have c46 : c ≠ 46 := (mem_mb.mp hcM).2
        have hcA := (idx_at (mem_mb.mp hcM).1).2
        have T1 := (ht1.same sm2).same sm5
        obtain ⟨e1, b1, g1, _⟩ := id T1
        obtain ⟨L, L26, hL⟩ := ring_ex hT.ontoP hM hcM
        refine ⟨_, rfl, p1, rfl, _, rfl, ⟨e1, _, g1⟩, p1, _, h, w, _, rfl, T1, V1, .inl ⟨c, G1.flatten.idxOf c, rfl, c46, hcA, fun H7 q1 sm7 hq1 hq1' => ?_⟩⟩
        have hEx7 := (hEx.same sm5).same sm7
        obtain ⟨va, va0, va1⟩ : ∃ va : Nat → Addr, va 0 = q1 ∧ ∀ j, va (j + 1) = qa (pw (nxt B G1.flatten) j c) := ⟨fun j => match j with | 0 => q1 | j + 1 => qa (pw (nxt B G1.flatten) j c), rfl, fun _ => rfl⟩
        have inM : ∀ j, pw (nxt B G1.flatten) j c ∈ mb G1.flatten := pw_mem hT.ontoP.mem hcM
        have cont : ∀ j, H7 (va j) = some (.tup (plV w (G1.flatten.idxOf (pw (nxt B G1.flatten) j c)))) := fun j => by
          match j with
          | 0 => rw [va0]; exact hq1'
          | j + 1 =>
            rw [va1, hEx7.2 _ (mem_srt.mpr (inM j)), ← (hT.prv (inM j)).2.2.2]
            rfl
        have idx_inj : ∀ {a b : Nat}, a ∈ mb G1.flatten → b ∈ mb G1.flatten → G1.flatten.idxOf a = G1.flatten.idxOf b → a = b := fun ha hb e => by
          have e1 := (idx_at (mem_mb.mp ha).1).2
          have e2 := (idx_at (mem_mb.mp hb).1).2
          rw [e, e2] at e1
          exact (Option.some.inj e1).symm
        refine ⟨_, rfl, .ref q1, d, fun j => .ref (va j), fun j => plD w (G1.flatten.idxOf (pw (nxt B G1.flatten) j c)), L, rfl, congrArg V.ref va0, hL.one, by omega, fun j hj => ?_, fun j hj => ⟨fun H' s' => pl_dp (s' _ _ (cont j)), pl_shaped _ _⟩, fun j j1 jL => ?_, fun H8 l sm8 hl hl' => ?_⟩
        · have e := DGet.t (k := plK w (G1.flatten.idxOf (pw (nxt B G1.flatten) j c))) hEx7.1 (b := va j) (by rw [plKV]; exact cont j)
          rw [valV_at (f := fun m => plK w (G1.flatten.idxOf m)) (v := fun m => V.ref (qa m)) (mem_srt.mpr (inM j)) (fun a ha z => idx_inj (mem_srt.mp ha) (inM j) (plK_inj z)), ← va1] at e
          exact e
        · rw [pl_eqv]
          refine decide_eq_decide.mpr ⟨fun z => ?_, fun z => by subst z; rw [hL.back]; rfl⟩
          have e := idx_inj (inM j) (inM 0) z
          exact Classical.byContradiction fun n => hL.no j j1 (by omega) e
        have hjL : (k - 1) % L < L := Nat.mod_lt _ hL.one
        have emod : ((k : Int) - 1).fmod ((L : Nat) : Int) = (((k - 1) % L : Nat) : Int) := by
          rw [show (k : Int) - 1 = ((k - 1 : Nat) : Int) by omega, Int.fmod_eq_emod_of_nonneg _ (by omega)]
          rfl
        have pj := hL.mod (k - 1)
        have cj := cont ((k - 1) % L)
        rw [pj] at cj
        have bM := inM (k - 1)
        have fb := hT.pw_back hcM (k - 1)
        generalize pw (nxt B G1.flatten) (k - 1) c = bb at cj bM fb
        have b46 : bb ≠ 46 := (mem_mb.mp bM).2
        have hbA := idx_at (mem_mb.mp bM).1
        obtain ⟨r1, c1, ecell⟩ := at_flat R1 hbA.1
        rw [hbA.2] at ecell
        have ecell := (Option.some.inj ecell).symm
        generalize hrr : G1.flatten.idxOf bb / w = rr at r1 ecell
        generalize hcc : G1.flatten.idxOf bb % w = cc at c1 ecell
        have ep : plV w (G1.flatten.idxOf bb) = [V.int (rr : Nat), V.int (cc : Nat)] := by rw [← hrr, ← hcc]; rfl
        rw [ep] at cj
        refine ⟨_, rfl, _, rfl, _, _, rfl, rfl, .inl ⟨_, rfl, _, rfl, l, _, rfl, .inl (SqL.of hl'), _, _, rfl, rfl, ?_, l, _, _, .ref (va ((k - 1) % L)), rfl, rfl, SqL.of hl', ?_, ?_⟩⟩
        · rw [List.length_map, List.length_range]
          have := hL.one
          omega
        · rw [List.length_map, List.length_range, emod]
          exact atI_nat (by rw [List.getElem?_map, List.getElem?_range hjL]; rfl)
        refine ⟨_, _, rfl, SqT.of (sm8 _ _ cj), rfl, _, _, rfl, _, _, rfl, rfl, ?_⟩
        have C8 := (C5.same sm7).same sm8
        have hlen : rr < ds.length := by rw [C8.2.1, F5.rc.1]; exact r1
        have er := List.getElem?_eq_getElem hlen
        have hbr := C8.row er
        have hw8 : (G.getD rr []).length = w := getD_len F5.rc r1
        refine ⟨_, rfl, _, rfl, _, rfl, D0, _, _, _, rfl, rfl, SqL.of C8.1, atI_nat (by rw [List.getElem?_map, er]; all_goals rfl), _, rfl, ds[rr], _, _, cc, rfl, rfl, hbr, ?_, ?_⟩
        · rw [List.length_map, hw8]
          unfold ixN
          rw [if_pos (by omega), if_pos (by omega), Int.toNat_natCast]
        rw [← List.map_set]
        have take1 : (srt (mb G1.flatten)).take (i + 1) = (srt (mb G1.flatten)).take i ++ [c] := by rw [List.take_add_one, hc]; rfl
        refine ⟨_, _, _, _, putc G rr cc c, rfl, C8.put ndp hDn er, ?_, same_put ((sm5.trans sm7).trans sm8) (fr _ (List.getElem_mem hlen))⟩
        rw [take1]
        refine F5.put r1 c1 (by rw [ecell]; exact b46) (by rw [ecell]; exact fb) fun r2 c2 hr2 hc2 n2 e2 => ?_
        have aM : cell G1 r2 c2 ∈ mb G1.flatten := mem_mb.mpr ⟨List.mem_of_getElem? (flat_at R1 hr2 hc2), n2⟩
        have e3 : cell G1 r2 c2 = cell G1 rr cc := by
          rw [ecell]
          exact pw_inj hT.onto (k - 1) aM bM (e2.trans fb.symm)
        exact same_cell R1 V1.nd hr2 hc2 r1 c1 e3 n2
      · rintro σ H5 ⟨v7, v8, v9, v10, G, rfl, C5, F5, sm5⟩
        rw [S_size, List.take_length] at F5
        exact ⟨v7, v8, v9, v10, G, rfl, C5, F5, sm5⟩
    rintro σ H4 ⟨v7, v8, v9, v10, G, rfl, C4, F4, sm4⟩
    have eG : G = rounds h w t k g := by
      rw [hround]
      refine F4.all R1 (pw_46 sg0.z _) fun r c hr hc n => mem_srt.mpr (pw_mem hT.onto.mem (mem_mb.mpr ⟨List.mem_of_getElem? (flat_at R1 hr hc), n⟩) _)
    have VG_ : VG h w G := by
      rw [eG]
      exact VG.rounds k hV
    have RG := F4.rc
    have hlg := VG_.len
    refine ⟨_, rfl, D0, rfl, ⟨_, SqL.of C4.1⟩, fun E2 hE2 => lc_list (K := K) (a := D0) (xs := ds.map V.ref) (fun i H5 => Same H4 H5 ∧ H5 E2 = some (.lst ((G.take i).map fun r => V.str (S r))))
      ⟨same_new hE2, upd_same⟩ (fun i H5 _ ⟨sm, _⟩ => SqL.of (sm _ _ C4.1)) ?_ ?_⟩
    · rintro i x H5 hi ⟨sm, hL⟩
      obtain ⟨b, hb, rfl⟩ := at_map hi
      have hi' : i < G.length := by rw [← C4.2.1]; exact (List.getElem?_eq_some_iff.mp hb).1
      have hrow := getD_at hi'
      have hlr : (G.getD i []).length = w := getD_len RG (by rw [← RG.1]; exact hi')
      have hbr := sm _ _ (C4.row hb)
      generalize G.getD i [] = r at hrow hlr hbr
      refine ⟨rfl, ⟨_, rfl⟩, _, rfl, _, b, r.map fun c => S [c], rfl, rfl, .inl ?_, ?_, _, hL, ?_, ?_⟩
      · rw [List.map_map]
        exact SqL.of hbr
      · rw [sum_ones, List.length_map]
        show _ + _ * 0 ≤ 16777216
        omega
      · rw [List.length_map, List.length_take]
        show _ < 16777216
        omega
      · refine ⟨same_put sm hE2, ?_⟩
        rw [upd_same, take_map_snoc hrow, join_signs]
    · rintro H5 ⟨sm, hL⟩
      rw [List.length_map, C4.2.1, List.take_length] at hL
      refine ⟨_, rfl, E2, rowV G, rfl, .inr (SqL.of hL), fun x dx nx ndx nex => ?_⟩
      refine ⟨[.ref x], rowV G, rfl, rfl, ?_, fun pt hpt => ?_⟩
      · rw [List.length_map]
        show _ ≤ 16777216
        omega
      have hpx : x ≠ pt := fun z => by rw [← z, upd_same] at hpt; cases hpt
      refine ⟨x, dx, pt, h, w, G, rfl, by rw [upd_ne hpx, upd_same], SqT.of upd_same, VG_, fun H' ht kp => ⟨rfl, ?_⟩⟩
      rw [eG] at ht
      refine kk _ _ (((sm02.trans sm4).trans sm).trans fun b o e => ?_) ht
      have hbx : b ≠ x := ne_of_none e nx
      have hbd : b ≠ dx := ne_of_none e ndx
      have e2 : (upd (upd H5 dx (.own x)) x (.ins D dx [])) b = some o := by rw [upd_ne hbx, upd_ne hbd]; exact e
      exact kp b o (by rw [upd_ne (ne_of_none e2 hpt)]; exact e2) hbx
end
end TR
end
section
set_option Elab.async false
set_option maxRecDepth 100000
set_option linter.all false
namespace TM
/-- a circle's length, looked for -/
def ringLen (φ : Nat → Nat) (s : Nat) : Nat := ((List.range 26).find? fun i => pw φ (i + 1) s == s).getD 0 + 1
theorem ring_len {φ : Nat → Nat} {s L : Nat} (h : Ring φ s L) (h26 : L ≤ 26) : Ring φ s (ringLen φ s) := by
  have hL := h.one
  have hm : L - 1 ∈ List.range 26 := List.mem_range.mpr (by omega)
  have hp : (pw φ (L - 1 + 1) s == s) = true := by
    rw [show L - 1 + 1 = L by omega, h.back]
    exact beq_self_eq_true s
  have : ringLen φ s = L := by
    unfold ringLen
    cases e : (List.range 26).find? fun i => pw φ (i + 1) s == s with
    | none =>
      have := List.find?_eq_none.mp e _ hm
      exact absurd hp this
    | some i =>
      show i + 1 = L
      have h1 := List.find?_some e
      have h2 : pw φ (i + 1) s = s := by simpa using h1
      have h3 : L ≤ i + 1 := by
        rcases Nat.lt_or_ge (i + 1) L with q | q
        · exact absurd h2 (h.no _ (by omega) q)
        · exact q
      rcases Nat.lt_or_ge (L - 1) i with q | q
      · obtain ⟨_, as, bs, e1, e2⟩ := List.find?_eq_some_iff_append.mp e
        have hr : List.range 26 = as ++ i :: bs := e1
        have hl : as.length = i := by
          have h4 : (as ++ i :: bs)[as.length]? = some i := by simp
          rw [← hr] at h4
          have h5 := (List.getElem?_eq_some_iff.mp h4).1
          rw [List.length_range] at h5
          rw [List.getElem?_range h5] at h4
          exact Option.some.inj h4
        have h6 : L - 1 ∈ as := by
          have h7 : (List.range 26)[L - 1]? = some (L - 1) := List.getElem?_range (by omega)
          rw [hr, List.getElem?_append_left (by omega)] at h7
          exact List.mem_of_getElem? h7
        have := e2 _ h6
        rw [hp] at this
        cases this
      · omega
  rw [this]
  exact h
def orb (φ : Nat → Nat) (s : Nat) : List Nat := (List.range (ringLen φ s)).map fun i => pw φ i s
/-- the circles from each of the marbles on that is not yet seen -/
def cir (φ : Nat → Nat) : List Nat → List Nat → List (List Nat)
  | [], _ => []
  | s :: r, seen => if s ∈ seen then cir φ r seen else orb φ s :: cir φ r (seen ++ orb φ s)
theorem onto_nxt {f : Nat → Nat} {A B : List Nat} (T : Two f A B) : Onto (nxt A B) (mb A) :=
  ⟨fun c hc => by rw [T.nxt hc]; exact T.onto.mem c hc, fun c hc d hd e => T.onto.inj c hc d hd (by rw [← T.nxt hc, ← T.nxt hd]; exact e)⟩
end TM
namespace TR
open PySem PySem.Spec PyProof.Rows L2 TM TK TB TP TH TU
/-- y = {k: v for x in xs} on one line, y a local -/
theorem sw_dict {kx vx : Expr} {gs : List Comprehension} {scope : Scope} {pos py : Pos} {y : Str} {l : Nat} {env : Env} (h1 : env.scope.kind = .function) (h2 : env.scope.names.lookup y = some .local) (h3 : (py.line == pos.line) = true)
    (h4 : (scope.names.any fun (n, k) => n == y && (k == .local || k == .cell)) = false) : swapsWith (.DictComp kx vx gs scope pos) (some (.Name y py)) l env = pure true := by
  have k1 : env.kindOf y = some .local := h2
  have k2 : env.blockKind = .function := by
    unfold Env.blockKind
    rw [h1]
    rfl
  unfold swapsWith
  simp only [k2, k1, h4, Expr.pos, h3]
  rfl
theorem ps_setDc {X : Cx} {i : Nat} {y : Str} {py : Pos} {kx vx tg iter : Expr} {ifs : List Expr} {scope : Scope} {own : List (Str × Nat)} {pos spos : Pos} {wi : TI} {g : TG} {tt : TT} {tk tv : TE} (hc : X.calm = true) (hN : X.N.Nodup) (hy : X.N[i]? = some y) (hyl : X.env.scope.names.lookup y = some .local)
    (hsw : swapsWith (.DictComp kx vx [⟨tg, iter, ifs, 0⟩] scope pos) (some (.Name y py)) spos.line X.env = pure true) (hi : PI X tg iter wi) (ok : BlkOk X.N X.env.scope scope own)
    (hg : ∀ (s : Shared) (H : Hp) (C : Addr) (cl : List (Str × Addr)) (fp : List Addr), PG (X.blk s H scope (compEnvC scope cl C X.env) fp) tg g) (ht : ∀ (s : Shared) (H : Hp) (C : Addr) (cl : List (Str × Addr)) (fp : List Addr), PTs (X.blk s H scope (compEnvC scope cl C X.env) fp) ifs tt)
    (hk : ∀ (s : Shared) (H : Hp) (C : Addr) (cl : List (Str × Addr)) (fp : List Addr), PE (X.blk s H scope (compEnvC scope cl C X.env) fp) kx tk)
    (he : ∀ (s : Shared) (H : Hp) (C : Addr) (cl : List (Str × Addr)) (fp : List Addr), PE (X.blk s H scope (compEnvC scope cl C X.env) fp) vx tv) (hs : ∀ x, foldedSetIterable iter X.env x = pure x := by intro _; rfl) :
    PS X (.Assign [.Name y py] (.DictComp kx vx [⟨tg, iter, ifs, 0⟩] scope pos) spos) (tAsg (tDc wi g tt tk tv (own.map (·.2))) (gName i)) := by
  refine ⟨fun pins s σ H D I h => ?_⟩
  rw [exec_Assign_Name_used _ _ _ _ hsw]
  refine wpAny_bind (wpAny_standAt (wpAny_bind ?_))
  have h' : tDc wi g tt tk tv (own.map (·.2)) σ H (fun x H1 => gName i x σ H1 D.nx) := h
  show wpAny _ X.A (do let _ ← comprehension (.DictComp kx vx [⟨tg, iter, ifs, 0⟩] scope pos) scope X.env (firstIterPos [⟨tg, iter, ifs, 0⟩] pos) newDict false (eval iter X.env) (some (assign (.Name y py) X.env))) _ _ s
  refine wpAny_bind (thn (dc_core (Qf := fun _ s' => SP X pins D .next s') hc hN I hi ok hg ht hk he hs h' fun L C s' m H' I' q hns f => ?_) fun _ s' hq => wpAny_pure (wpAny_pure hq))
  show wpAny _ _ (assign (.Name y py) X.env (.ref L)) _ _ _
  refine wpAny_assign_Name (store_ok2 (v := V.ref L) I' hN hy (.inl hyl) rfl (fun s2 I2 ⟨a, sb, ha⟩ => ?_) (.inr hyl))
  obtain ⟨a0, a1, _, a3, a4, a5⟩ := f
  have haC : C ≠ a := ha.elim (fun z => by rw [z]; exact a1) fun z e => a4 y a z e.symm
  exact ⟨m, hns.sameBut sb haC, fun h3 sb3 => ⟨_, H', I2.turned (t' := s2.toks) (fun b o hb e => (sb3.2 b hb).trans e) a0 a1 a3 a4 a5, q⟩⟩
section
variable {X : Cx}
theorem dc_it {J : It} {N : Nat} {G : Hp → Prop} {Y : Nat → Hp → V → Hp → Prop} {g : TG} {tt : TT} {tk tv : TE} {vs : List Nat} {σ : L2.St} {H1 : Hp} {D : Addr} {Qd : Hp → Prop} (Wk : Walk J N G Y) (Pv : Nat → Hp → Prop) (h0 : Pv 0 (upd H1 D (.dK []))) (hl : ∀ i H, i ≤ N → Pv i H → G H)
    (hs : ∀ i x H H', i < N → Pv i H → Y i H x H' → g x (wipe σ vs) H' fun σ2 H2 => wipe σ2 vs = wipe σ vs ∧ tt σ2 H2 fun b H3 =>
      if b = true then tk σ2 H3 fun y H4 => tv σ2 H4 fun z H5 => ∃ kvs k, y = kV k ∧ H5 D = some (.dK kvs) ∧ kvs.length < sizeLine ∧ Pv (i + 1) (upd H5 D (.dK (putK kvs k z))) else Pv (i + 1) H3) (hd : ∀ H, Pv N H → Qd H) :
    ∃ W : Nat → Nat → Hp → Prop, (∃ m, W 0 m (upd H1 D (.dK []))) ∧ ∀ i m H, W i m H →
      (J.stop i H ∧ Qd H) ∨ (J.go i H ∧ ∃ Nx : Hp → Prop, (∀ H', Nx H' → ∃ m', m' < m ∧ W (i + 1) m' H') ∧ ∀ x H', J.yld i H x H' → g x (wipe σ vs) H' fun σ2 H2 => wipe σ2 vs = wipe σ vs ∧ tt σ2 H2 fun b H3 =>
        if b = true then tk σ2 H3 fun y H4 => tv σ2 H4 fun z H5 => ∃ kvs k, y = kV k ∧ H5 D = some (.dK kvs) ∧ kvs.length < sizeLine ∧ Nx (upd H5 D (.dK (putK kvs k z))) else Nx H3) := by
  refine ⟨fun i m H => m = N - i ∧ i ≤ N ∧ Pv i H, ⟨N, by simp, Nat.zero_le _, h0⟩, ?_⟩
  rintro i m H ⟨rfl, hi, p⟩
  rcases Nat.lt_or_ge i N with q | q
  · exact .inr ⟨Wk.goes i H q (hl i H hi p), Pv (i + 1), fun H' p' => ⟨N - (i + 1), by omega, rfl, q, p'⟩, fun x H' y => hs i x H H' q p (Wk.yields i H x H' q (hl i H hi p) y)⟩
  · have : i = N := by omega
    subst this
    exact .inl ⟨Wk.stops H (hl i H hi p), hd H p⟩
end
section
variable {P : Program} {w_ : World} {K : PySem.W.Frag} {mg : Str → Option Value} {base : Heap} {C D CP CU fRs fCl fCf fAt pM gM : Addr} {n : Nat} {fdM fdCf fdAt : FuncData}
abbrev NCi : List Str := ["tray", "word", "first", "second", "followers", "marble", "found", "seen", "start", "circle"]
theorem scCi : FnScope NCi ["tray", "word"] (defScope sCircles) := ⟨rfl, rfl, rfl, by decide +kernel, rfl, by decide +kernel, by decide +kernel⟩
def strL (o : List Nat) : V := .str (S o)
def spCi (K : PySem.W.Frag) (C D : Addr) : Sp := fun vs H Q _ => ∃ (p q : Addr) (h w : Nat) (g : Grid) (t : List Nat), vs = [.ref p, .ref q] ∧ TrayAt K D H p g ∧ VG h w g ∧ WordAt C H q t ∧
  ∀ H' l, Same H H' → H l = none → H' l = some (.lst ((cir (nxt (tilts h w t g).flatten (tilts h w t (tilts h w t g)).flatten) (srt (mb (tilts h w t g).flatten)) []).map strL)) → Q (.ref l) H'
theorem let_shaped {c : Nat} (h : 97 ≤ c ∧ c < 123) : SeqAt.shaped (.str (S [c])) = true := by
  have all : ∀ k : Fin 26, SeqAt.shaped (.str (S [97 + k.1])) = true := by decide +kernel
  have := all ⟨c - 97, by omega⟩
  rw [show 97 + (c - 97) = c by omega] at this
  exact this
theorem str_eqv (a b : Nat) : PyData.eqv (.str (S [a])) (.str (S [b])) = decide (a = b) := by
  by_cases q : a = b
  · subst q
    simp [PyData.eqv]
  · rw [decide_eq_false q]
    simp only [PyData.eqv]
    exact beq_eq_false_iff_ne.mpr fun z => q (by simpa using S_inj z)
theorem ok_ci {f : Addr} {fd : FuncData} (F : Fun K "circles" "circles" sCircles f fd) (b : Binds K fd ["tray", "word"] []) (hset : mg "set" = none) (hDC : D ≠ C) (CT : ClsT K mg D)
    (sf : PySem.W.selfFirst K D = true) (NO : NoOp K C Operator.RShift.info.2) (hs : PySem.W.findIn K (.ref D) (PySem.dunder Operator.RShift.info.2) = some (some (.ref fRs))) (hf : PySem.W.isFn K (.ref fRs) = true) (GRs : FnRn n P w_ K mg base CX0 5 fRs (spRs K C D))
    (PM : PropOf K D "marbles" pM gM) (GM : FnOk P w_ K mg base CX0 1 gM fdM ["self"] (spMb K D)) (bM : Binds K fdM ["self"] [])
    (CO : StX.CallO K D fCl) (GC : FnR P w_ K mg base (L2.CX P w_) 4 fCl (spCl K D CU))
    (MA : Meth K D "at" fAt) (GA : FnOk P w_ K mg base (L2.CX P w_) 4 fAt fdAt ["self", "place"] (spAt K D CP)) (bA : Binds K fdAt ["self", "place"] [])
    (GF : FnOk P w_ K mg base CX0 1 fCf fdCf ["start", "followers"] (spCf K)) (kF : PySem.W.keepIn K (.ref fCf) = true) (bF : Binds K fdCf ["start", "followers"] []) (mF : mg "_circle_from" = some (.ref fCf)) :
    FnRn n P w_ K mg base CX0 6 f (spCi K C D) := by
  refine fn_n F b scCi (fun vs H Q E h => ?_) fun cdv A outer s H vs Q E hr h => ?_
  · obtain ⟨p, q, h, w, g, t, rfl, _⟩ := h
    rfl
  · obtain ⟨p, q, h, w, g, t, rfl, T0, hV, W0, k⟩ := h
    have nd := scCi.nd
    refine ⟨_, pssn_cons (psn_set (i := 2) nd rfl (.inr rfl) (pen_op (op_twoN hDC sf NO hs hf GRs hr pass0) (PE.up (pv 0)) (PE.up (pv 1))))
      (pssn_cons (psn_set (i := 3) nd rfl (.inr rfl) (pen_op (op_twoN hDC sf NO hs hf GRs hr pass0) (PE.up (pv 2)) (PE.up (pv 1))))
      (pssn_cons (PS.up (ps_setDc (i := 4) (own := [("marble", 5)]) (g := gName 5) (tt := tYes) rfl nd rfl rfl (sw_dict rfl rfl rfl (by decide +kernel)) (pi_str (pe_prop (pv 2) CT.cl PM GM (hr.mono (by decide)) bM .nil pass0 rfl)) (blkOk_by (N := NCi) (sc := defScope sCircles) (by decide +kernel)) (fun _ _ _ _ _ => pg_name (i := 5) nd rfl (.inl rfl)) (fun _ _ _ _ _ => pts_nil)
          (fun _ _ _ _ _ => pv 5) (fun _ _ _ _ _ => pe_meth (pv 3) CT.cl MA GA (hr.mono (by decide)) bA .nil passL (pa_cons (pe_callO (pv 2) CO GC (hr.mono (by decide)) passL (pa_cons (pv 5) pa_nil)) pa_nil))))
      (pssn_cons (PS.up (ps_set (i := 6) nd rfl (.inl rfl) (pe_lst pa_nil)))
      (pssn_cons (PS.up (ps_set (i := 7) nd rfl (.inl rfl) (pe_callTy0 cr_set0K (by rfl) hset (by decide +kernel))))
      (pssn_cons (PS.up (ps_for PassesOwn.never rfl (pi_str (pe_prop (pv 2) CT.cl PM GM (hr.mono (by decide)) bM .nil pass0 rfl)) (pg_name (i := 8) nd rfl (.inl rfl))
        (pss_cons (ps_if (pt_cmpR or_sinK (pv 8) (pv 7) (by rfl)) (pss_one ps_continue) pss_nil)
        (pss_cons (ps_set (i := 9) nd rfl (.inl rfl) (pe_call GF (hr.mono (by decide)) rfl mF kF bF .nil pass0 (pa_cons (pv 8) (pa_cons (pv 4) pa_nil))))
        (pss_cons (ps_for PassesOwn.never rfl (pi_list (pv 9)) (pg_name (i := 5) nd rfl (.inl rfl)) (pss_one (ps_expr (pe_saddK (pv 7) (pa_cons (pv 5) pa_nil)))))
        (pss_one (ps_expr (pe_bm PySem.F.plainAttrs_list PySem.F.slot_list_append PySem.F.type_list_append mt_append (pv 6) (pa_cons (pe_join pe_str (pv 9)) pa_nil)))))))))
      (pssn_one (PS.up (ps_ret (pv 6))))))))), ?_⟩
    obtain ⟨dp, ap, hp, hSp⟩ := id T0
    obtain ⟨dq, hq⟩ := id W0
    have V1 := VG.tilts t hV
    have V2 := VG.tilts t V1
    refine ⟨_, rfl, _, rfl, p, dp, _, q, dq, _, rfl, rfl, hp, hq, p, q, h, w, g, t, rfl, T0, hV, W0, fun H1 p1 sm1 ht1 => ?_⟩
    obtain ⟨d1, a1, hp1, hS1⟩ := id ht1
    refine ⟨_, rfl, _, rfl, p1, d1, _, q, dq, _, rfl, rfl, hp1, sm1 _ _ hq, p1, q, h, w, _, t, rfl, ht1, V1, W0.same sm1, fun H2 p2 sm2 ht2 => ?_⟩
    have ht1' := ht1.same sm2
    obtain ⟨d1', a1', hp1', hS1'⟩ := id ht1'
    obtain ⟨d2, a2, hp2, hS2⟩ := id ht2
    have sm02 := sm1.trans sm2
    obtain ⟨f0, sg0, hf0⟩ := turn_sig hV.rc V1.nd
    have hT : Two f0 (tilts h w t g).flatten (tilts h w t (tilts h w t g)).flatten := ⟨sg0, by rw [hf0, rel_flat], V1.nd, (like_tilts t V1.rc).pm⟩
    have hM := mb_let V1
    have h26 : (srt (mb (tilts h w t g).flatten)).length ≤ 26 := by
      rw [(srt_perm _).length_eq]
      exact mb_26 V1
    have hBr : (tilts h w t (tilts h w t g)).flatten = (tilts h w t (tilts h w t g)).flatten := rfl
    generalize hG2 : tilts h w t (tilts h w t g) = G2 at *
    generalize hG1 : tilts h w t g = G1 at *
    have R1 := V1.rc
    have R2 := V2.rc
    have hcS : ∀ {c i : Nat}, (srt (mb G1.flatten))[i]? = some c → c ∈ mb G1.flatten := fun e => mem_srt.mp (List.mem_of_getElem? e)
    have ndS : (srt (mb G1.flatten)).Nodup := (srt_perm _).nodup_iff.mpr V1.nd
    refine ⟨_, rfl, p1, d1', _, rfl, hp1', p1, h, w, _, rfl, ht1', V1, fun H3 sm3 => ⟨_, rfl, fun D_ hD => ?_⟩⟩
    refine dc_it (walk_str (z := S (srt (mb G1.flatten)))) (fun i H4 => Same H3 H4 ∧ H4 D_ = some (.dK (((srt (mb G1.flatten)).take i).map fun m => (Sum.inr (S [m]), sg (nxt G1.flatten G2.flatten m)))))
      ⟨same_new hD, upd_same⟩ (fun _ _ _ _ => True.intro) ?_ ?_
    · rintro i x H4 H5 hi ⟨sm4, hDk⟩ ⟨rfl, c, hc, rfl⟩
      rw [S_at] at hc
      have hcM := hcS hc
      have c46 : c ≠ 46 := (mem_mb.mp hcM).2
      have hcA := idx_at (mem_mb.mp hcM).1
      have s23 := sm3.trans sm4
      have T1 := ht1'.same s23
      have T2 := ht2.same s23
      obtain ⟨e1, b1, g1, _⟩ := id T1
      obtain ⟨e2, b2, g2, _⟩ := id T2
      refine ⟨rfl, _, rfl, _, rfl, p2, e2, _, rfl, g2, rfl, ?_⟩
      refine ⟨_, rfl, p1, rfl, _, rfl, ⟨e1, _, g1⟩, p1, _, h, w, _, rfl, T1, V1, .inl ⟨c, G1.flatten.idxOf c, rfl, c46, hcA.2, fun H6 q1 sm6 hq1 hq1' => ?_⟩⟩
      have hl2 : G2.flatten.length = G1.flatten.length := hT.len
      obtain ⟨r1, c1, ec1⟩ := at_flat R2 (show G1.flatten.idxOf c < G2.flatten.length by rw [hl2]; exact hcA.1)
      have evl : cell G2 (G1.flatten.idxOf c / w) (G1.flatten.idxOf c % w) = nxt G1.flatten G2.flatten c := by
        show _ = G2.flatten.getD (G1.flatten.idxOf c) 46
        rw [List.getD_eq_getElem?_getD, ec1]
        rfl
      have nM : nxt G1.flatten G2.flatten c ≠ 46 := (mem_mb.mp ((onto_nxt hT).mem c hcM)).2
      generalize hrr : G1.flatten.idxOf c / w = rr at r1 evl
      generalize hcc : G1.flatten.idxOf c % w = cc at c1 evl
      have ep : plV w (G1.flatten.idxOf c) = [V.int (rr : Nat), V.int (cc : Nat)] := by rw [← hrr, ← hcc]; rfl
      replace hq1' : H6 q1 = some (.tup (plV w (G1.flatten.idxOf c))) := hq1'
      rw [ep] at hq1'
      have eat : atV G2 rr cc = sg (nxt G1.flatten G2.flatten c) := by
        have hrow := getD_at (show rr < G2.length by rw [R2.1]; exact r1)
        have hlw : (G2.getD rr []).length = w := getD_len R2 r1
        unfold atV
        unfold cell at evl
        generalize G2.getD rr [] = row at hlw evl
        have e3 : row.getD cc 46 = row.getD cc 0 := by
          rw [List.getD_eq_getElem?_getD, List.getD_eq_getElem?_getD, List.getElem?_eq_getElem (show cc < row.length by omega)]
          rfl
        rw [e3, evl, if_neg nM]
      refine ⟨p2, .ref q1, h, w, _, rfl, T2.same sm6, V2, .inl ⟨q1, rr, cc, rfl, SqT.of hq1', r1, c1, ?_⟩⟩
      have hD6 := sm6 _ _ hDk
      have take1 : (srt (mb G1.flatten)).take (i + 1) = (srt (mb G1.flatten)).take i ++ [c] := by rw [List.take_add_one, hc]; rfl
      have cnew : c ∉ (srt (mb G1.flatten)).take i := fun hm => by
        obtain ⟨j, hj⟩ := List.mem_iff_getElem?.mp hm
        rw [List.getElem?_take] at hj
        split at hj
        · rename_i hji
          have nd := List.pairwise_iff_getElem.mp ndS
          obtain ⟨l1, z1⟩ := List.getElem?_eq_some_iff.mp hj
          obtain ⟨l2, z2⟩ := List.getElem?_eq_some_iff.mp hc
          exact nd j i l1 l2 hji (z1.trans z2.symm)
        · cases hj
      refine ⟨_, .inr (S [c]), rfl, hD6, ?_, same_put (sm4.trans sm6) hD, ?_⟩
      · rw [List.length_map, List.length_take]
        show _ < 16777216
        omega
      · rw [upd_same, putK_new _ (valV_no fun m hm e => cnew (by rw [← one_inj.mp e]; exact hm)), take1, List.map_append, eat]
        rfl
    rintro H4 ⟨sm4, hDk⟩
    rw [S_size, List.take_length] at hDk
    -- found, seen
    refine ⟨by show 0 ≤ sizeLine; decide, fun l hl => ?_⟩
    have sA : Same H4 (upd H4 l (.lst [])) := same_new hl
    have hlA : upd H4 l (.lst []) l = some (.lst []) := upd_same
    generalize upd H4 l (.lst []) = H5 at sA hlA
    refine ⟨rfl, fun z hz => ?_⟩
    have hlz : l ≠ z := ne_of_none hlA hz
    have sB : Same H4 (upd H5 z (SetK P w_ z (fun _ => false) 0)) := same_put sA (sA.free hz)
    have hlB : (upd H5 z (SetK P w_ z (fun _ => false) 0)) l = some (.lst []) := by rw [upd_ne hlz]; exact hlA
    have hzB : (upd H5 z (SetK P w_ z (fun _ => false) 0)) z = some (SetK P w_ z (fun _ => false) 0) := upd_same
    have hz4 : H4 z = none := sA.free hz
    have smB := (sm3.trans sm4).trans sB
    have T1 := ht1'.same smB
    obtain ⟨e1, b1, g1, _⟩ := id T1
    refine ⟨_, rfl, p1, e1, _, rfl, g1, p1, h, w, _, rfl, T1, V1, fun H7 sm7 => ⟨_, rfl, ?_⟩⟩
    refine for_it (walk_str (z := S (srt (mb G1.flatten)))) (fun i σ H8 => ∃ v5 v8 v9 fs seen N Z, σ = [some (.ref p), some (.ref q), some (.ref p1), some (.ref p2), some (.ref D_), v5, some (.ref l), some (.ref z), v8, v9] ∧ Same H4 H8 ∧ H8 l = some (.lst (fs.map strL)) ∧ fs.length ≤ i ∧
        fs ++ cir (nxt G1.flatten G2.flatten) ((srt (mb G1.flatten)).drop i) seen = cir (nxt G1.flatten G2.flatten) (srt (mb G1.flatten)) [] ∧ H8 z = some (SetK P w_ z Z N) ∧ (∀ c : Nat, Z (.inr (S [c])) = decide (c ∈ seen)) ∧ N ≤ i * 26)
      ⟨_, none, none, [], [], 0, _, rfl, sB.trans sm7, (show H7 l = some (HO.lst (([] : List (List Nat)).map strL)) from sm7 _ _ hlB), Nat.le_refl _, rfl, sm7 _ _ hzB, fun c => by simp, by omega⟩ (fun _ _ _ _ _ => True.intro) ?_ ?_
    · rintro i x σ H8 H9 hi ⟨v5, v8, v9, fs, seen, N, Z, rfl, sm8, hl8, hfl, hfs, hz8, hZ, hN⟩ ⟨rfl, c, hc, rfl⟩
      rw [S_at] at hc
      have hcM := hcS hc
      have hi26 : i < 26 := by
        have := (List.getElem?_eq_some_iff.mp hc).1
        omega
      have edrop : (srt (mb G1.flatten)).drop i = c :: (srt (mb G1.flatten)).drop (i + 1) := by
        obtain ⟨h1, h2⟩ := List.getElem?_eq_some_iff.mp hc
        rw [List.drop_eq_getElem_cons h1, h2]
      rw [edrop] at hfs
      refine ⟨_, rfl, _, rfl, .inr (S [c]), z, Z, N, rfl, rfl, hz8, _, rfl, ?_⟩
      rw [show (if false = true then !Z (.inr (S [c])) else Z (.inr (S [c]))) = decide (c ∈ seen) from hZ c]
      by_cases hin : c ∈ seen
      · rw [decide_eq_true hin]
        refine iteT ⟨_, _, _, fs, seen, N, Z, rfl, sm8, hl8, by omega, ?_, hz8, hZ, by omega⟩
        rw [← hfs]
        conv => rhs; unfold cir
        rw [if_pos hin]
      · rw [decide_eq_false hin]
        refine iteF ?_
        obtain ⟨L0, L26, hL0⟩ := ring_ex (onto_nxt hT) hM hcM
        have hL := ring_len hL0 L26
        have L26' : ringLen (nxt G1.flatten G2.flatten) c ≤ 26 := by rw [hL.uniq hL0]; exact L26
        have inM : ∀ j, pw (nxt G1.flatten G2.flatten) j c ∈ mb G1.flatten := pw_mem (onto_nxt hT).mem hcM
        refine ⟨_, rfl, _, rfl, sg c, D_, fun j => sg (pw (nxt G1.flatten G2.flatten) j c), fun j => .str (S [pw (nxt G1.flatten G2.flatten) j c]), ringLen (nxt G1.flatten G2.flatten) c, rfl, rfl, hL.one, by omega, fun j hj => ?_, fun j hj => ⟨fun H' s' => .str _, let_shaped (hM _ (inM j))⟩, fun j j1 jL => ?_, fun H10 lc sm10 hlc hlc' => ?_⟩
        · have e := DGet.k (k := Sum.inr (S [pw (nxt G1.flatten G2.flatten) j c])) (sm8 _ _ hDk)
          rw [valV_at (f := fun m => (Sum.inr (S [m]) : Key)) (v := fun m => sg (nxt G1.flatten G2.flatten m)) (mem_srt.mpr (inM j)) (fun a ha y => one_inj.mp y)] at e
          exact e
        · rw [str_eqv]
          refine decide_eq_decide.mpr ⟨fun y => ?_, fun y => by subst y; rw [hL.back]; rfl⟩
          exact Classical.byContradiction fun n => hL.no j j1 (by omega) y
        have eorb : ((List.range (ringLen (nxt G1.flatten G2.flatten) c)).map fun j => sg (pw (nxt G1.flatten G2.flatten) j c)) = (orb (nxt G1.flatten G2.flatten) c).map sg := by
          unfold orb
          rw [List.map_map]
          rfl
        have lorb : (orb (nxt G1.flatten G2.flatten) c).length = ringLen (nxt G1.flatten G2.flatten) c := by
          unfold orb
          rw [List.length_map, List.length_range]
        rw [eorb] at hlc'
        generalize horb : orb (nxt G1.flatten G2.flatten) c = ob at hlc' lorb
        have sm10' := sm8.trans sm10
        have hl10 := sm10 _ _ hl8
        have hz10 := sm10 _ _ hz8
        have lcl : lc ≠ l := fun y => by rw [y, hl8] at hlc; cases hlc
        have lcz : lc ≠ z := fun y => by rw [y, hz8] at hlc; cases hlc
        refine ⟨_, rfl, lc, rfl, ⟨_, SqL.of hlc'⟩, for_list (K := K) (a := lc) (xs := ob.map sg) (fun j σ H11 => ∃ v5 N Z, σ = [some (.ref p), some (.ref q), some (.ref p1), some (.ref p2), some (.ref D_), v5, some (.ref l), some (.ref z), some (sg c), some (.ref lc)] ∧ Same H4 H11 ∧ H11 l = some (.lst (fs.map strL)) ∧ H11 lc = some (.lst (ob.map sg)) ∧ H11 z = some (SetK P w_ z Z N) ∧ (∀ c : Nat, Z (.inr (S [c])) = decide (c ∈ seen ++ ob.take j)) ∧ N ≤ i * 26 + j)
          ⟨_, N, Z, rfl, sm10', hl10, hlc', hz10, fun c => by rw [List.take_zero, List.append_nil]; exact hZ c, by omega⟩ (fun j σ H11 _ ⟨_, _, _, _, _, _, y, _⟩ => SqL.of y) ?_ ?_⟩
        · rintro j x σ H11 hj ⟨v5, N, Z, rfl, sm11, hl11, hlc11, hz11, hZ, hN⟩
          obtain ⟨m, hm, rfl⟩ := at_map hj
          have hjl := (List.getElem?_eq_some_iff.mp hm).1
          have zl : l ≠ z := hlz
          refine ⟨_, rfl, ⟨z, Z, N, rfl, hz11⟩, _, rfl, z, .inr (S [m]), Z, N, rfl, rfl, hz11, ?_, ?_⟩
          · show _ < 4096
            omega
          refine ⟨_, _, _, rfl, same_put sm11 hz4, by rw [upd_ne zl]; exact hl11, by rw [upd_ne lcz]; exact hlc11, upd_same, fun d => ?_, ?_⟩
          · have et : ob.take (j + 1) = ob.take j ++ [m] := by rw [List.take_add_one, hm]; rfl
            rw [et, ← List.append_assoc]
            show (Z (.inr (S [d])) || decide ((Sum.inr (S [d]) : Key) = .inr (S [m]))) = _
            rw [hZ d]
            by_cases q1 : d = m
            · subst q1
              simp
            · rw [show decide ((Sum.inr (S [d]) : Key) = .inr (S [m])) = false from decide_eq_false fun y => q1 (one_inj.mp y), Bool.or_false]
              simp [q1]
          · split <;> omega
        · rintro σ H11 ⟨v5, N, Z, rfl, sm11, hl11, hlc11, hz11, hZ, hN⟩
          rw [List.length_map] at hN
          rw [List.length_map, List.take_length] at hZ
          refine ⟨_, rfl, .inl ⟨rfl, _, SqL.of hl11⟩, ⟨_, rfl⟩, _, rfl, _, lc, ob.map fun c => S [c], rfl, rfl, .inl ?_, ?_, l, _, _, rfl, rfl, hl11, ?_, ?_⟩
          · rw [List.map_map]
            exact SqL.of hlc11
          · rw [sum_ones, List.length_map]
            show _ + _ * 0 ≤ 16777216
            omega
          · rw [List.length_map]
            show _ < 16777216
            omega
          rw [join_signs]
          refine ⟨_, _, _, fs ++ [ob], seen ++ ob, N, Z, rfl, same_put sm11 (sA.free hz |> fun _ => hl), ?_, by rw [List.length_append]; simp; omega, ?_, by rw [upd_ne hlz.symm]; exact hz11, hZ, by omega⟩
          · rw [upd_same, List.map_append]
            rfl
          · rw [← hfs, List.append_assoc]
            conv => rhs; unfold cir
            rw [if_neg hin, horb]
            rfl
    · rintro σ H8 ⟨v5, v8, v9, fs, seen, N, Z, rfl, sm8, hl8, hfl, hfs, hz8, hZ, hN⟩
      rw [S_size, List.drop_length] at hfs
      have e2 : fs = cir (nxt G1.flatten G2.flatten) (srt (mb G1.flatten)) [] := by
        rw [← hfs]
        simp [cir]
      rw [e2] at hl8
      exact ⟨_, rfl, k _ l (((sm02.trans sm3).trans sm4).trans sm8) (((sm02.trans sm3).trans sm4).free hl) hl8⟩
end
end TR
end
section
set_option Elab.async false
set_option maxRecDepth 100000
set_option linter.all false
namespace TM
/-- the circles are apart from each other -/
theorem cir_ok {φ : Nat → Nat} {M : List Nat} (O : Onto φ M) (hM : ∀ c ∈ M, 97 ≤ c ∧ c < 123) : ∀ (r seen : List Nat), (∀ s ∈ r, s ∈ M) → (∀ c ∈ seen, c ∈ M) → (∀ c ∈ seen, φ c ∈ seen) → seen.Nodup →
    (seen ++ (cir φ r seen).flatten).Nodup ∧ ∀ c ∈ (cir φ r seen).flatten, c ∈ M
  | [], seen, _, _, _, nd => by simpa [cir] using nd
  | s :: r, seen, hr, hs, cl, nd => by
    have hsM := hr s List.mem_cons_self
    have hr' : ∀ s ∈ r, s ∈ M := fun x hx => hr x (List.mem_cons_of_mem _ hx)
    unfold cir
    split
    · exact cir_ok O hM r seen hr' hs cl nd
    · rename_i hn
      obtain ⟨L0, L26, hL0⟩ := ring_ex O hM hsM
      have hL := ring_len hL0 L26
      have clp : ∀ n c, c ∈ seen → pw φ n c ∈ seen := fun n c hc => by
        induction n with
        | zero => exact hc
        | succ n ih => exact cl _ ih
      have mo : ∀ c, c ∈ orb φ s ↔ ∃ i, i < ringLen φ s ∧ pw φ i s = c := fun c => by
        unfold orb
        rw [List.mem_map]
        exact ⟨fun ⟨i, hi, e⟩ => ⟨i, List.mem_range.mp hi, e⟩, fun ⟨i, hi, e⟩ => ⟨i, List.mem_range.mpr hi, e⟩⟩
      have oM : ∀ c ∈ orb φ s, c ∈ M := fun c hc => by
        obtain ⟨i, _, rfl⟩ := (mo c).mp hc
        exact pw_mem O.mem hsM i
      have on : (orb φ s).Nodup := by
        unfold orb
        refine List.pairwise_map.mpr ((List.pairwise_lt_range (n := ringLen φ s)).imp_of_mem fun {a b} ha hb hab e => ?_)
        have := Ring.step O hsM hL (List.mem_range.mp ha) (List.mem_range.mp hb) e
        omega
      have nd2 : (seen ++ orb φ s).Nodup := by
        rw [List.nodup_append]
        refine ⟨nd, on, fun a ha b hb e => ?_⟩
        subst e
        obtain ⟨i, hi, e⟩ := (mo a).mp hb
        refine hn ?_
        have h1 := clp (ringLen φ s - i) a ha
        rw [← e, ← pw_add, show ringLen φ s - i + i = ringLen φ s by omega, hL.back] at h1
        exact h1
      have cl2 : ∀ c ∈ seen ++ orb φ s, φ c ∈ seen ++ orb φ s := fun c hc => by
        rcases List.mem_append.mp hc with h | h
        · exact List.mem_append_left _ (cl c h)
        · refine List.mem_append_right _ ?_
          obtain ⟨i, hi, rfl⟩ := (mo c).mp h
          refine (mo _).mpr ?_
          rcases Nat.lt_or_ge (i + 1) (ringLen φ s) with q | q
          · exact ⟨i + 1, q, rfl⟩
          · refine ⟨0, hL.one, ?_⟩
            have : i + 1 = ringLen φ s := by omega
            show s = φ (pw φ i s)
            have e : φ (pw φ i s) = pw φ (i + 1) s := rfl
            rw [e, this, hL.back]
      have hs2 : ∀ c ∈ seen ++ orb φ s, c ∈ M := fun c hc => by
        rcases List.mem_append.mp hc with h | h
        · exact hs c h
        · exact oM c h
      obtain ⟨i1, i2⟩ := cir_ok O hM r (seen ++ orb φ s) hr' hs2 cl2 nd2
      refine ⟨by rw [List.flatten_cons, ← List.append_assoc]; exact i1, fun c hc => ?_⟩
      rw [List.flatten_cons] at hc
      rcases List.mem_append.mp hc with h | h
      · exact oM c h
      · exact i2 c h
theorem cir_26 {φ : Nat → Nat} {M : List Nat} (O : Onto φ M) (hM : ∀ c ∈ M, 97 ≤ c ∧ c < 123) (r : List Nat) (hr : ∀ s ∈ r, s ∈ M) : ((cir φ r []).map List.length).sum ≤ 26 := by
  obtain ⟨h1, h2⟩ := cir_ok O hM r [] hr (fun _ h => by cases h) (fun _ h => by cases h) List.nodup_nil
  rw [← List.length_flatten]
  exact few 26 _ (by simpa using h1) fun c hc => hM c (h2 c hc)
def backN (cs : List (List Nat)) : Nat := cs.foldl (fun a o => Nat.lcm a o.length) 1
theorem two_pow (n : Nat) : n ≤ 2 ^ n := Nat.le_of_lt Nat.lt_two_pow_self
theorem lcm_le {a b k m : Nat} (ha : 1 ≤ a) (hak : a ≤ 2 ^ k) (hbm : b ≤ 2 ^ m) (hb : 1 ≤ b) : 1 ≤ Nat.lcm a b ∧ Nat.lcm a b ≤ 2 ^ (k + m) := by
  refine ⟨Nat.lcm_pos ha hb, ?_⟩
  have h1 : Nat.lcm a b ≤ a * b := Nat.le_of_dvd (Nat.mul_pos ha hb) (Nat.lcm_dvd_mul a b)
  rw [Nat.pow_add]
  exact Nat.le_trans h1 (Nat.mul_le_mul hak hbm)
theorem orb_one {φ : Nat → Nat} {s : Nat} : 1 ≤ (orb φ s).length := by
  unfold orb ringLen
  rw [List.length_map, List.length_range]
  omega
theorem cir_one {φ : Nat → Nat} : ∀ (r seen : List Nat), ∀ o ∈ cir φ r seen, 1 ≤ o.length
  | [], _, o, h => by cases h
  | s :: r, seen, o, h => by
    unfold cir at h
    split at h
    · exact cir_one r seen o h
    · rcases List.mem_cons.mp h with rfl | h
      · exact orb_one
      · exact cir_one r _ o h
end TM
namespace TR
open PySem PySem.Spec PyProof.Rows L2 TM TK TB TP TH TU
section
variable {X : Cx} {n : Nat}
/-- a walk whose source wants n tokens out -/
def PIn (n : Nat) (X : Cx) (tg iter : Expr) (wi : TI) : Prop := ∀ (pins : List (Addr × Obj)) (s : Shared) (σ : L2.St) (H : Hp) (R : It → Hp → Prop), n ≤ s.toks → Inv X pins σ H s → wi σ H R →
  wpAny (model X.prog X.w) X.A (eval iter X.env) (fun v s1 => wpAny (model X.prog X.w) X.A (pyIter v) (PIE X pins σ tg R) X.xe s1) X.xe s
theorem pin_list {tg l : Expr} {tl : TE} (hl : PEn n X l tl) : PIn n X tg l (iList X.K tl) := by
  intro pins s σ H R hn I h
  refine thn (hl pins s σ H _ hn I h) fun v s1 z => ?_
  obtain ⟨x, H1, I1, r1, a, rfl, ⟨xs, hq⟩, q⟩ := z
  cases r1
  obtain ⟨its, rv, pp, hz⟩ := I1.list hq
  have new : H1 s1.heap.objs.size = none := I1.hok.fresh (Nat.le_refl _)
  refine wpAny_pyIter_list pp.isList ⟨s1.heap.objs.size, [s1.heap.objs.size], _, _, H1, rfl, I1.kept (t' := s1.toks) fun b o e => Heap.get?_push_of_some _ e, turn_list a _, ⟨_, Heap.get?_push_size _ rfl, rfl, rfl⟩, fun b hb => ?_, q⟩
  rw [List.mem_singleton.mp hb]
  exact I1.fpOk (Nat.le_refl _) new
theorem psn_forN {tg iter : Expr} {body : List Stmt} {wi : TI} {g : TG} {tb : TS} {pos : Pos} (hp : PassesOwn (model X.prog X.w) X.A X.env X.xe) (hc : X.calm = true) (hi : PIn n X tg iter wi) (hg : PG X tg g) (hb : PSsn n X body tb)
    (hs : ∀ x, foldedSetIterable iter X.env x = pure x := by intro _; rfl) : PSn n X (.For tg iter body [] pos) (tFor wi g tb) := by
  intro pins s σ H D hn I h
  refine wpAny_For (thnN hn (hi pins s σ H _ hn I h) fun v s1 hn1 h1 => thnN hn1 h1 fun itv s2 hn2 h2 => ?_) hs
  obtain ⟨it, fp, tn, J, H2, rfl, I2, T, st2, f2, W, ⟨m0, w0⟩, turn⟩ := h2
  refine codeAny_forLoop_any (fun m s' => n ≤ s'.toks ∧ ∃ i σ' H', Inv X pins σ' H' s' ∧ tn i s'.heap ∧ (∀ b ∈ fp, H' b = none) ∧ W i m σ' H') ?_ m0 ⟨hn2, 0, σ, H2, I2, st2, fun b hb => (f2 b hb).1, w0⟩
  rintro m s3 ⟨hn3, i, σ3, H3, I3, st3, fr3, w3⟩
  have ok3 : ∀ {H' : Hp}, (∀ b ∈ fp, H' b = none) → ∀ b ∈ fp, FpOk X pins H' b := fun z b hb => ⟨z b hb, (f2 b hb).2⟩
  rcases turn i m σ3 H3 w3 with ⟨stop, qn⟩ | ⟨go, N, hN, step⟩
  · refine wpAny_passesOwn hp (thn (T.done X rfl rfl rfl hc i pins s3 σ3 H3 X.xe I3 (ok3 fr3) st3 stop) fun r s4 hr => ?_)
    obtain ⟨rfl, I4⟩ := hr
    exact wpAny_execs_nil ⟨σ3, H3, I4, qn⟩
  · refine wpAny_passesOwn hp (thnN hn3 (T.item X rfl rfl rfl hc i pins s3 σ3 H3 X.xe I3 (ok3 fr3) st3 go) fun r s4 hn4 hr => ?_)
    obtain ⟨u, rfl, h4⟩ := hr
    refine wpAny_passesOwn hp (thnN hn4 h4 fun _ s5 hn5 ⟨x, H5, I5, r5, y5, st5, fr5⟩ => ?_)
    have J5 := I5.pinned (ok3 fr5) (T.obj _ _ st5)
    refine wpAny_passesOwn hp (thnN hn5 (hg.run _ s5 σ3 H5 x u _ J5 r5 (step x H5 y5)) fun _ s6 hn6 ⟨σ6, H6, I6, q6⟩ => ?_)
    refine wpAny_passesOwn hp (thnN hn6 (hb _ s6 σ6 H6 _ hn6 I6 q6) fun f s7 hn7 q7 => ?_)
    have more : ∀ {σ7 : L2.St} {H7 : Hp}, Inv X (pins ++ pinsAt fp s5.heap) σ7 H7 s7 → N σ7 H7 → ∃ m', m' < m ∧ (n ≤ s7.toks ∧ ∃ i σ' H', Inv X pins σ' H' s7 ∧ tn i s7.heap ∧ (∀ b ∈ fp, H' b = none) ∧ W i m' σ' H') := fun {σ7 H7} I7 z => by
      obtain ⟨m', hm, w7⟩ := hN σ7 H7 z
      obtain ⟨t1, t2⟩ := turn_back T st5 I7
      exact ⟨m', hm, hn7, i + 1, σ7, H7, I7.unpinned, t1, t2, w7⟩
    cases f with
    | next => obtain ⟨σ7, H7, I7, z⟩ := q7; exact more I7 z
    | cont => obtain ⟨σ7, H7, I7, z⟩ := q7; exact more I7 z
    | brk => obtain ⟨σ7, H7, I7, z⟩ := q7; exact ⟨σ7, H7, I7.unpinned, z⟩
    | ret v => obtain ⟨x7, σ7, H7, I7, r7, z⟩ := q7; exact ⟨x7, σ7, H7, I7.unpinned, r7, z⟩
end
section
variable {X : Cx}
def rLcm : List V → Hp → VK → Prop := fun vs H Q => ∃ a b : Nat, vs = [.int a, .int b] ∧ a ≤ 2 ^ 40 ∧ b ≤ 2 ^ 20 ∧ Q (.int ((Nat.lcm a b : Nat) : Int)) H
theorem cr_lcm : CallR X (.builtin "math.lcm") rLcm := by
  intro pins s σ H vs us Q I r h
  obtain ⟨a, b, rfl, ha, hb, q⟩ := h
  obtain ⟨t, u, rfl⟩ := Vals.int2 r
  have e : (Nat.lcm 1 ((a : Nat) : Int).natAbs).lcm ((b : Nat) : Int).natAbs = Nat.lcm a b := by
    rw [Int.natAbs_natCast, Int.natAbs_natCast, Nat.lcm_one_left]
  have hl : Nat.lcm a b ≤ 2 ^ 60 := by
    rcases Nat.eq_zero_or_pos (Nat.lcm a b) with z | z
    · rw [z]; exact Nat.zero_le _
    · have h0 : 0 < a * b := by
        rcases Nat.eq_zero_or_pos (a * b) with y | y
        · rcases Nat.mul_eq_zero.mp y with y | y
          · rw [y, Nat.lcm_zero_left] at z; omega
          · rw [y, Nat.lcm_zero_right] at z; omega
        · exact y
      refine Nat.le_trans (Nat.le_of_dvd h0 (Nat.lcm_dvd_mul a b)) ?_
      exact Nat.le_trans (Nat.mul_le_mul ha hb) (by decide)
  refine PySem.W.mg_lcm (by rw [Int.natAbs_natCast]; omega) (by rw [Int.natAbs_natCast]; omega) ?_ ?_
  · rw [e, Int.natAbs_natCast]
    have h1 : (Nat.lcm a b).log2 ≤ 60 := by
      rcases Nat.eq_zero_or_pos (Nat.lcm a b) with z | z
      · rw [z]; decide
      · rcases Nat.lt_or_ge 60 (Nat.lcm a b).log2 with y | y
        · have := (Nat.le_log2 (by omega)).mp (show 61 ≤ (Nat.lcm a b).log2 by omega)
          omega
        · exact y
    exact Nat.lt_of_le_of_lt h1 (by decide)
  · rw [e]
    exact ⟨.int _, H, I.tok _, ⟨_, rfl⟩, q⟩
end
section
variable {P : Program} {w_ : World} {K : PySem.W.Frag} {mg : Str → Option Value} {base : Heap} {C D fCi : Addr} {n : Nat}
abbrev NBk : List Str := ["tray", "word", "rounds", "circle"]
theorem scBk : FnScope NBk ["tray", "word"] (defScope sBackAfter) := ⟨rfl, rfl, rfl, by decide +kernel, rfl, by decide +kernel, by decide +kernel⟩
/-- the circles between a first and a second round -/
def cirs (h w : Nat) (t : List Nat) (g : Grid) : List (List Nat) := cir (nxt (tilts h w t g).flatten (tilts h w t (tilts h w t g)).flatten) (srt (mb (tilts h w t g).flatten)) []
def spBk (K : PySem.W.Frag) (C D : Addr) : Sp := fun vs H Q _ => ∃ (p q : Addr) (h w : Nat) (g : Grid) (t : List Nat), vs = [.ref p, .ref q] ∧ TrayAt K D H p g ∧ VG h w g ∧ WordAt C H q t ∧
  ∀ H', Same H H' → Q (.int ((backN (cirs h w t g) : Nat) : Int)) H'
theorem ok_bk {f : Addr} {fd : FuncData} (F : Fun K "back_after" "back_after" sBackAfter f fd) (b : Binds K fd ["tray", "word"] []) (hlen : mg "len" = none) (hlcm : mg "lcm" = some (.builtin "math.lcm"))
    (GC : FnRn n P w_ K mg base CX0 6 fCi (spCi K C D)) (kC : PySem.W.keepIn K (.ref fCi) = true) (mC : mg "circles" = some (.ref fCi)) : FnRn n P w_ K mg base CX0 7 f (spBk K C D) := by
  refine fn_n F b scBk (fun vs H Q E h => ?_) fun cdv A outer s H vs Q E hr h => ?_
  · obtain ⟨p, q, h, w, g, t, rfl, _⟩ := h
    rfl
  · obtain ⟨p, q, h, w, g, t, rfl, T0, hV, W0, k⟩ := h
    have nd := scBk.nd
    refine ⟨_, pssn_cons (PS.up (ps_set (i := 2) nd rfl (.inl rfl) pe_int))
      (pssn_cons (psn_forN PassesOwn.never rfl (pin_list (pen_call GC hr rfl mC kC pass0 (pan_cons (PE.up (pv 0)) (pan_cons (PE.up (pv 1)) pan_nil)))) (pg_name (i := 3) nd rfl (.inl rfl))
        (pssn_one (PS.up (ps_set (i := 2) nd rfl (.inl rfl) (pe_callBfun cr_lcm rfl hlcm (pa_cons (pv 2) (pa_cons (pe_callB call_len_str (by rfl) hlen PySem.boot_len (pa_cons (pv 3) pa_nil)) pa_nil)))))))
      (pssn_one (PS.up (ps_ret (pv 2))))), ?_⟩
    have V1 := VG.tilts t hV
    obtain ⟨f0, sg0, hf0⟩ := turn_sig hV.rc V1.nd
    have hT : Two f0 (tilts h w t g).flatten (tilts h w t (tilts h w t g)).flatten := ⟨sg0, by rw [hf0, rel_flat], V1.nd, (like_tilts t V1.rc).pm⟩
    have h26 : ((cirs h w t g).map List.length).sum ≤ 26 := cir_26 (onto_nxt hT) (mb_let V1) _ fun s hs => mem_srt.mp hs
    have h1 : ∀ o ∈ cirs h w t g, 1 ≤ o.length := cir_one _ _
    refine ⟨_, rfl, _, rfl, p, q, h, w, g, t, rfl, T0, hV, W0, fun H1 l sm1 hl hl' => ?_⟩
    replace hl' : H1 l = some (.lst ((cirs h w t g).map strL)) := hl'
    generalize cirs h w t g = cs at k h26 h1 hl'
    refine ⟨l, rfl, ⟨_, SqL.of hl'⟩, for_list (K := K) (a := l) (xs := cs.map strL) (fun i σ H2 => ∃ v3, σ = [some (.ref p), some (.ref q), some (.int ((backN (cs.take i) : Nat) : Int)), v3] ∧ H2 = H1 ∧ 1 ≤ backN (cs.take i) ∧ backN (cs.take i) ≤ 2 ^ ((cs.take i).map List.length).sum)
      ⟨none, rfl, rfl, Nat.le_refl _, Nat.le_refl _⟩ (fun i σ H2 _ ⟨_, _, e, _⟩ => by rw [e]; exact SqL.of hl') ?_ ?_⟩
    · rintro i x σ H2 hi ⟨v3, rfl, rfl, b1, b2⟩
      obtain ⟨o, ho, rfl⟩ := at_map hi
      have et : cs.take (i + 1) = cs.take i ++ [o] := by rw [List.take_add_one, ho]; rfl
      have eb : backN (cs.take (i + 1)) = Nat.lcm (backN (cs.take i)) o.length := by
        rw [et]
        unfold backN
        rw [List.foldl_append]
        rfl
      have es : ((cs.take (i + 1)).map List.length).sum = ((cs.take i).map List.length).sum + o.length := by
        rw [et, List.map_append, List.sum_append]
        simp
      have tot : ((cs.take (i + 1)).map List.length).sum ≤ 26 := by
        have : cs = cs.take (i + 1) ++ cs.drop (i + 1) := (List.take_append_drop _ _).symm
        rw [this, List.map_append, List.sum_append] at h26
        omega
      have o1 := h1 o (List.mem_of_getElem? ho)
      have hp := lcm_le b1 b2 (two_pow o.length) o1
      have b40 : backN (cs.take i) ≤ 2 ^ 40 := Nat.le_trans b2 (Nat.pow_le_pow_right (by decide) (by omega))
      have sl : (S o).length ≤ sizeLine := by
        rw [S_len]
        show _ ≤ 16777216
        omega
      refine ⟨_, rfl, _, rfl, _, rfl, sl, _, _, rfl, b40, ?_, ?_⟩
      · rw [S_len]
        exact Nat.le_trans (show o.length ≤ 26 by omega) (by decide)
      · rw [S_len]
        refine ⟨some (strL o), ?_, rfl, by rw [eb]; exact hp.1, by rw [eb, es]; exact hp.2⟩
        rw [eb]
        rfl
    · rintro σ H2 ⟨v3, rfl, rfl, b1, b2⟩
      rw [List.length_map, List.take_length]
      exact ⟨_, rfl, k _ sm1⟩
end
end TR
end
namespace TR
end TR
namespace TR
end TR
namespace TR
end TR
section
set_option Elab.async false
set_option maxRecDepth 100000
set_option linter.all false
namespace TR
open PySem PySem.Spec PyProof.Rows L2 TM TK TB TP TH TU TW
section
variable {X : Cx} {n : Nat}
theorem pen_cmpR2 {op : CmpOp} {r : R2} {a b : Expr} {ta tb : TE} {pos : Pos} (ho : OpR X (compareOp op) r) (ha : PEn n X a ta) (hb : PEn n X b tb) (hm : behindInMarks op b = false) : PEn n X (.Compare a [op] [b] pos) (tOp r ta tb) := fun pins s σ H Q hn I h =>
  wpAny_Compare1 (thnN hn (ha pins s σ H _ hn I h) fun v s1 hn1 ⟨x, H1, I1, r1, q1⟩ => thn (hb pins s1 σ H1 _ hn1 I1 q1) fun u s2 ⟨y, H2, I2, r2, q2⟩ => ho pins s2 σ H2 x y v u Q I2 r1 r2 q2) hm
end
theorem two_of {h w : Nat} {t : List Nat} {g : Grid} (hV : VG h w g) : ∃ f0, Two f0 (tilts h w t g).flatten (tilts h w t (tilts h w t g)).flatten ∧ tilts h w t (tilts h w t g) = rel f0 (tilts h w t g) := by
  have V1 := VG.tilts t hV
  obtain ⟨f0, sg0, hf0⟩ := turn_sig hV.rc V1.nd
  exact ⟨f0, ⟨sg0, by rw [hf0, rel_flat], V1.nd, (like_tilts t V1.rc).pm⟩, hf0⟩
theorem cirs_26 {h w : Nat} {t : List Nat} {g : Grid} (hV : VG h w g) : ((cirs h w t g).map List.length).sum ≤ 26 := by
  obtain ⟨f0, hT, _⟩ := two_of (t := t) hV
  exact cir_26 (onto_nxt hT) (mb_let (VG.tilts t hV)) _ fun s hs => mem_srt.mp hs
theorem backN_pow : ∀ (cs : List (List Nat)) (a k : Nat), 1 ≤ a → a ≤ 2 ^ k → (∀ o ∈ cs, 1 ≤ o.length) → 1 ≤ cs.foldl (fun a o => Nat.lcm a o.length) a ∧ cs.foldl (fun a o => Nat.lcm a o.length) a ≤ 2 ^ (k + (cs.map List.length).sum)
  | [], a, k, h1, h2, _ => ⟨h1, h2⟩
  | o :: r, a, k, h1, h2, h => by
    have hp := lcm_le h1 h2 (two_pow o.length) (h o List.mem_cons_self)
    have := backN_pow r _ (k + o.length) hp.1 hp.2 fun x hx => h x (List.mem_cons_of_mem _ hx)
    rw [List.map_cons, List.sum_cons, ← Nat.add_assoc]
    exact this
theorem backN_ok {h w : Nat} {t : List Nat} {g : Grid} (hV : VG h w g) : 1 ≤ backN (cirs h w t g) ∧ backN (cirs h w t g) ≤ 2 ^ 26 := by
  have := backN_pow (cirs h w t g) 1 0 (Nat.le_refl _) (Nat.le_refl _) (cir_one _ _)
  refine ⟨this.1, Nat.le_trans this.2 (Nat.pow_le_pow_right (by decide) ?_)⟩
  have := cirs_26 (t := t) hV
  omega
section
variable {P : Program} {w_ : World} {K : PySem.W.Frag} {mg : Str → Option Value} {base : Heap} {C D CU fCl fTc fCm fAr fBk fTe : Addr} {n : Nat} {fdCm : FuncData}
theorem scCm : FnScope ["tray", "marble"] ["tray", "marble"] (defScope sCheckMarble) := ⟨rfl, rfl, rfl, by decide +kernel, rfl, by decide +kernel, by decide +kernel⟩
def spCm (K : PySem.W.Frag) (D : Addr) : Sp := fun vs H Q _ => ∃ (p : Addr) (c h w : Nat) (g : Grid), vs = [.ref p, sg c] ∧ TrayAt K D H p g ∧ VG h w g ∧ c ∈ mb g.flatten ∧ ∀ H', Same H H' → Q .non H'
theorem ok_cm {f : Addr} {fd : FuncData} (F : Fun K "check_marble" "check_marble" sCheckMarble f fd) (hs : PySem.W.findIn K (.ref D) "__contains__" = some (some (.ref fTc))) (hf : PySem.W.isFn K (.ref fTc) = true) (FC : FnR P w_ K mg base CX0 3 fTc (spTc K D)) :
    FnOk P w_ K mg base CX0 4 f fd ["tray", "marble"] (spCm K D) := by
  refine F.ok scCm (fun vs H Q E h => ?_) (fun cdv A outer s H vs Q E hr h => ?_)
  · obtain ⟨p, c, h, w, g, rfl, _⟩ := h
    rfl
  · obtain ⟨p, c, h, w, g, rfl, T0, hV, hm, k⟩ := h
    obtain ⟨dx, a, hp, hS⟩ := id T0
    refine ⟨_, pss_one (ps_if (pt_cmpR (op_notOwn hs hf FC (hr.mono (by decide)) pass0) (pv 1) (pv 0) (by rfl)) pss_never pss_nil), ?_⟩
    have hh : has g [c] = true := by
      show (true && decide (c ∈ mb g.flatten)) = true
      rw [decide_eq_true hm]
      rfl
    refine ⟨_, rfl, _, rfl, p, dx, _, rfl, hp, p, _, h, w, g, rfl, T0, hV, .inl ⟨[c], rfl, by show 1 ≤ 1000; decide, fun H1 sm => ?_⟩⟩
    rw [hh]
    exact ⟨true, rfl, _, rfl, iteF (k _ sm)⟩
/-- where a marble stands, as a place's tuple -/
def PlcAt (H : Hp) (q : Addr) (w : Nat) (g : Grid) (c : Nat) : Prop := H q = some (.tup (plV w (g.flatten.idxOf c)))
theorem call_ok {H : Hp} {p : Addr} {c h w : Nat} {g : Grid} {Q : VK} {E : XK} (T0 : TrayAt K D H p g) (hV : VG h w g) (hm : c ∈ mb g.flatten) (k : ∀ H' q, Same H H' → H q = none → PlcAt H' q w g c → Q (.ref q) H') : spCl K D CU [.ref p, sg c] H Q E := by
  have hc := mem_mb.mp hm
  exact ⟨p, _, h, w, g, rfl, T0, hV, .inl ⟨c, g.flatten.idxOf c, rfl, hc.2, (idx_at hc.1).2, fun H' q s hq e => k H' q s hq e⟩⟩
abbrev NMa : List Str := ["tray", "marble", "word", "times", "after"]
theorem scMa : FnScope NMa ["tray", "marble", "word", "times"] (defScope sMarbleAfter) := ⟨rfl, rfl, rfl, by decide +kernel, rfl, by decide +kernel, by decide +kernel⟩
def spMa (K : PySem.W.Frag) (C D : Addr) : Sp := fun vs H Q _ => ∃ (p q : Addr) (c h w k : Nat) (g : Grid) (t : List Nat), vs = [.ref p, sg c, .ref q, .int k] ∧ TrayAt K D H p g ∧ VG h w g ∧ WordAt C H q t ∧ c ∈ mb g.flatten ∧ k ≤ 10 ^ 18 ∧
  ∀ H' r, Same H H' → H r = none → PlcAt H' r w (rounds h w t k g) c → Q (.ref r) H'
theorem mb_rounds {h w : Nat} {t : List Nat} {g : Grid} (hV : VG h w g) : ∀ k, (mb (rounds h w t k g).flatten).Perm (mb g.flatten)
  | 0 => List.Perm.refl _
  | k + 1 => by
    have V := VG.rounds (t := t) k hV
    exact ((like_tilts t V.rc).pm).trans (mb_rounds hV k)
theorem ok_ma {f : Addr} {fd : FuncData} (F : Fun K "marble_after" "marble_after" sMarbleAfter f fd) (b : Binds K fd ["tray", "marble", "word", "times"] [])
    (GM : FnOk P w_ K mg base CX0 4 fCm fdCm ["tray", "marble"] (spCm K D)) (kM : PySem.W.keepIn K (.ref fCm) = true) (bM : Binds K fdCm ["tray", "marble"] []) (mM : mg "check_marble" = some (.ref fCm))
    (GA : FnRn n P w_ K mg base CX0 7 fAr (spAr K C D)) (kA : PySem.W.keepIn K (.ref fAr) = true) (mA : mg "after_rounds" = some (.ref fAr))
    (CO : StX.CallO K D fCl) (GC : FnR P w_ K mg base (L2.CX P w_) 4 fCl (spCl K D CU)) : FnRn n P w_ K mg base CX0 8 f (spMa K C D) := by
  refine fn_n F b scMa (fun vs H Q E h => ?_) fun cdv A outer s H vs Q E hr h => ?_
  · obtain ⟨p, q, c, h, w, k, g, t, rfl, _⟩ := h
    rfl
  · obtain ⟨p, q, c, h, w, k, g, t, rfl, T0, hV, W0, hm, hk, kk⟩ := h
    have nd := scMa.nd
    refine ⟨_, pssn_cons (PS.up (ps_expr (pe_call GM (hr.mono (by decide)) rfl mM kM bM .nil pass0 (pa_cons (pv 0) (pa_cons (pv 1) pa_nil)))))
      (pssn_cons (psn_set (i := 4) nd rfl (.inl rfl) (pen_call GA (hr.mono (by decide)) rfl mA kA pass0 (pan_cons (PE.up (pv 0)) (pan_cons (PE.up (pv 2)) (pan_cons (PE.up (pv 3)) pan_nil)))))
      (pssn_one (PS.up (ps_ret (pe_callO (pv 4) CO GC (hr.mono (by decide)) passL (pa_cons (pv 1) pa_nil)))))), ?_⟩
    refine ⟨_, rfl, _, rfl, p, c, h, w, g, rfl, T0, hV, hm, fun H1 s1 => ?_⟩
    refine ⟨_, rfl, _, rfl, _, rfl, p, q, h, w, k, g, t, rfl, T0.same s1, hV, W0.same s1, hk, fun H2 r s2 hr2 => ?_⟩
    have V2 := VG.rounds (t := t) k hV
    obtain ⟨dr, ar, er, _⟩ := id hr2
    refine ⟨_, rfl, r, rfl, _, rfl, ⟨dr, _, er⟩, call_ok hr2 V2 ((mb_rounds hV k).mem_iff.mpr hm) fun H3 r2 s3 h3 e3 => kk _ _ ((s1.trans s2).trans s3) ((s1.trans s2).free h3) e3⟩
abbrev NIb : List Str := ["tray", "word"]
theorem scIb : FnScope NIb ["tray", "word"] (defScope sIsBack) := ⟨rfl, rfl, rfl, by decide +kernel, rfl, by decide +kernel, by decide +kernel⟩
def spIb (K : PySem.W.Frag) (C D : Addr) : Sp := fun vs H Q _ => ∃ (p q : Addr) (h w : Nat) (g : Grid) (t : List Nat), vs = [.ref p, .ref q] ∧ TrayAt K D H p g ∧ VG h w g ∧ WordAt C H q t ∧
  ∀ H', Same H H' → Q (.bl (decide (rounds h w t (backN (cirs h w t g)) g = g))) H'
theorem ok_ib {f : Addr} {fd : FuncData} (F : Fun K "is_back" "is_back" sIsBack f fd) (b : Binds K fd ["tray", "word"] [])
    (GA : FnRn n P w_ K mg base CX0 7 fAr (spAr K C D)) (kA : PySem.W.keepIn K (.ref fAr) = true) (mA : mg "after_rounds" = some (.ref fAr))
    (GB : FnRn n P w_ K mg base CX0 7 fBk (spBk K C D)) (kB : PySem.W.keepIn K (.ref fBk) = true) (mB : mg "back_after" = some (.ref fBk))
    (hE : PySem.W.findIn K (.ref D) "__eq__" = some (some (.ref fTe))) (iE : PySem.W.isFn K (.ref fTe) = true) (GTe : FnR P w_ K mg base CX0 1 fTe (spTe K D)) : FnRn n P w_ K mg base CX0 8 f (spIb K C D) := by
  refine fn_n F b scIb (fun vs H Q E h => ?_) fun cdv A outer s H vs Q E hr h => ?_
  · obtain ⟨p, q, h, w, g, t, rfl, _⟩ := h
    rfl
  · obtain ⟨p, q, h, w, g, t, rfl, T0, hV, W0, k⟩ := h
    refine ⟨_, pssn_one (psn_ret (pen_cmpR2 (op_cmpOwn (op := .Eq) (fun _ _ => rfl) hE iE GTe (hr.mono (by decide)) pass0) (pen_call GA (hr.mono (by decide)) rfl mA kA pass0 (pan_cons (PE.up (pv 0)) (pan_cons (PE.up (pv 1)) (pan_cons (pen_call GB (hr.mono (by decide)) rfl mB kB pass0 (pan_cons (PE.up (pv 0)) (pan_cons (PE.up (pv 1)) pan_nil))) pan_nil)))) (PE.up (pv 0)) (nomark _))), ?_⟩
    have hb := backN_ok (t := t) hV
    refine ⟨_, rfl, _, rfl, _, rfl, _, rfl, p, q, h, w, g, t, rfl, T0, hV, W0, fun H1 s1 => ?_⟩
    refine ⟨p, q, h, w, _, g, t, rfl, T0.same s1, hV, W0.same s1, Nat.le_trans hb.2 (by decide), fun H2 r s2 hr2 => ?_⟩
    have s12 := s1.trans s2
    have T2 := T0.same s12
    obtain ⟨d1, a1, e1, _⟩ := id hr2
    obtain ⟨d2, a2, e2, _⟩ := id T2
    exact ⟨_, rfl, r, d1, _, rfl, e1, .inl ⟨p, d2, _, rfl, e2⟩, r, p, h, w, h, w, _, _, rfl, hr2, T2, VG.rounds _ hV, hV, k _ s12⟩
end
end TR
end
section
set_option Elab.async false
set_option maxRecDepth 100000
set_option linter.all false
namespace TR
open PySem PySem.Spec PyProof.Rows L2 TM TK TB TP TH TU TW
section
variable {f : Nat → Nat} {A B : List Nat}
theorem pw_same (T : Two f A B) {c : Nat} (hc : c ∈ mb A) : ∀ n, pw (TM.nxt A B) n c = pw f n c
  | 0 => rfl
  | n + 1 => by
    show TM.nxt A B (pw (TM.nxt A B) n c) = f (pw f n c)
    rw [pw_same T hc n]
    exact T.nxt (pw_mem T.onto.mem hc n)
end
section
variable {φ : Nat → Nat} {M : List Nat}
theorem ring_of (O : Onto φ M) (hM : ∀ c ∈ M, 97 ≤ c ∧ c < 123) {s : Nat} (hs : s ∈ M) : Ring φ s (ringLen φ s) := by
  obtain ⟨L, h1, h2⟩ := ring_ex O hM hs
  exact ring_len h2 h1
theorem orb_len (s : Nat) : (orb φ s).length = ringLen φ s := by
  unfold orb
  rw [List.length_map, List.length_range]
theorem orb_get {s i : Nat} (h : i < ringLen φ s) : (orb φ s)[i]? = some (pw φ i s) := by
  unfold orb
  rw [List.getElem?_map, List.getElem?_range h]
  rfl
theorem orb_mem {s c : Nat} (h : c ∈ orb φ s) : ∃ i, i < ringLen φ s ∧ pw φ i s = c := by
  obtain ⟨i, hi, e⟩ := List.mem_map.mp h
  exact ⟨i, List.mem_range.mp hi, e⟩
theorem orb_self (s : Nat) : s ∈ orb φ s := by
  have : (orb φ s)[0]? = some (pw φ 0 s) := orb_get (by unfold ringLen; omega)
  exact List.mem_of_getElem? this
theorem orb_M (O : Onto φ M) {s : Nat} (hs : s ∈ M) : ∀ c ∈ orb φ s, c ∈ M := fun c hc => by
  obtain ⟨i, _, rfl⟩ := orb_mem hc
  exact pw_mem O.mem hs i
/-- one turn of the circle leaves each of its marbles -/
theorem orb_turn (O : Onto φ M) (hM : ∀ c ∈ M, 97 ≤ c ∧ c < 123) {s c : Nat} (hs : s ∈ M) (hc : c ∈ orb φ s) : pw φ (ringLen φ s) c = c := by
  obtain ⟨i, _, rfl⟩ := orb_mem hc
  rw [← pw_add, Nat.add_comm, pw_add, (ring_of O hM hs).back]
theorem times_turn {c L : Nat} (h : pw φ L c = c) : ∀ k, pw φ (k * L) c = c
  | 0 => by rw [Nat.zero_mul]; rfl
  | k + 1 => by
    rw [Nat.succ_mul, Nat.add_comm, pw_add, times_turn h k]
    exact h
/-- only whole turns leave a circle's first marble -/
theorem turn_dvd (O : Onto φ M) (hM : ∀ c ∈ M, 97 ≤ c ∧ c < 123) {s n : Nat} (hs : s ∈ M) (h : pw φ n s = s) : ringLen φ s ∣ n := by
  have R := ring_of O hM hs
  have e := R.mod n
  rw [h] at e
  refine Nat.dvd_of_mod_eq_zero ?_
  refine Classical.byContradiction fun z => ?_
  exact R.no _ (by omega) (Nat.mod_lt _ R.one) e
theorem cir_cover : ∀ (r seen : List Nat), ∀ s ∈ r, s ∈ seen ∨ s ∈ (cir φ r seen).flatten
  | [], _, s, h => by cases h
  | x :: r, seen, s, h => by
    unfold cir
    split
    · next q =>
      rcases List.mem_cons.mp h with rfl | h
      · exact .inl q
      · exact cir_cover r seen s h
    · rcases List.mem_cons.mp h with rfl | h
      · exact .inr (List.mem_flatten.mpr ⟨_, List.mem_cons_self, orb_self s⟩)
      · rcases cir_cover r (seen ++ orb φ x) s h with q | q
        · rcases List.mem_append.mp q with q | q
          · exact .inl q
          · exact .inr (List.mem_flatten.mpr ⟨_, List.mem_cons_self, q⟩)
        · rw [List.flatten_cons]
          exact .inr (List.mem_append.mpr (.inr q))
theorem orb_closed (O : Onto φ M) (hM : ∀ c ∈ M, 97 ≤ c ∧ c < 123) {s : Nat} (hs : s ∈ M) : ∀ c ∈ orb φ s, φ c ∈ orb φ s := fun c hc => by
  obtain ⟨i, hi, rfl⟩ := orb_mem hc
  have R := ring_of O hM hs
  by_cases q : i + 1 < ringLen φ s
  · exact List.mem_of_getElem? (orb_get q)
  · have e : i + 1 = ringLen φ s := by omega
    have : φ (pw φ i s) = s := by
      have := R.back
      rw [← e] at this
      exact this
    rw [this]
    exact orb_self s
/-- each circle starts with its least marble, and they stand in order -/
theorem cir_order (O : Onto φ M) (hM : ∀ c ∈ M, 97 ≤ c ∧ c < 123) : ∀ (r seen : List Nat), (∀ s ∈ r, s ∈ M) → r.Pairwise (· < ·) → (∀ c ∈ seen, c ∈ M) → (∀ c ∈ seen, φ c ∈ seen) → (∀ c ∈ M, c ∉ r → c ∈ seen) →
    (∀ o ∈ cir φ r seen, ∃ s, s ∈ M ∧ s ∈ r ∧ o = orb φ s ∧ ∀ c ∈ o, s ≤ c) ∧ (cir φ r seen).Pairwise fun o o' => o.getD 0 0 < o'.getD 0 0
  | [], _, _, _, _, _, _ => ⟨fun o h => (by cases h), List.Pairwise.nil⟩
  | s :: r, seen, hr, up, hs, cl, rest => by
    obtain ⟨u1, u2⟩ := List.pairwise_cons.mp up
    have hr' := fun x hx => hr x (List.mem_cons_of_mem _ hx)
    have sM := hr s List.mem_cons_self
    unfold cir
    split
    · next q =>
      obtain ⟨i1, i2⟩ := cir_order O hM r seen hr' u2 hs cl fun c hc hn => by
        by_cases z : c = s
        · rw [z]
          exact q
        · exact rest c hc fun hm => by
            rcases List.mem_cons.mp hm with h | h
            · exact z h
            · exact hn h
      exact ⟨fun o ho => let ⟨x, h1, h2, h3⟩ := i1 o ho; ⟨x, h1, List.mem_cons_of_mem _ h2, h3⟩, i2⟩
    · next q =>
      have oM := orb_M O sM
      have oC := orb_closed O hM sM
      obtain ⟨i1, i2⟩ := cir_order O hM r (seen ++ orb φ s) hr' u2 (fun c hc => by
          rcases List.mem_append.mp hc with h | h
          · exact hs c h
          · exact oM c h) (fun c hc => by
          rcases List.mem_append.mp hc with h | h
          · exact List.mem_append.mpr (.inl (cl c h))
          · exact List.mem_append.mpr (.inr (oC c h))) fun c hc hn => by
        by_cases z : c = s
        · rw [z]
          exact List.mem_append.mpr (.inr (orb_self s))
        · exact List.mem_append.mpr (.inl (rest c hc fun hm => by
            rcases List.mem_cons.mp hm with h | h
            · exact z h
            · exact hn h))
      have head : ∀ x : Nat, (orb φ x).getD 0 0 = x := fun x => by
        have : (orb φ x)[0]? = some (pw φ 0 x) := orb_get (by unfold ringLen; omega)
        rw [List.getD_eq_getElem?_getD, this]
        rfl
      refine ⟨fun o ho => ?_, List.pairwise_cons.mpr ⟨fun o ho => ?_, i2⟩⟩
      · rcases List.mem_cons.mp ho with rfl | ho
        · refine ⟨s, sM, List.mem_cons_self, rfl, fun c hc => ?_⟩
          refine Classical.byContradiction fun z => q ?_
          have cs : c ∈ seen := rest c (oM c hc) fun hm => by
            rcases List.mem_cons.mp hm with h | h
            · omega
            · have := u1 c h
              omega
          obtain ⟨i, hi, e⟩ := orb_mem hc
          have R := ring_of O hM sM
          have := pw_mem cl cs (ringLen φ s - i)
          rw [← e, ← pw_add, show ringLen φ s - i + i = ringLen φ s by omega, R.back] at this
          exact this
        · obtain ⟨x, h1, h2, h3⟩ := i1 o ho
          exact ⟨x, h1, List.mem_cons_of_mem _ h2, h3⟩
      · obtain ⟨x, h1, h2, rfl, h3⟩ := i1 o ho
        rw [head, head]
        exact u1 x h2
end
end TR
end
section
set_option Elab.async false
set_option maxRecDepth 100000
set_option linter.all false
namespace TR
open PySem PySem.Spec PyProof.Rows L2 TM TK TB TP TH TU TW
theorem fold_dvd : ∀ (cs : List (List Nat)) (a : Nat), a ∣ cs.foldl (fun a o => Nat.lcm a o.length) a ∧ ∀ o ∈ cs, o.length ∣ cs.foldl (fun a o => Nat.lcm a o.length) a
  | [], a => ⟨Nat.dvd_refl _, fun o h => by cases h⟩
  | o :: r, a => by
    obtain ⟨h1, h2⟩ := fold_dvd r (Nat.lcm a o.length)
    refine ⟨Nat.dvd_trans (Nat.dvd_lcm_left a o.length) h1, fun x hx => ?_⟩
    rcases List.mem_cons.mp hx with rfl | hx
    · exact Nat.dvd_trans (Nat.dvd_lcm_right a x.length) h1
    · exact h2 x hx
theorem fold_of_dvd : ∀ (cs : List (List Nat)) (a m : Nat), a ∣ m → (∀ o ∈ cs, o.length ∣ m) → cs.foldl (fun a o => Nat.lcm a o.length) a ∣ m
  | [], a, m, h, _ => h
  | o :: r, a, m, h, hr => fold_of_dvd r _ m (Nat.lcm_dvd h (hr o List.mem_cons_self)) fun x hx => hr x (List.mem_cons_of_mem _ hx)
theorem dvd_backN {cs : List (List Nat)} {o : List Nat} (h : o ∈ cs) : o.length ∣ backN cs := (fold_dvd cs 1).2 o h
theorem backN_dvd {cs : List (List Nat)} {m : Nat} (h : ∀ o ∈ cs, o.length ∣ m) : backN cs ∣ m := fold_of_dvd cs 1 m (Nat.one_dvd _) h
section
variable {h w : Nat} {t : List Nat} {g : Grid}
theorem cir_facts (hV : VG h w g) : (∀ o ∈ cirs h w t g, ∃ s, s ∈ mb (tilts h w t g).flatten ∧ o = orb (TM.nxt (tilts h w t g).flatten (tilts h w t (tilts h w t g)).flatten) s ∧ ∀ c ∈ o, s ≤ c) ∧
    (cirs h w t g).Pairwise (fun o o' => o.getD 0 0 < o'.getD 0 0) ∧ (cirs h w t g).flatten.Perm (mb g.flatten) := by
  obtain ⟨f0, T, _⟩ := two_of (t := t) hV
  have V1 := VG.tilts t hV
  have O := onto_nxt T
  have hM := mb_let V1
  have pS := srt_perm (mb (tilts h w t g).flatten)
  have ndS : (srt (mb (tilts h w t g).flatten)).Nodup := pS.nodup_iff.mpr T.nd
  have up : (srt (mb (tilts h w t g).flatten)).Pairwise (· < ·) := (srt_up _).and ndS |>.imp fun {a b} hh => Nat.lt_of_le_of_ne hh.1 hh.2
  obtain ⟨c1, c2⟩ := cir_order O hM (srt (mb (tilts h w t g).flatten)) [] (fun s hs => mem_srt.mp hs) up (fun _ h => by cases h) (fun _ h => by cases h) fun c hc hn => absurd (mem_srt.mpr hc) hn
  refine ⟨fun o ho => let ⟨s, a, _, b, c⟩ := c1 o ho; ⟨s, a, b, c⟩, c2, ?_⟩
  obtain ⟨n1, n2⟩ := cir_ok O hM (srt (mb (tilts h w t g).flatten)) [] (fun s hs => mem_srt.mp hs) (fun _ h => by cases h) (fun _ h => by cases h) List.nodup_nil
  rw [List.nil_append] at n1
  refine ((List.perm_ext_iff_of_nodup n1 T.nd).mpr fun c => ⟨n2 c, fun hc => ?_⟩).trans (like_tilts t hV.rc).pm
  rcases cir_cover (φ := TM.nxt (tilts h w t g).flatten (tilts h w t (tilts h w t g)).flatten) (srt (mb (tilts h w t g).flatten)) [] c (mem_srt.mpr hc) with h | h
  · cases h
  · exact h
/-- back_after rounds leave each marble -/
theorem back_turn (hV : VG h w g) {f0 : Nat → Nat} (T : Two f0 (tilts h w t g).flatten (tilts h w t (tilts h w t g)).flatten) {c : Nat} (hc : c ∈ mb (tilts h w t g).flatten) : pw f0 (backN (cirs h w t g)) c = c := by
  have O := onto_nxt T
  have hM := mb_let (VG.tilts t hV)
  obtain ⟨c1, _, c3⟩ := cir_facts (t := t) hV
  have : c ∈ (cirs h w t g).flatten := c3.mem_iff.mpr ((like_tilts t hV.rc).pm.mem_iff.mp hc)
  obtain ⟨o, ho, hco⟩ := List.mem_flatten.mp this
  obtain ⟨k, hk⟩ := dvd_backN ho
  obtain ⟨s, sM, rfl, _⟩ := c1 o ho
  rw [orb_len] at hk
  rw [hk, Nat.mul_comm, ← pw_same T hc]
  exact times_turn (orb_turn O hM sM hco) k
theorem back_after_same (hV : VG h w g) (n : Nat) : rounds h w t (n + 1 + backN (cirs h w t g)) g = rounds h w t (n + 1) g := by
  obtain ⟨f0, T, e0⟩ := two_of (t := t) hV
  rw [show n + 1 + backN (cirs h w t g) = (n + backN (cirs h w t g)) + 1 by omega, rounds_pw T.s e0 (n + backN (cirs h w t g)), rounds_pw T.s e0 n]
  refine List.map_congr_left fun l hl => List.map_congr_left fun c hc => ?_
  rw [pw_add]
  by_cases z : c = 46
  · rw [z, pw_46 T.s.z]
  · rw [back_turn hV T (mem_mb.mpr ⟨List.mem_flatten.mpr ⟨l, hl, hc⟩, z⟩)]
theorem back_least (hV : VG h w g) {m : Nat} (e : rounds h w t (1 + m) g = rounds h w t 1 g) : backN (cirs h w t g) ∣ m := by
  obtain ⟨f0, T, e0⟩ := two_of (t := t) hV
  have O := onto_nxt T
  have hM := mb_let (VG.tilts t hV)
  rw [Nat.add_comm, rounds_pw T.s e0] at e
  have e2 : (tilts h w t g).flatten.map (pw f0 m) = (tilts h w t g).flatten := by
    have := congrArg List.flatten e
    rw [rel_flat] at this
    exact this
  refine backN_dvd fun o ho => ?_
  obtain ⟨s, sM, rfl, _⟩ := (cir_facts hV).1 o ho
  rw [orb_len]
  refine turn_dvd O hM sM ?_
  rw [pw_same T sM]
  have h1 := (idx_at (mem_mb.mp sM).1).2
  have h2 : ((tilts h w t g).flatten.map (pw f0 m))[(tilts h w t g).flatten.idxOf s]? = some (pw f0 m s) := by rw [List.getElem?_map, h1]; rfl
  rw [e2, h1] at h2
  exact (Option.some.inj h2).symm
theorem sum_ones : ∀ l : List Nat, (∀ x ∈ l, 1 ≤ x) → (l.sum = l.length ↔ ∀ x ∈ l, x = 1) ∧ l.length ≤ l.sum
  | [], _ => ⟨⟨fun _ x h => (nomatch h), fun _ => rfl⟩, Nat.le_refl _⟩
  | a :: l, h => by
    have ha := h a List.mem_cons_self
    obtain ⟨i1, i2⟩ := sum_ones l fun x hx => h x (List.mem_cons_of_mem _ hx)
    rw [List.sum_cons, List.length_cons]
    refine ⟨⟨fun e x hx => ?_, fun e => ?_⟩, by omega⟩
    · rcases List.mem_cons.mp hx with rfl | hx
      · omega
      · exact i1.mp (by omega) x hx
    · have := i1.mpr fun x hx => e x (List.mem_cons_of_mem _ hx)
      have := e a List.mem_cons_self
      omega
end
end TR
end
section
set_option Elab.async false
set_option maxRecDepth 100000
set_option linter.all false
namespace TR
open PySem PySem.Spec PyProof.Rows L2 TM TK TB TP TH TU TW
def mkv (M : List Nat) (qa : Nat → Addr) : List (Key × V) := M.map fun m => (Sum.inr (S [m]), V.ref (qa m))
def MdAt (H : Hp) (e : Addr) (w : Nat) (pos : Nat → Nat) (M : List Nat) (qa : Nat → Addr) : Prop := H e = some (.dK (mkv M qa)) ∧ ∀ m ∈ M, H (qa m) = some (.tup (plV w (pos m)))
theorem MdAt.same {H H' : Hp} {e : Addr} {w : Nat} {pos : Nat → Nat} {M : List Nat} {qa : Nat → Addr} (h : MdAt H e w pos M qa) (s : Same H H') : MdAt H' e w pos M qa := ⟨s _ _ h.1, fun m hm => s _ _ (h.2 m hm)⟩
theorem key_inj {a b : Nat} (e : (Sum.inr (S [a]) : Key) = Sum.inr (S [b])) : a = b := by
  injection e with e
  injection e with e
  injection e with e
  injection e
end TR
end
section
set_option Elab.async false
set_option maxRecDepth 100000
set_option linter.all false
namespace TR
open PySem PySem.Spec PyProof.Rows L2 TM TX TK TB TP TH TU TW
section
variable {P : Program} {w_ : World} {K : PySem.W.Frag} {mg : Str → Option Value} {base : Heap} {C D CN CU fN fU fTc fCn fCm fAr fCl : Addr} {fdN fdU fdCn fdCm fdAr : FuncData}
def spCnX (K : PySem.W.Frag) (CN : Addr) : Sp := fun vs H Q E => ∃ (x : V) (ty : String) (bb bi : Bool), vs = [x, .int ((10 ^ 18 : Nat) : Int)] ∧ TA.Kn K H x ty bb bi ∧ TA.isN x ((10 ^ 18 : Nat) : Int) = false ∧ E (.ref CN) none H
theorem ok_cnX {f : Addr} {fd : FuncData} (F : Fun K "check_number" "check_number" sCheckNumber f fd) (GN : FnOk P w_ K mg base CX0 1 fN fdN ["value", "limit"] (TA.spNum K)) (kN : PySem.W.keepIn K (.ref fN) = true) (bN : Binds K fdN ["value", "limit"] []) (mN : mg "is_number" = some (.ref fN)) (X : TA.ExN K mg "InvalidNumber" CN) :
    FnOk P w_ K mg base (L2.CX P w_) 2 f fd ["value", "limit"] (spCnX K CN) := by
  refine F.okX scCn (fun vs H Q E h => ?_) (fun cdv A outer s H vs Q E hr h => ?_)
  · obtain ⟨x, ty, bb, bi, rfl, _⟩ := h
    rfl
  · obtain ⟨x, ty, bb, bi, rfl, N, e, k⟩ := h
    refine ⟨_, pss_one (ps_if (pt_not (pt_val (pe_call GN hr rfl mN kN bN .nil pass0 (pa_cons (pv 0) (pa_cons (pv 1) pa_nil)))))
        (pss_one (ps_raise rfl (takes_of rfl rfl rfl rfl) (SkE.pmk_own1 PySem.F.excBase_ValueError X.q X.g X.k (raises_own X.s X.t) rfl (pe_joined (.cons pe_str (.cons (pe_fmt (pv 1)) .nil)))))) pss_nil), ?_⟩
    refine ⟨_, rfl, _, rfl, x, _, ty, bb, bi, rfl, N, ?_⟩
    rw [e]
    refine ⟨false, rfl, iteT ?_⟩
    refine ⟨_, rfl, (by decide +kernel), _, rfl, .inr ⟨_, rfl, (by decide +kernel), _, rfl, (by decide +kernel), k⟩⟩
def spCmX (K : PySem.W.Frag) (D CU : Addr) : Sp := fun vs H Q E => ∃ (p : Addr) (x : V) (h w : Nat) (g : Grid), vs = [.ref p, x] ∧ TrayAt K D H p g ∧ VG h w g ∧
  ((∃ c, x = sg c ∧ c ∈ mb g.flatten ∧ ∀ H', Same H H' → Q .non H') ∨
    (((∃ u : List Nat, x = .str (S u) ∧ u.length ≤ 1000 ∧ has g u = false) ∨ NoText K H x) ∧ ∀ H' d, Same H H' → H d = none → H' d = some (.xd [("marble", x)]) → E (.ref CU) (some d) H'))
theorem ok_cmX {f : Addr} {fd : FuncData} (F : Fun K "check_marble" "check_marble" sCheckMarble f fd) (hs : PySem.W.findIn K (.ref D) "__contains__" = some (some (.ref fTc))) (hf : PySem.W.isFn K (.ref fTc) = true) (FC : FnR P w_ K mg base CX0 3 fTc (spTc K D))
    (X : ExcT K mg "UnknownMarble" CU fU) (GU : FnOk P w_ K mg base CX0 1 fU fdU ["self", "marble"] (spUm CU)) (bU : Binds K fdU ["self", "marble"] []) :
    FnOk P w_ K mg base (L2.CX P w_) 4 f fd ["tray", "marble"] (spCmX K D CU) := by
  refine F.okX scCm (fun vs H Q E h => ?_) (fun cdv A outer s H vs Q E hr h => ?_)
  · obtain ⟨p, x, h, w, g, rfl, _⟩ := h
    rfl
  · obtain ⟨p, x, h, w, g, rfl, T0, hV, hx⟩ := h
    obtain ⟨dx, a, hp, hS⟩ := id T0
    refine ⟨_, pss_one (ps_if (pt_cmpR (op_notOwn hs hf FC (hr.mono (by decide)) pass0) (pv 1) (pv 0) (by rfl)) (pss_one (ps_raise rfl (takes_of rfl rfl rfl rfl) (pmk_oex X.ox X.iE X.tE GU (hr.mono (by decide)) bU .nil pass0 rfl X.mgE (pa_cons (pv 1) pa_nil)))) pss_nil), ?_⟩
    refine ⟨_, rfl, _, rfl, p, dx, _, rfl, hp, p, _, h, w, g, rfl, T0, hV, ?_⟩
    rcases hx with ⟨c, rfl, hm, k⟩ | ⟨hn, k⟩
    · have hh : has g [c] = true := by
        show (true && decide (c ∈ mb g.flatten)) = true
        rw [decide_eq_true hm]
        rfl
      refine .inl ⟨[c], rfl, by show 1 ≤ 1000; decide, fun H1 sm => ?_⟩
      rw [hh]
      exact ⟨true, rfl, _, rfl, iteF (k _ sm)⟩
    · have raised : ∀ {H1 : Hp}, Same H H1 → ∀ a, H1 a = none → spUm CU [.ref a, x] (upd H1 a (exo a CU none)) (fun v H2 => v = .non ∧ ∃ (d : Addr) (fs : List (Str × V)), H2 a = some (exo a CU (some d)) ∧ H2 d = some (exd d fs) ∧ H1 d = none ∧ E (.ref CU) (some d) (upd (del H2 a) d (.xd fs))) (fun _ _ _ => False) := by
        intro H1 sm a ha
        refine ⟨a, x, rfl, upd_same, fun d hd hne => ⟨rfl, d, _, upd_same, by rw [upd_ne hne, upd_same], ?_, ?_⟩⟩
        · rw [upd_ne hne] at hd
          exact hd
        · rw [upd_ne hne] at hd
          refine k _ _ (fun b o e => ?_) (sm.free hd) upd_same
          have e1 := sm b o e
          have nd := ne_of_none e1 hd
          have na := ne_of_none e1 ha
          rw [upd_ne nd, del_ne na, upd_ne na, upd_ne nd, upd_ne na]
          exact e1
      rcases hn with ⟨u, rfl, hu, hh⟩ | hn
      · refine .inl ⟨u, rfl, hu, fun H1 sm => ?_⟩
        rw [hh]
        exact ⟨false, rfl, _, rfl, iteT ⟨_, rfl, by show 1 ≤ 1000; decide, raised sm⟩⟩
      · exact .inr ⟨hn, fun H1 sm => ⟨false, rfl, _, rfl, iteT ⟨_, rfl, by show 1 ≤ 1000; decide, raised sm⟩⟩⟩
def spArX (K : PySem.W.Frag) (CN : Addr) : Sp := fun vs H Q E => ∃ (a b x : V) (ty : String) (bb bi : Bool), vs = [a, b, x] ∧ TA.Kn K H x ty bb bi ∧ TA.isN x ((10 ^ 18 : Nat) : Int) = false ∧ E (.ref CN) none H
theorem ok_arX {f : Addr} {fd : FuncData} (F : Fun K "after_rounds" "after_rounds" sAfterRounds f fd) (T : TxtR K mg)
    (GN : FnOk P w_ K mg base (L2.CX P w_) 2 fCn fdCn ["value", "limit"] (spCnX K CN)) (kN : PySem.W.keepIn K (.ref fCn) = true) (bN : Binds K fdCn ["value", "limit"] []) (mN : mg "check_number" = some (.ref fCn)) :
    FnOk P w_ K mg base (L2.CX P w_) 3 f fd ["tray", "word", "times"] (spArX K CN) := by
  refine F.okX scAr (fun vs H Q E h => ?_) (fun cdv A outer s H vs Q E hr h => ?_)
  · obtain ⟨a, b, x, ty, bb, bi, rfl, _⟩ := h
    rfl
  · obtain ⟨a, b, x, ty, bb, bi, rfl, N, e, k⟩ := h
    refine ⟨_, pss_cons (ps_expr (pe_call GN (hr.mono (by decide)) rfl mN kN bN .nil (passX (takes_of rfl rfl rfl rfl)) (pa_cons (pv 2) (pa_cons (C8.pe_gc rfl T.mr) pa_nil)))) pss_never, ?_⟩
    exact ⟨_, rfl, x, ty, bb, bi, rfl, N, e, k⟩
def spMaX (K : PySem.W.Frag) (D CU CN : Addr) : Sp := fun vs H Q E => ∃ (p : Addr) (x b y : V) (h w : Nat) (g : Grid), vs = [.ref p, x, b, y] ∧ TrayAt K D H p g ∧ VG h w g ∧
  ((∃ c, x = sg c ∧ c ∈ mb g.flatten ∧ ∃ (ty : String) (bb bi : Bool), (∀ H', Same H H' → TA.Kn K H' y ty bb bi) ∧ TA.isN y ((10 ^ 18 : Nat) : Int) = false ∧ ∀ H', Same H H' → E (.ref CN) none H') ∨
    (((∃ u : List Nat, x = .str (S u) ∧ u.length ≤ 1000 ∧ has g u = false) ∨ NoText K H x) ∧ ∀ H' d, Same H H' → H d = none → H' d = some (.xd [("marble", x)]) → E (.ref CU) (some d) H'))
theorem ok_maX {f : Addr} {fd : FuncData} (F : Fun K "marble_after" "marble_after" sMarbleAfter f fd)
    (GM : FnOk P w_ K mg base (L2.CX P w_) 4 fCm fdCm ["tray", "marble"] (spCmX K D CU)) (kM : PySem.W.keepIn K (.ref fCm) = true) (bM : Binds K fdCm ["tray", "marble"] []) (mM : mg "check_marble" = some (.ref fCm))
    (GA : FnOk P w_ K mg base (L2.CX P w_) 3 fAr fdAr ["tray", "word", "times"] (spArX K CN)) (kA : PySem.W.keepIn K (.ref fAr) = true) (bA : Binds K fdAr ["tray", "word", "times"] []) (mA : mg "after_rounds" = some (.ref fAr)) :
    FnOk P w_ K mg base (L2.CX P w_) 5 f fd ["tray", "marble", "word", "times"] (spMaX K D CU CN) := by
  refine F.okX scMa (fun vs H Q E h => ?_) (fun cdv A outer s H vs Q E hr h => ?_)
  · obtain ⟨p, x, b, y, h, w, g, rfl, _⟩ := h
    rfl
  · obtain ⟨p, x, b, y, h, w, g, rfl, T0, hV, hx⟩ := h
    have nd := scMa.nd
    refine ⟨_, pss_cons (ps_expr (pe_call GM (hr.mono (by decide)) rfl mM kM bM .nil (passX (takes_of rfl rfl rfl rfl)) (pa_cons (pv 0) (pa_cons (pv 1) pa_nil))))
      (pss_cons (ps_set (i := 4) nd rfl (.inl rfl) (pe_call GA (hr.mono (by decide)) rfl mA kA bA .nil (passX (takes_of rfl rfl rfl rfl)) (pa_cons (pv 0) (pa_cons (pv 2) (pa_cons (pv 3) pa_nil))))) pss_never), ?_⟩
    refine ⟨_, rfl, _, rfl, p, x, h, w, g, rfl, T0, hV, ?_⟩
    rcases hx with ⟨c, rfl, hm, ty, bb, bi, N, e, k⟩ | ⟨hn, k⟩
    · exact .inl ⟨c, rfl, hm, fun H1 s1 => ⟨_, rfl, _, rfl, _, rfl, _, _, y, ty, bb, bi, rfl, N _ s1, e, k _ s1⟩⟩
    · exact .inr ⟨hn, k⟩
end
end TR
end
section
set_option Elab.async false
set_option maxRecDepth 100000
set_option linter.all false
namespace TR
open PySem PySem.Spec PyProof.Rows L2 TM TX TK TB TP TH TU TW
theorem mb_snoc (l : List Nat) (c : Nat) : mb (l ++ [c]) = if c = 46 then mb l else mb l ++ [c] := by
  unfold mb
  rw [List.filter_append]
  by_cases q : c = 46
  · simp [q]
  · simp [q]
theorem plc_of {w r c : Nat} (hc : c < w) : plV w (r * w + c) = [.int (r : Nat), .int (c : Nat)] := by
  unfold plV
  have h1 : (((r * w + c : Nat) : Int)) / (w : Int) = (r : Int) := by
    have : (r * w + c) / w = r := by
      rw [Nat.mul_comm, Nat.mul_add_div (by omega), Nat.div_eq_of_lt hc, Nat.add_zero]
    exact congrArg Int.ofNat this
  have h2 : (((r * w + c : Nat) : Int)) % (w : Int) = (c : Int) := by
    have : (r * w + c) % w = c := by
      rw [Nat.mul_comm, Nat.mul_add_mod, Nat.mod_eq_of_lt hc]
    exact congrArg Int.ofNat this
  rw [h1, h2]
section
variable {P : Program} {w_ : World} {K : PySem.W.Frag} {mg : Str → Option Value} {base : Heap}
structure TxtQ (mg : Str → Option Value) : Prop where
  len : mg "len" = none
  range : mg "range" = none
abbrev NPs : List Str := ["_law_rows_here", "_law_found", "_law_r", "_law_c"]
theorem scPs : FnScope NPs ["_law_rows_here"] (defScope sLawPlaces) := ⟨rfl, rfl, rfl, by decide +kernel, rfl, by decide +kernel, by decide +kernel⟩
def spPs (K : PySem.W.Frag) : Sp := fun vs H Q _ => ∃ (l : Addr) (h w : Nat) (g : Grid), vs = [.ref l] ∧ VG h w g ∧ H l = some (.lst (rowV g)) ∧
  ∀ H' e qa, Same H H' → H e = none → MdAt H' e w (fun m => g.flatten.idxOf m) (mb g.flatten) qa → Q (.ref e) H'
theorem ok_ps {f : Addr} {fd : FuncData} (F : Fun K "_law_places" "_law_places" sLawPlaces f fd) (T : TxtQ mg) : FnOk P w_ K mg base CX0 1 f fd ["_law_rows_here"] (spPs K) := by
  refine F.ok scPs (fun vs H Q E h => ?_) (fun cdv A outer s H vs Q E hr h => ?_)
  · obtain ⟨l, h, w, g, rfl, _⟩ := h
    rfl
  · obtain ⟨l, h, w, g, rfl, hV, hl, k⟩ := h
    have nd := scPs.nd
    refine ⟨_, pss_cons (ps_set (i := 1) nd rfl (.inl rfl) pe_dnewK)
      (pss_cons (ps_for PassesOwn.never rfl (pi_range1 (by rfl) T.range (pa_cons (pe_callB call_len_seq (by rfl) T.len PySem.boot_len (pa_cons (pv 0) pa_nil)) pa_nil)) (pg_name (i := 2) nd rfl (.inl rfl))
        (pss_one (ps_for PassesOwn.never rfl (pi_range1 (by rfl) T.range (pa_cons (pe_callB call_len_str (by rfl) T.len PySem.boot_len (pa_cons (pe_ix ix_list (pv 0) pe_int (fun _ _ => rfl)) pa_nil)) pa_nil)) (pg_name (i := 3) nd rfl (.inl rfl))
          (pss_one (ps_if (pt_cmpR op_ne (pe_ix ix_str (pe_ix ix_list (pv 0) (pv 2) (fun _ _ => rfl)) (pv 3) (fun _ _ => rfl)) pe_str (nomark _))
            (pss_one (ps_asg (pe_tup (pa_cons (pv 2) (pa_cons (pv 3) pa_nil))) (pg_sub (pv 1) (pe_ix ix_str (pe_ix ix_list (pv 0) (pv 2) (fun _ _ => rfl)) (pv 3) (fun _ _ => rfl)) (set_dict (hu_of hr))))) pss_nil)))))
      (pss_one (ps_ret (pv 1)))), ?_⟩
    intro e he
    have se := same_new (o := .dK []) he
    have h1 := hV.n1
    have h8 := hV.n8
    have w1 := hV.m1
    have w8 := hV.m8
    have hlen : (rowV g).length = h := by rw [List.length_map]; exact hV.rc.1
    have rowL : ∀ i, i < h → (g.getD i []).length = w := fun i hi => by
      rw [List.getD_eq_getElem?_getD, List.getElem?_eq_getElem (by rw [hV.rc.1]; exact hi)]
      exact hV.rc.2 _ (List.getElem_mem _)
    have ixr : ∀ i, i < h → atI (rowV g) ((i : Nat) : Int) = some (V.str (S (g.getD i []))) := fun i hi => atI_nat (by
      rw [List.getElem?_map, List.getD_eq_getElem?_getD, List.getElem?_eq_getElem (by rw [hV.rc.1]; exact hi)]
      rfl)
    have ixc : ∀ i c, i < h → c < w → atI (S (g.getD i [])).cps.toList ((c : Nat) : Int) = some (cell g i c) := fun i c hi hc => atI_nat (by
      rw [S_list, List.getElem?_eq_getElem (by rw [rowL i hi]; exact hc)]
      unfold cell
      rw [List.getD_eq_getElem?_getD (l := g.getD i []), List.getElem?_eq_getElem (by rw [rowL i hi]; exact hc)]
      rfl)
    have oz : ∀ i, i < h → (S (g.getD i [])).length ≤ sizeLine := fun i hi => by
      rw [S_len, rowL i hi]
      show _ ≤ 16777216
      omega
    have fl : g.flatten.length = h * w := flatten_len hV.rc
    have hl1 := se _ _ hl
    refine ⟨_, rfl, l, _, rfl, .inl (SqL.of hl1), ((rowV g).length : Int), rfl, by omega, by omega, for_range (lo := 0) (n := (((rowV g).length : Nat) : Int).toNat) (fun r σ H1 => ∃ v2 v3 qa, σ = [some (.ref l), some (.ref e), v2, v3] ∧ Same H H1 ∧ MdAt H1 e w (fun m => g.flatten.idxOf m) (mb (g.flatten.take (r * w))) qa)
      ⟨none, none, fun _ => 0, rfl, se, by rw [Nat.zero_mul]; exact ⟨upd_same, fun m hm => (by simp [mb] at hm)⟩⟩ ?_ ?_⟩
    · rintro r σ H1 hr1 ⟨v2, v3, qa, rfl, s1, hM⟩
      rw [Int.toNat_natCast, hlen] at hr1
      rw [Int.zero_add]
      have hl2 := s1 _ _ hl
      refine ⟨_, rfl, l, _, _, _, rfl, rfl, SqL.of hl2, ixr 0 (by omega), _, rfl, oz 0 (by omega), ((S (g.getD 0 [])).length : Int), rfl, ?_, ?_, for_range (lo := 0) (n := (((S (g.getD 0 [])).length : Nat) : Int).toNat) (fun c σ H2 => ∃ v3 qa, σ = [some (.ref l), some (.ref e), some (.int (r : Nat)), v3] ∧ Same H H2 ∧ MdAt H2 e w (fun m => g.flatten.idxOf m) (mb (g.flatten.take (r * w + c))) qa)
        ⟨v3, qa, rfl, s1, hM⟩ ?_ ?_⟩
      · rw [S_len, rowL 0 (by omega)]
        omega
      · rw [S_len, rowL 0 (by omega)]
        omega
      · rintro c σ H2 hc ⟨v3, qa, rfl, s2, hM⟩
        rw [Int.toNat_natCast, S_len, rowL 0 (by omega)] at hc
        rw [Int.zero_add]
        have hl3 := s2 _ _ hl
        have hat := flat_at hV.rc hr1 hc
        have take1 : g.flatten.take (r * w + c + 1) = g.flatten.take (r * w + c) ++ [cell g r c] := by rw [List.take_add_one, hat]; rfl
        refine ⟨_, rfl, _, rfl, l, _, _, _, rfl, rfl, SqL.of hl3, ixr r hr1, _, rfl, S (g.getD r []), (c : Int), cell g r c, rfl, rfl, oz r hr1, ixc r c hr1 hc, rfl, _, rfl, ?_⟩
        by_cases q : cell g r c = 46
        · rw [show (!decide (V.str ⟨#[cell g r c]⟩ = V.str (Str.ofString "."))) = false by rw [q]; rfl]
          refine iteF ⟨_, qa, rfl, s2, ?_⟩
          rw [← Nat.add_assoc, take1, mb_snoc, if_pos q]
          exact hM
        · rw [show (!decide (V.str ⟨#[cell g r c]⟩ = V.str (Str.ofString "."))) = true by
            rw [decide_eq_false (fun z => q (by
              injection z with z
              injection z with z
              injection z with z
              injection z))]
            rfl]
          refine iteT ⟨_, rfl, _, rfl, (by show 2 ≤ sizeLine; decide), fun T_ hT => ?_⟩
          have sT := same_new (o := .tup [V.int (r : Nat), V.int (c : Nat)]) hT
          have lT : upd H2 T_ (.tup [V.int (r : Nat), V.int (c : Nat)]) T_ = some (.tup [V.int (r : Nat), V.int (c : Nat)]) := upd_same
          generalize upd H2 T_ (.tup [V.int (r : Nat), V.int (c : Nat)]) = H3 at sT lT
          have hM3 := hM.same sT
          have s3 := s2.trans sT
          have hl4 := s3 _ _ hl
          have cnew : cell g r c ∉ mb (g.flatten.take (r * w + c)) := fun hm => by
            have nd1 : (mb (g.flatten.take (r * w + c + 1))).Nodup := by
              have : (mb (g.flatten.take (r * w + c + 1) ++ g.flatten.drop (r * w + c + 1))).Nodup := by rw [List.take_append_drop]; exact hV.nd
              unfold mb at this ⊢
              rw [List.filter_append] at this
              exact (List.nodup_append.mp this).1
            rw [take1, mb_snoc, if_neg q] at nd1
            exact (List.nodup_append.mp nd1).2.2 _ hm _ (List.mem_singleton.mpr rfl) rfl
          obtain ⟨qn, hq1, hq2⟩ : ∃ qn : Nat → Addr, qn (cell g r c) = T_ ∧ ∀ m, m ≠ cell g r c → qn m = qa m := ⟨fun m => if m = cell g r c then T_ else qa m, if_pos rfl, fun m hm => if_neg hm⟩
          have hqe : ∀ {b : Addr} {xs : List V}, H3 b = some (.tup xs) → b ≠ e := fun z1 z => by
            rw [z, hM3.1] at z1
            cases z1
          refine ⟨_, rfl, _, rfl, _, rfl, l, _, _, _, rfl, rfl, SqL.of hl4, ixr r hr1, _, rfl, S (g.getD r []), (c : Int), cell g r c, rfl, rfl, oz r hr1, ixc r c hr1 hc, e, _, rfl, .inl ⟨_, Sum.inr (S [cell g r c]), hM3.1, rfl, ?_, rfl⟩, ?_⟩
          · unfold mkv
            rw [List.length_map]
            have : (mb (g.flatten.take (r * w + c))).length ≤ g.flatten.length := Nat.le_trans (List.length_filter_le _ _) (by rw [List.length_take]; omega)
            have h64 : h * w ≤ 64 := Nat.mul_le_mul h8 w8
            show _ < 16777216
            omega
          · refine ⟨_, qn, rfl, same_put s3 he, ?_, fun m hm => ?_⟩
            · rw [upd_same, putK_new _ (by
                unfold mkv
                exact valV_no fun m hm z => cnew (by rw [← key_inj z]; exact hm)), ← Nat.add_assoc, take1, mb_snoc, if_neg q]
              unfold mkv
              rw [List.map_append]
              congr 3
              · refine List.map_congr_left fun m hm => ?_
                rw [hq2 m (fun z => cnew (by rw [← z]; exact hm))]
              · simp [hq1]
            · rw [← Nat.add_assoc, take1, mb_snoc, if_neg q] at hm
              rcases List.mem_append.mp hm with hm | hm
              · rw [hq2 m (fun z => cnew (by rw [← z]; exact hm)), upd_ne (hqe (hM3.2 m hm))]
                exact hM3.2 m hm
              · rw [List.mem_singleton.mp hm, hq1, upd_ne (hqe lT)]
                show H3 T_ = some (.tup (plV w (g.flatten.idxOf (cell g r c))))
                rw [idx_uniq hV.nd q hat, plc_of hc]
                exact lT
      · rintro σ H2 ⟨v3, qa, rfl, s2, hM⟩
        refine ⟨_, _, qa, rfl, s2, ?_⟩
        rw [Int.toNat_natCast, S_len, rowL 0 (by omega)] at hM
        rw [Nat.succ_mul]
        exact hM
    · rintro σ H1 ⟨v2, v3, qa, rfl, s1, hM⟩
      rw [Int.toNat_natCast, hlen, ← fl, List.take_length] at hM
      exact ⟨_, rfl, k _ e qa s1 he hM⟩
end
end TR
end
section
set_option Elab.async false
set_option maxRecDepth 100000
set_option linter.all false
namespace TR
open PySem PySem.Spec PyProof.Rows L2 TM TX TK TB TP TH TU TW
theorem last_at {o : List Nat} {i c : Nat} (hl : o.length = i + 1) (h : o[i]? = some c) : atI (S o).cps.toList (-1 : Int) = some c := by
  rw [S_list]
  unfold atI ixN
  rw [if_neg (by omega), if_pos (by omega)]
  show o[((-1 : Int) + (o.length : Int)).toNat]? = some c
  rw [show ((-1 : Int) + (o.length : Int)).toNat = i by omega]
  exact h
theorem cut_last {o : List Nat} {L : Nat} (hl : o.length = L + 1) : cutS (S o) none (some (-1 : Int)) = S (o.take L) := by
  unfold cutS
  rw [S_len, S_list]
  have e1 : HT.sIx o.length 0 none = 0 := rfl
  have e2 : HT.sIx o.length o.length (some (-1 : Int)) = L := by
    show (if (-1 : Int) < 0 then ((-1 : Int) + (o.length : Int)).toNat else min (-1 : Int).toNat o.length) = L
    rw [if_pos (by omega)]
    omega
  rw [e1, e2]
  simp
theorem cir_cons (φ : Nat → Nat) (s : Nat) (r seen : List Nat) : cir φ (s :: r) seen = if s ∈ seen then cir φ r seen else orb φ s :: cir φ r (seen ++ orb φ s) := by rw [cir]
/-- the way round: from s, i steps -/
def way (φ : Nat → Nat) (s i : Nat) : List Nat := (List.range (i + 1)).map fun j => pw φ j s
theorem way_len (φ : Nat → Nat) (s i : Nat) : (way φ s i).length = i + 1 := by simp [way]
theorem way_last (φ : Nat → Nat) (s i : Nat) : (way φ s i)[i]? = some (pw φ i s) := by
  unfold way
  rw [List.getElem?_map, List.getElem?_range (by omega)]
  rfl
theorem way_succ (φ : Nat → Nat) (s i : Nat) : way φ s (i + 1) = way φ s i ++ [φ (pw φ i s)] := by
  unfold way
  rw [List.range_succ, List.map_append]
  rfl
theorem way_orb (φ : Nat → Nat) (s : Nat) : (way φ s (ringLen φ s)).take (ringLen φ s) = orb φ s := by
  unfold way orb
  rw [← List.map_take, List.take_range, Nat.min_eq_left (by omega)]
section
variable {P : Program} {w_ : World} {K : PySem.W.Frag} {mg : Str → Option Value} {base : Heap} {fPs : Addr} {fdPs : FuncData}
abbrev NCs : List Str := ["_law_one", "_law_two", "_law_first", "_law_found", "_law_seen", "_law_marble", "_law_circle", "_law_place"]
theorem scCs : FnScope NCs ["_law_one", "_law_two"] (defScope sLawCircles) := ⟨rfl, rfl, rfl, by decide +kernel, rfl, by decide +kernel, by decide +kernel⟩
def spCs (K : PySem.W.Frag) : Sp := fun vs H Q _ => ∃ (l1 l2 : Addr) (h w : Nat) (g1 g2 : Grid) (f0 : Nat → Nat), vs = [.ref l1, .ref l2] ∧ VG h w g1 ∧ VG h w g2 ∧ Two f0 g1.flatten g2.flatten ∧ H l1 = some (.lst (rowV g1)) ∧ H l2 = some (.lst (rowV g2)) ∧
  ∀ H' l, Same H H' → H l = none → H' l = some (.lst ((cir (TM.nxt g1.flatten g2.flatten) (TP.srt (mb g1.flatten)) []).map strL)) → Q (.ref l) H'
theorem ok_cs {f : Addr} {fd : FuncData} (F : Fun K "_law_circles" "_law_circles" sLawCircles f fd) (hsrt : mg "sorted" = none)
    (GP : FnOk P w_ K mg base CX0 1 fPs fdPs ["_law_rows_here"] (spPs K)) (kP : PySem.W.keepIn K (.ref fPs) = true) (bP : Binds K fdPs ["_law_rows_here"] []) (mP : mg "_law_places" = some (.ref fPs)) :
    FnOk P w_ K mg base CX0 2 f fd ["_law_one", "_law_two"] (spCs K) := by
  refine F.ok scCs (fun vs H Q E h => ?_) (fun cdv A0 outer s H vs Q E hr h => ?_)
  · obtain ⟨l1, l2, h, w, g1, g2, f0, rfl, _⟩ := h
    rfl
  · obtain ⟨l1, l2, h, w, g1, g2, f0, rfl, V1, V2, T2, hl1, hl2, k⟩ := h
    have nd := scCs.nd
    refine ⟨_, C8.pss_cut (ps_par3 (i := 2) (j := 3) (l := 4) rfl nd rfl rfl rfl (by decide) (by decide) (by decide) rfl rfl rfl (pa_cons (pe_call GP (hr.mono (by decide)) rfl mP kP bP .nil pass0 (pa_cons (pv 0) pa_nil)) (pa_cons (pe_lst pa_nil) (pa_cons pe_str pa_nil))) (by rfl))
      (pss_cons (ps_for PassesOwn.never rfl (pi_list (pe_callB (call_sortedD rfl) (by rfl) hsrt (by decide +kernel) (pa_cons (pv 2) pa_nil))) (pg_name (i := 5) nd rfl (.inl rfl))
        (pss_one (ps_if (pt_cmpR op_notIn_sign (pv 5) (pv 4) (by rfl))
          (pss_cons (ps_set (i := 6) nd rfl (.inl rfl) (pv 5))
          (C8.pss_cut (ps_while PassesOwn.never (PW.pt (pw_or (pt_cmpR op_eq (pv 6) (pv 5) (nomark _)) (pw_or1 (pt_cmpR op_ne (pe_ix ix_str (pv 6) (pe_un un_neg pe_int) (fun _ _ => rfl)) (pv 5) (nomark _)))))
            (pss_cons (ps_set (i := 7) nd rfl (.inl rfl) (pe_dget (hu_of hr) (pv 2) (pe_ix ix_str (pv 6) (pe_un un_neg pe_int) (fun _ _ => rfl)) (fun _ _ => rfl)))
            (pss_one (ps_set (i := 6) nd rfl (.inl rfl) (pe_op op_add_str (pv 6) (pe_ix ix_str (pe_ix ix_list (pv 1) (pe_ix ix_tup (pv 7) pe_int (fun _ _ => rfl)) (fun _ _ => rfl)) (pe_ix ix_tup (pv 7) pe_int (fun _ _ => rfl)) (fun _ _ => rfl)))))))
          (pss_one (ps_par (i := 3) (j := 4) rfl nd rfl rfl (by decide) rfl rfl (pa_cons (pe_op op_cat (pv 3) (pe_lst (pa_cons (pe_slice sl_str (pv 6) po_none (po_some (pe_un un_neg pe_int))) pa_nil))) (pa_cons (pe_op op_add_str (pv 4) (pv 6)) pa_nil)) (by rfl))))) pss_nil)))
      (pss_one (ps_ret (pv 3)))), ?_⟩
    have hM := mb_let V1
    have O := onto_nxt T2
    obtain ⟨φ, hφ⟩ : ∃ φ, φ = TM.nxt g1.flatten g2.flatten := ⟨_, rfl⟩
    rw [← hφ] at O k
    have fl1 : g1.flatten.length = h * w := flatten_len V1.rc
    have fl2 : g2.flatten.length = h * w := flatten_len V2.rc
    have h64 : h * w ≤ 64 := Nat.mul_le_mul V1.n8 V1.m8
    have m26 := mb_26 V1
    have sz : ∀ {o : List Nat}, o.length ≤ 10000 → (S o).length ≤ sizeLine := fun {o} ho => by
      rw [S_len]
      show _ ≤ 16777216
      omega
    refine ⟨fun σ H1 => ∃ e q0 qa, σ = [some (.ref l1), some (.ref l2), some (.ref e), some (.ref q0), some (V.str (S [])), none, none, none] ∧ Same H H1 ∧ MdAt H1 e w (fun m => g1.flatten.idxOf m) (mb g1.flatten) qa ∧ H1 q0 = some (.lst []) ∧ H q0 = none, ?_, ?_⟩
    · refine ⟨_, rfl, l1, h, w, g1, rfl, V1, hl1, fun H1 e qa s1 he hM1 => ?_⟩
      refine ⟨Nat.zero_le _, fun q0 hq0 => ?_⟩
      have s2 := same_new (o := .lst []) hq0
      exact ⟨_, _, _, rfl, e, q0, qa, rfl, s1.trans s2, hM1.same s2, upd_same, s1.free hq0⟩
    rintro σ H1 ⟨e, q0, qa, rfl, s1, hM1, hq0, nq0⟩
    refine ⟨_, rfl, e, _, (mb g1.flatten).map (fun c => S [c]), rfl, .inl hM1.1, ?_, ?_, fun ys p py sy hp => ?_⟩
    · unfold mkv
      rw [List.map_map, List.map_map]
      rfl
    · rw [List.length_map]
      omega
    have ey := sort_uniq py sy
    have sp_ := same_new (o := .lst (ys.map V.str)) hp
    have lp : upd H1 p (.lst (ys.map V.str)) p = some (.lst ((TP.srt (mb g1.flatten)).map sg)) := by
      rw [upd_same, ey, List.map_map]
      rfl
    generalize upd H1 p (.lst (ys.map V.str)) = H2 at sp_ lp
    have s02 := s1.trans sp_
    have hM2 := hM1.same sp_
    refine ⟨p, rfl, ⟨_, SqL.of lp⟩, for_list (K := K) (a := p) (xs := (TP.srt (mb g1.flatten)).map sg) (fun i σ H3 => ∃ q z fi sl v5 v6 v7, σ = [some (.ref l1), some (.ref l2), some (.ref e), some (.ref q), some (V.str (S z)), v5, v6, v7] ∧ Same H2 H3 ∧ H3 q = some (.lst (fi.map strL)) ∧ H q = none ∧ fi ++ cir φ ((TP.srt (mb g1.flatten)).drop i) sl = cir φ (TP.srt (mb g1.flatten)) [] ∧ (∀ c, c ∈ z ↔ c ∈ sl) ∧ z.length ≤ 27 * i ∧ fi.length ≤ i)
      ⟨q0, [], [], [], none, none, none, rfl, Same.refl H2, sp_ _ _ hq0, nq0, rfl, fun c => Iff.rfl, Nat.zero_le _, Nat.zero_le _⟩ (fun i σ H3 _ ⟨_, _, _, _, _, _, _, _, s, _⟩ => SqL.of (s _ _ lp)) ?_ ?_⟩
    · rintro i x σ H3 hi ⟨q, z, fi, sl, v5, v6, v7, rfl, s3, hq, nq, hcir, hz, zl, fil⟩
      obtain ⟨s, hs, rfl⟩ := at_map hi
      have sM : s ∈ mb g1.flatten := mem_srt.mp (List.mem_of_getElem? hs)
      obtain ⟨hil, hsv⟩ := List.getElem?_eq_some_iff.mp hs
      have i26 : i < 26 := by
        rw [(srt_perm _).length_eq] at hil
        omega
      have hdrop : (TP.srt (mb g1.flatten)).drop i = s :: (TP.srt (mb g1.flatten)).drop (i + 1) := by rw [List.drop_eq_getElem_cons hil, hsv]
      rw [hdrop] at hcir
      have R := ring_of O hM sM
      have L26 : ringLen φ s ≤ 26 := by
        obtain ⟨L, h1, h2⟩ := ring_ex O hM sM
        rw [R.uniq h2]
        exact h1
      refine ⟨_, rfl, _, rfl, s, S z, rfl, rfl, _, rfl, ?_⟩
      rw [S_list]
      by_cases q1 : s ∈ z
      · rw [decide_eq_true q1]
        refine iteF ⟨q, z, fi, sl, _, _, _, rfl, s3, hq, nq, ?_, hz, by omega, by omega⟩
        rw [cir_cons, if_pos ((hz s).mp q1)] at hcir
        exact hcir
      rw [decide_eq_false q1]
      have hcir2 : fi ++ (orb φ s :: cir φ ((TP.srt (mb g1.flatten)).drop (i + 1)) (sl ++ orb φ s)) = cir φ (TP.srt (mb g1.flatten)) [] := by
        rw [cir_cons, if_neg (fun hh => q1 ((hz s).mpr hh))] at hcir
        exact hcir
      refine iteT ⟨_, rfl, ?_⟩
      refine ⟨fun σ H4 => ∃ v7, σ = [some (.ref l1), some (.ref l2), some (.ref e), some (.ref q), some (V.str (S z)), some (sg s), some (V.str (S (way φ s (ringLen φ s)))), v7] ∧ H4 = H3, ?_, ?_⟩
      · refine while_by (fun σ H4 => ∃ i v7, i ≤ ringLen φ s ∧ σ = [some (.ref l1), some (.ref l2), some (.ref e), some (.ref q), some (V.str (S z)), some (sg s), some (V.str (S (way φ s i))), v7] ∧ H4 = H3)
          (fun σ _ => match σ[6]? with | some (some (V.str y)) => ringLen φ s + 1 - y.length | _ => 0) ⟨0, v7, Nat.zero_le _, rfl, rfl⟩ ?_ ?_
        · rintro σ H4 ⟨j, v7, hj, rfl, rfl⟩
          have wl := way_len φ s j
          have cM := pw_mem O.mem sM j
          have wz : (S (way φ s j)).length ≤ sizeLine := sz (by omega)
          have la := last_at wl (way_last φ s j)
          have s03 := s02.trans s3
          have hM3 := hM2.same s3
          have l2h := s03 _ _ hl2
          obtain ⟨kx, hkx⟩ : ∃ kx, kx = g1.flatten.idxOf (pw φ j s) := ⟨_, rfl⟩
          have ha := idx_at (mem_mb.mp cM).1
          rw [← hkx] at ha
          obtain ⟨r1, r2, r3⟩ := at_flat V2.rc (k := kx) (by omega)
          have hd : cell g2 (kx / w) (kx % w) = φ (pw φ j s) := by
            have hφ2 : ∀ c, φ c = g2.flatten.getD (g1.flatten.idxOf c) 46 := fun c => by
              rw [hφ]
              rfl
            rw [hφ2 (pw φ j s), ← hkx, List.getD_eq_getElem?_getD, r3]
            rfl
          have rowG : (rowV g2)[kx / w]? = some (V.str (S (g2.getD (kx / w) []))) := by
            rw [List.getElem?_map, List.getD_eq_getElem?_getD, List.getElem?_eq_getElem (by rw [V2.rc.1]; exact r1)]
            rfl
          have rowL : (g2.getD (kx / w) []).length = w := by
            rw [List.getD_eq_getElem?_getD, List.getElem?_eq_getElem (by rw [V2.rc.1]; exact r1)]
            exact V2.rc.2 _ (List.getElem_mem _)
          have colG : atI (S (g2.getD (kx / w) [])).cps.toList (((kx : Nat) : Int) % ((w : Nat) : Int)) = some (φ (pw φ j s)) := by
            rw [← hd, show ((kx : Nat) : Int) % ((w : Nat) : Int) = ((kx % w : Nat) : Int) from rfl]
            refine atI_nat ?_
            rw [S_list, List.getElem?_eq_getElem (by rw [rowL]; exact r2)]
            unfold cell
            rw [List.getD_eq_getElem?_getD (l := g2.getD (kx / w) []), List.getElem?_eq_getElem (by rw [rowL]; exact r2)]
            rfl
          have w8 := V1.m8
          have dg : DGet H4 e (V.str ⟨#[pw φ j s]⟩) (some (V.ref (qa (pw φ j s)))) := by
            have := DGet.k (k := Sum.inr (S [pw φ j s])) hM3.1
            have e2 : valV (mkv (mb g1.flatten) qa) (Sum.inr (S [pw φ j s])) = some (V.ref (qa (pw φ j s))) := valV_at (f := fun m => (Sum.inr (S [m]) : Key)) (v := fun m => V.ref (qa m)) cM fun x _ z => key_inj z
            rw [e2] at this
            exact this
          have pl := hM3.2 _ cM
          have pl' : H4 (qa (pw φ j s)) = some (.tup [V.int (((kx : Nat) : Int) / ((w : Nat) : Int)), V.int (((kx : Nat) : Int) % ((w : Nat) : Int))]) := by
            rw [hkx]
            exact pl
          refine ⟨_, rfl, _, rfl, rfl, _, rfl, ?_⟩
          by_cases j0 : j = 0
          · rw [show decide (V.str (S (way φ s j)) = sg s) = true from decide_eq_true (by rw [j0]; rfl)]
            have hj : j < ringLen φ s := by
              have := R.one
              omega
            refine iteT ?_
            refine ⟨_, rfl, _, rfl, _, rfl, S (way φ s j), _, pw φ j s, rfl, rfl, wz, la, e, _, rfl, dg, ?_⟩
            refine ⟨_, rfl, _, rfl, _, rfl, qa (pw φ j s), _, 0, _, rfl, rfl, SqT.of pl', rfl, l2, _, _, _, rfl, rfl, SqL.of l2h, atI_nat rowG, _, rfl, qa (pw φ j s), _, 1, _, rfl, rfl, SqT.of pl', rfl, S (g2.getD (kx / w) []), _, φ (pw φ j s), rfl, rfl, sz (by omega), colG, S (way φ s j), S [φ (pw φ j s)], rfl, rfl, ?_, ?_⟩
            · rw [S_len, S_len, wl]
              show _ ≤ 16777216
              show _ + 1 ≤ _
              omega
            rw [SX.S_cat (way φ s j) [φ (pw φ j s)], ← way_succ]
            refine ⟨⟨j + 1, _, by omega, rfl, rfl⟩, ?_⟩
            show ringLen φ s + 1 - (S (way φ s (j + 1))).length < ringLen φ s + 1 - (S (way φ s j)).length
            rw [S_len, S_len, way_len, way_len]
            omega
          · rw [show decide (V.str (S (way φ s j)) = sg s) = false from decide_eq_false (fun zz => by
              injection zz with zz
              have := congrArg Str.length zz
              rw [S_len, wl] at this
              have : j + 1 = 1 := this
              omega)]
            refine iteF ?_
            refine ⟨_, rfl, _, rfl, S (way φ s j), _, pw φ j s, rfl, rfl, wz, la, _, rfl, rfl, _, rfl, ?_⟩
            by_cases jL : j = ringLen φ s
            · rw [show (!decide (V.str ⟨#[pw φ j s]⟩ = sg s)) = false by rw [jL, R.back, decide_eq_true rfl]; rfl]
              subst jL
              exact ⟨_, rfl, rfl⟩
            · have hj2 : j < ringLen φ s := by omega
              rw [show (!decide (V.str ⟨#[pw φ j s]⟩ = sg s)) = true by
                rw [decide_eq_false (fun zz => R.no j (by omega) hj2 (by
                  injection zz with zz
                  injection zz with zz
                  injection zz with zz
                  injection zz))]
                rfl]
              refine ⟨_, rfl, _, rfl, _, rfl, S (way φ s j), _, pw φ j s, rfl, rfl, wz, la, e, _, rfl, dg, ?_⟩
              refine ⟨_, rfl, _, rfl, _, rfl, qa (pw φ j s), _, 0, _, rfl, rfl, SqT.of pl', rfl, l2, _, _, _, rfl, rfl, SqL.of l2h, atI_nat rowG, _, rfl, qa (pw φ j s), _, 1, _, rfl, rfl, SqT.of pl', rfl, S (g2.getD (kx / w) []), _, φ (pw φ j s), rfl, rfl, sz (by omega), colG, S (way φ s j), S [φ (pw φ j s)], rfl, rfl, ?_, ?_⟩
              · rw [S_len, S_len, wl]
                show _ ≤ 16777216
                show _ + 1 ≤ _
                omega
              rw [SX.S_cat (way φ s j) [φ (pw φ j s)], ← way_succ]
              refine ⟨⟨j + 1, _, by omega, rfl, rfl⟩, ?_⟩
              show ringLen φ s + 1 - (S (way φ s (j + 1))).length < ringLen φ s + 1 - (S (way φ s j)).length
              rw [S_len, S_len, way_len, way_len]
              omega
        · rintro σ H1 Q1 Q2 hq2 ⟨x1, e1, y1, e2, e3, c1, e4, qq⟩
          refine ⟨x1, e1, y1, e2, e3, c1, e4, ?_⟩
          cases c1 with
          | true => exact hq2 _ _ qq
          | false =>
            obtain ⟨x2, f1, i2, f2, z2, i3, c2, f3, f4, f5, f6, y2, f7, f8, c3, f9, q3⟩ := qq
            exact ⟨x2, f1, i2, f2, z2, i3, c2, f3, f4, f5, f6, y2, f7, f8, c3, f9, hq2 _ _ q3⟩
      rintro σ H4 ⟨v7', rfl, rfl⟩
      have wl := way_len φ s (ringLen φ s)
      refine ⟨_, rfl, _, rfl, _, rfl, _, rfl, S (way φ s (ringLen φ s)), rfl, sz (by omega), (by show 1 ≤ sizeLine; decide), fun b hb => ?_⟩
      rw [cut_last wl, way_orb]
      have sb := same_new (o := .lst [V.str (S (orb φ s))]) hb
      have lb : upd H4 b (.lst [V.str (S (orb φ s))]) b = some (.lst [V.str (S (orb φ s))]) := upd_same
      generalize upd H4 b (.lst [V.str (S (orb φ s))]) = H5 at sb lb
      refine ⟨q, b, _, _, rfl, rfl, sb _ _ hq, lb, ?_, fun p2 hp2 => ?_⟩
      · rw [List.length_map]
        show _ + 1 ≤ 16777216
        omega
      have sc := same_new (o := .lst (fi.map strL ++ [V.str (S (orb φ s))])) hp2
      have lc : upd H5 p2 (.lst (fi.map strL ++ [V.str (S (orb φ s))])) p2 = some (.lst ((fi ++ [orb φ s]).map strL)) := by
        rw [upd_same, List.map_append]
        rfl
      generalize upd H5 p2 (.lst (fi.map strL ++ [V.str (S (orb φ s))])) = H6 at sc lc
      refine ⟨_, rfl, _, rfl, S z, S (way φ s (ringLen φ s)), rfl, rfl, ?_, ?_⟩
      · rw [S_len, S_len, wl]
        show _ ≤ 16777216
        omega
      rw [SX.S_cat z (way φ s (ringLen φ s))]
      refine ⟨_, _, rfl, p2, z ++ way φ s (ringLen φ s), fi ++ [orb φ s], sl ++ orb φ s, _, _, _, rfl, s3.trans (sb.trans sc), lc, (s02.trans (s3.trans sb)).free hp2, ?_, fun c => ?_, ?_, ?_⟩
      · rw [← hcir2, List.append_assoc]
        rfl
      · rw [List.mem_append, List.mem_append, hz c]
        refine or_congr_right ⟨fun hc => ?_, fun hc => ?_⟩
        · obtain ⟨y, hy, rfl⟩ := List.mem_map.mp hc
          have hy := List.mem_range.mp hy
          by_cases q : y < ringLen φ s
          · exact List.mem_of_getElem? (orb_get q)
          · rw [show y = ringLen φ s by omega, R.back]
            exact orb_self s
        · obtain ⟨y, hy, rfl⟩ := orb_mem hc
          exact List.mem_map.mpr ⟨y, List.mem_range.mpr (by omega), rfl⟩
      · rw [List.length_append, wl]
        omega
      · rw [List.length_append]
        show _ + 1 ≤ i + 1
        omega
    · rintro σ H3 ⟨q, z, fi, sl, v5, v6, v7, rfl, s3, hq, nq, hcir, _⟩
      refine ⟨_, rfl, k _ q (s02.trans s3) nq ?_⟩
      rw [List.length_map, List.drop_length] at hcir
      rw [hq, ← hcir]
      simp [cir]
end
end TR
end
section
set_option Elab.async false
set_option maxRecDepth 100000
set_option linter.all false
namespace TK
open PySem L2 TM
open PySem.Spec PyProof.Rows TH
/-- the script as the law finds it: locked, unless it is an object of the top -/
def scr (K : PySem.W.Frag) (a : Addr) (vs : List Value) (ns : List Int) : Hp := fun b => if b = a ∧ K.lookup a = none then some (.frz { cls := .type "list", data := .seq vs.toArray } (.lst (ns.map V.int))) else none
theorem scr_at {K : PySem.W.Frag} {a b : Addr} {vs : List Value} {ns : List Int} {u : HO} (h : scr K a vs ns b = some u) : b = a ∧ K.lookup a = none ∧ u = .frz { cls := .type "list", data := .seq vs.toArray } (.lst (ns.map V.int)) := by
  unfold scr at h
  split at h
  · rename_i c
    exact ⟨c.1, c.2, (Option.some.inj h).symm⟩
  · cases h
end TK
end
section
set_option Elab.async false
set_option maxRecDepth 100000
set_option linter.all false
namespace TK
open PySem PySem.W PySem.W.X PySem.Spec PyProof.Rows L2 TH
theorem ofPys_ints : ∀ ns : List Int, ofPys (ns.map PyData.int) = ns.map WData.int
  | [] => by simp [ofPys]
  | n :: ns => by
    rw [List.map_cons, List.map_cons, ofPys, ofPys_ints ns]
    rfl
end TK
end
section
set_option Elab.async false
set_option maxRecDepth 100000
set_option linter.all false
namespace TK
open PySem L2 TM
open PySem.Spec PyProof.Rows TH
def scrT (K : PySem.W.Frag) (a : Addr) (vs : List Value) (ns : List Int) (ts : List Addr) : Hp := fun b => if b ∈ ts then some (.tbl #[]) else scr K a vs ns b
theorem law_nT {P : Program} {w : World} {K : PySem.W.Frag} {mg mb : Str → Option Value} {n k : Nat} {fa a : Addr} {sp : Sp} {s₁ : Shared} {vs : List Value} {ns : List Int} {cs : List (Addr × Addr)}
    (KX : K.In s₁.heap) (hns : s₁.heap.Ns mainGlobals mg) (hb : s₁.heap.Ns builtinsNs mb) (hbb : ∀ x : Str, x ≠ "__name__" → mb x = bootBuiltins x) (hlim : s₁.heap.NoLimit) (hg : s₁.gens = #[]) (hn : n ≤ s₁.toks)
    (tabs : ∀ p ∈ cs, s₁.heap.get? p.2 = some { cls := .none, data := .fields #[] } ∧ K.lookup p.2 = none ∧ PySem.W.CodeHd s₁.heap p.1 p.2)
    (hbm : ∃ (bm : Addr) (ob : Obj), mg "__builtins__" = some (.ref bm) ∧ bm ≠ builtinsNs ∧ s₁.heap.get? bm = some ob ∧ ob.cls = .type "module" ∧ ob.dict = some builtinsNs ∧ ob.data = .plain)
    (ha : s₁.heap.get? a = some { cls := .type "list", data := .seq vs.toArray }) (hi : Vals (ns.map V.int) vs) (hl : ns.length ≤ sizeLine) (hr : Room k callerA)
    (F : ∀ base : Heap, K.In base → base.Ns mainGlobals mg → (∀ p ∈ cs, LamX.TabB base mg p.1 p.2) → FnRn n P w K mg base CX0 k fa sp)
    (hsp : ∀ H : Hp, (∀ p ∈ cs, H p.2 = some (.tbl #[])) → SqL K H a (ns.map V.int) → sp [.ref a] H (fun v _ => v = .bl true) fun _ _ _ => False) :
    codeAny (model P w) callerA (.call (.ref fa) ⟨[.ref a], []⟩) (fun r s' => r = .ok (.ret (.bool true)) ∧ OldK s₁.heap s'.heap ∧ s'.os = s₁.os ∧ AllBare s'.gens) s₁ := by
  have hvl : vs.length = ns.length := by rw [← hi.length, List.length_map]
  have inTs : ∀ {b : Addr}, b ∈ cs.map (·.2) → s₁.heap.get? b = some { cls := .none, data := .fields #[] } ∧ K.lookup b = none := fun {b} hb => by
    obtain ⟨p, hp, rfl⟩ := List.mem_map.mp hb
    exact ⟨(tabs p hp).1, (tabs p hp).2.1⟩
  have aNo : a ∉ cs.map (·.2) := fun z => by
    have := (inTs z).1
    rw [ha] at this
    cases this
  obtain ⟨H, hH⟩ : ∃ H, H = scrT K a vs ns (cs.map (·.2)) := ⟨_, rfl⟩
  have onT : ∀ {b : Addr}, b ∈ cs.map (·.2) → H b = some (.tbl #[]) := fun {b} z => by
    rw [hH]
    exact if_pos z
  have offT : ∀ {b : Addr}, b ∉ cs.map (·.2) → H b = scr K a vs ns b := fun {b} z => by
    rw [hH]
    exact if_neg z
  have seen : SqL K H a (ns.map V.int) := by
    cases hk : K.lookup a with
    | none => exact .inl (.inr ⟨_, (offT aNo).trans (if_pos ⟨rfl, hk⟩)⟩)
    | some o =>
      have e := KX a o hk
      rw [ha] at e
      cases e
      exact .inr ⟨_, vs.toArray, _, hk, rfl, rfl, rfl, by rw [List.size_toArray, hvl]; exact hl, by simpa using hi⟩
  have fine : HOk P w H s₁.heap := fun b u h => by
    by_cases z : b ∈ cs.map (·.2)
    · rw [onT z] at h
      cases h
      exact (inTs z).1
    · rw [offT z] at h
      obtain ⟨rfl, _, rfl⟩ := scr_at h
      exact ⟨ha, by rw [List.length_map]; exact hl, vs, _, hi, ha⟩
  have only : ∀ {b : Addr} {u : HO}, H b = some u → (b ∈ cs.map (·.2)) ∨ (b = a ∧ K.lookup a = none ∧ ∃ o xs, u = .frz o (.lst xs)) := fun {b u} h => by
    by_cases z : b ∈ cs.map (·.2)
    · exact .inl z
    · rw [offT z] at h
      obtain ⟨z1, z2, z3⟩ := scr_at h
      exact .inr ⟨z1, z2, _, _, z3⟩
  have tblAt : ∀ p ∈ cs, H p.2 = some (.tbl #[]) := fun p hp => onT (List.mem_map.mpr ⟨p, hp, rfl⟩)
  have free : ∀ {b : Addr} {o : Obj}, s₁.heap.get? b = some o → (∀ vs n, o.data ≠ .seq vs n) → o.data ≠ .fields #[] → H b = none := fun {b o} e h1 h2 => by
    cases hz : H b with
    | none => rfl
    | some u =>
      rcases only hz with z | ⟨rfl, _⟩
      · rw [(inTs z).1] at e
        cases e
        exact absurd rfl h2
      · rw [ha] at e
        cases e
        exact absurd rfl (h1 _ _)
  have dict : ∀ {b : Addr} {m : Str → Option Value}, s₁.heap.Ns b m → (hidT s₁.heap H).Ns b m := fun {b m} ⟨o, es, ep, e, d, q⟩ =>
    ⟨o, es, ep, hidT_get e (free e (fun _ _ z => by rw [d] at z; cases z) fun z => by rw [d] at z; cases z), d, q⟩
  have inB : K.In (hidT s₁.heap H) := fun b o e => hidT_get (KX b o e) (by
    cases hz : H b with
    | none => rfl
    | some u =>
      rcases only hz with z | ⟨rfl, z, _⟩
      · rw [(inTs z).2] at e
        cases e
      · rw [z] at e
        cases e)
  have TB : ∀ p ∈ cs, LamX.TabB (hidT s₁.heap H) mg p.1 p.2 := fun p hp => by
    obtain ⟨t1, t2, o, us, file, tf, flags, tg, inF, text, tt, e1, x1, x2, x3, x4, x5, x6, x7, x8, ne⟩ := tabs p hp
    refine ⟨⟨o, us, file, tf, flags, tg, inF, text, tt, hidT_get e1 (free e1 (fun _ _ z => by rw [x2] at z; cases z) fun z => ?_), x1, x2, x3, x4, x5, x6, x7, x8, ne⟩, ?_, fun z => ?_⟩
    · rw [x2] at z
      cases z
      simp at x3
    · obtain ⟨bm, ob, b1, b2, b3, b4, b5, b6⟩ := hbm
      refine ⟨bm, ob, b1, b2, fun z => ?_, fun z => ?_, hidT_get b3 (free b3 (fun _ _ z => by rw [b6] at z; cases z) fun z => by rw [b6] at z; cases z), b4, b5, b6⟩
      · obtain ⟨o', es, ep, e, hd, _⟩ := hns
        rw [z, e] at b3
        cases b3
        rw [hd] at b6
        cases b6
      · rw [z, t1] at b3
        cases b3
        cases b6
    · obtain ⟨o', es, ep, e, hd, _⟩ := hns
      rw [z, t1] at e
      cases e
      cases hd
  obtain ⟨mc, q1, q2⟩ := hlim
  have start : Env0 P w K mg (hidT s₁.heap H) callerA [] s₁ H := ⟨rfl, ⟨inB, dict hns, ⟨mb, dict hb, hbb⟩, mc, dict q1, q2⟩, fun b o e => of_hidT e, Nat.le_of_eq (hidT_size _ _), trivial, fun b z => absurd (show b ∈ ([] : List Addr) from z) (by simp), fine, .of_eq hg⟩
  refine codeAny_mono (F _ inB (dict hns) TB callerA [] s₁ H [.ref a] [.ref a] _ _ hn hr start (.cons rfl .nil) (hsp H tblAt seen)) fun r s' h => ?_
  cases r with
  | error e => exact False.elim h
  | ok fl =>
    cases fl with
    | next => exact False.elim h
    | brk => exact False.elim h
    | cont => exact False.elim h
    | ret u =>
      obtain ⟨v, H', os, bare, un, fine', rv, q⟩ := h
      obtain rfl : v = .bl true := q
      obtain rfl : u = Value.bool true := rv
      have same : ∀ b o, b ∉ cs.map (·.2) → s₁.heap.get? b = some o → s'.heap.get? b = some o := fun b o nb e => by
        cases hz : H b with
        | none => exact un.keep b o e hz (fun z => absurd (show b ∈ ([] : List Addr) from z) (by simp)) (by simp)
        | some u =>
          rcases only hz with z | ⟨_, _, ob, xs, rfl⟩
          · exact absurd z nb
          · have e1 := (fine b _ hz).1
            have e2 := (fine' b _ (un.frzs b ob _ hz)).1
            rw [e] at e1
            cases e1
            exact e2
      have more : ∀ p ∈ cs, ∃ ys : Array Value, s'.heap.get? p.2 = some { cls := .none, data := .fields ys } := fun p hp => by
        obtain ⟨ys, z⟩ := un.tbls p.2 #[] (tblAt p hp)
        exact ⟨_, fine' p.2 _ z⟩
      refine ⟨rfl, ⟨fun b o e => ?_, fun b o e => ?_⟩, os, bare⟩
      · by_cases hb : b ∈ cs.map (·.2)
        · obtain ⟨p, hp, rfl⟩ := List.mem_map.mp hb
          obtain ⟨ys, hys⟩ := more p hp
          obtain ⟨t1, _, t3⟩ := tabs p hp
          rw [t1] at e
          cases e
          exact .inr (.inl ⟨(t3.tab t1).isCodeTable, rfl, #[], ys, rfl, by rw [Array.empty_append]; exact hys⟩)
        · exact .inl (same b o hb e)
      · by_cases hb : b ∈ cs.map (·.2)
        · obtain ⟨p, hp, rfl⟩ := List.mem_map.mp hb
          obtain ⟨ys, hys⟩ := more p hp
          exact ⟨_, hys⟩
        · exact ⟨o, same b o hb e⟩
end TK
end
section
set_option Elab.async false
set_option maxRecDepth 100000
set_option linter.all false
namespace TR
open PySem PySem.Spec PyProof.Rows L2 TM TX TK TB TP TH TU TW
section
variable {X : Cx}
theorem zip_each {pins : List (Addr × Obj)} {σ : L2.St} {H : Hp} {s : Shared} (I : Inv X pins σ H s) : ∀ {ys : List V} {ds : List PyData} {vs : List Value}, DpAll X.K H ys ds → Vals ys vs →
    PySem.W.EachIs (fun v (b : V × PyData) => RelV b.1 v ∧ Dp X.K H b.1 b.2) vs (ys.zip ds) ∧ PySem.W.EachIs (fun v (b : V × PyData) => ∃ as, Reads s.heap v b.2 as) vs (ys.zip ds)
  | [], _, _, h, r => by
    cases h
    cases r
    exact ⟨.nil, .nil⟩
  | y :: ys, _, _, h, r => by
    cases h with
    | cons h1 h2 =>
      cases r with
      | cons r1 r2 =>
        obtain ⟨e1, e2⟩ := zip_each I h2 r2
        exact ⟨.cons ⟨r1, h1⟩ e1, .cons (Dp.reads I _ _ _ h1 r1) e2⟩
theorem each_vals {K : PySem.W.Frag} {H : Hp} : ∀ {vs : List Value} {bs : List (V × PyData)}, PySem.W.EachIs (fun v (b : V × PyData) => RelV b.1 v ∧ Dp K H b.1 b.2) vs bs → Vals (bs.map (·.1)) vs ∧ DpAll K H (bs.map (·.1)) (bs.map (·.2))
  | _, _, .nil => ⟨.nil, .nil⟩
  | _, _, .cons ⟨r, d⟩ t => by
    obtain ⟨e1, e2⟩ := each_vals t
    exact ⟨.cons r e1, .cons d e2⟩
theorem dp_len {K : PySem.W.Frag} {H : Hp} : ∀ {ys : List V} {ds : List PyData}, DpAll K H ys ds → ys.length = ds.length
  | [], _, h => by
    cases h
    rfl
  | _ :: ys, _, h => by
    cases h with
    | cons _ h2 =>
      rw [List.length_cons, List.length_cons, dp_len h2]
def rSortedDt (K : PySem.W.Frag) : List V → Hp → VK → Prop := fun xs H Q => ∃ (a : Addr) (ys : List V) (ds : List PyData), xs = [V.ref a] ∧ SqL K H a ys ∧ DpAll K H ys ds ∧ PySem.W.AllAlike ds ∧ PySem.W.Sortable ds ∧ (∀ d ∈ ds, d.depth ≤ 50) ∧
  ∀ (zs : List V) (p : Addr), DpAll K H zs (((ys.zip ds).mergeSort (PySem.W.dataLe false (·.2))).map (·.2)) → H p = none → Q (.ref p) (upd H p (.lst zs))
theorem cr_sortedDt (hu : X.A.units + 64 < cLine) : CallR X (.builtin "sorted") (rSortedDt X.K) := by
  intro pins s σ H xs us Q I r h
  obtain ⟨a, ys, ds, rfl, hs, hd, al, so, dep, q⟩ := h
  obtain ⟨its, rv, hl, hz⟩ := I.list hs
  rw [Vals.ref1 r]
  obtain ⟨e1, e2⟩ := zip_each I hd rv
  have em : (ys.zip ds).map (·.2) = ds := List.map_snd_zip (by rw [dp_len hd]; exact Nat.le_refl _)
  have ln : (ys.zip ds).length = ys.length := by rw [List.length_zip, dp_len hd, Nat.min_self]
  refine PySem.W.sorted_data (bs := ys.zip ds) (enc := (·.2)) hl.isList e1 e2 (by rw [em]; exact al) (by rw [em]; exact so) (by rw [ln]; exact hz) (fun b hb => ?_) fun out hlen ho => ?_
  · have := dep b.2 (by rw [← em]; exact List.mem_map.mpr ⟨b, hb, rfl⟩)
    omega
  · obtain ⟨f1, f2⟩ := each_vals ho
    obtain ⟨ep, he'⟩ := PyProof.Rows.sortedAll_at s.heap its out.toArray
    refine ⟨.ref _, upd H (s.heap.objs.size + 1) (.lst _), I.laid (t' := s.toks) (fun _ _ => PyProof.Rows.sortedAll_old) (Nat.le_succ _) ⟨?_, out, ep, f1, he'⟩, rfl, q _ _ f2 (I.hok.fresh (Nat.le_succ _))⟩
    rw [List.length_map, List.length_mergeSort, ln]
    exact hz
end
end TR
end
section
set_option Elab.async false
set_option maxRecDepth 100000
set_option linter.all false
namespace TR
open PySem PySem.Spec PyProof.Rows L2 TM TX TK TB TP TH TU TW
section
variable {X : Cx}
abbrev PT := Addr × List Key × Addr × V
def PtOk (K : PySem.W.Frag) (H : Hp) (t : PT) : Prop := SqT K H t.1 [.ref t.2.2.1, t.2.2.2] ∧ H t.2.2.1 = some (.tup (t.2.1.map kV))
def PtIs (h : Heap) (t : PT) (z : List Key × Addr × Value) : Prop := z.1 = t.2.1 ∧ z.2.1 = t.2.2.1 ∧ RelV t.2.2.2 z.2.2 ∧ h.IsTuple t.1 #[.ref z.2.1, z.2.2]
theorem pts_is {pins : List (Addr × Obj)} {σ : L2.St} {H : Hp} {s : Shared} (I : Inv X pins σ H s) : ∀ ts : List PT, (∀ t ∈ ts, PtOk X.K H t) → ∃ zs, Paired (PtIs s.heap) ts zs
  | [], _ => ⟨[], .nil⟩
  | t :: r, h => by
    obtain ⟨zs, hz⟩ := pts_is I r fun x hx => h x (List.mem_cons_of_mem _ hx)
    obtain ⟨h1, h2⟩ := h t List.mem_cons_self
    obtain ⟨its, rv, ht, _⟩ := I.tuple h1
    obtain ⟨u, y, rfl, ru, ry⟩ := vals2 rv
    obtain rfl : u = Value.ref t.2.2.1 := ru
    exact ⟨(t.2.1, t.2.2.1, y) :: zs, .cons ⟨rfl, rfl, ry, ht⟩ hz⟩
theorem paired_at {α β : Type} {F : α → β → Prop} : ∀ {l : List α} {m : List β}, Paired F l m → ∀ (j : Nat) (b : β), m[j]? = some b → ∃ a, l[j]? = some a ∧ F a b
  | _, _, .nil, j, b, e => by simp at e
  | _, _, .cons h t, 0, b, e => ⟨_, rfl, by
      have e' := Option.some.inj (show some _ = some b from e)
      rw [← e']
      exact h⟩
  | _, _, .cons h t, j + 1, b, e => by
    obtain ⟨a, e1, e2⟩ := paired_at t j b (by simpa using e)
    exact ⟨a, by simpa using e1, e2⟩
theorem pts_keys {h : Heap} {ts : List PT} {zs : List (List Key × Addr × Value)} (P : Paired (PtIs h) ts zs) : zs.map (·.1) = ts.map fun t => t.2.1 := by
  induction P with
  | nil => rfl
  | cons h _ ih => rw [List.map_cons, List.map_cons, ih, h.1]
theorem atKey_no : ∀ {xs : List (List Key × Addr × Value)} {k : List Key}, k ∉ xs.map (·.1) → atKey xs k = none
  | [], _, _ => rfl
  | x :: xs, k, h => by
    have h1 : x.1 ≠ k := fun e => h (List.mem_map.mpr ⟨x, List.mem_cons_self, e⟩)
    have h2 := atKey_no (xs := xs) (k := k) fun z => h (List.mem_cons_of_mem _ z)
    simp [atKey, h1] at h2 ⊢
    exact h2
theorem stored_new : ∀ (zs acc : List (List Key × Addr × Value)), ((acc ++ zs).map (·.1)).Nodup → PySem.storedAllH acc zs = acc ++ zs
  | [], acc, _ => by simp [PySem.storedAllH]
  | z :: r, acc, nd => by
    have h1 : z.1 ∉ acc.map (·.1) := fun hm => by
      rw [List.map_append, List.nodup_append] at nd
      exact nd.2.2 _ hm _ (List.mem_map.mpr ⟨z, List.mem_cons_self, rfl⟩) rfl
    show PySem.storedAllH (storedH acc z.1 z.2.1 z.2.2) r = _
    rw [storedH_new (atKey_no h1), stored_new r _ (by rw [List.append_assoc]; exact nd), List.append_assoc]
    rfl
theorem call_dictPT (hc : X.calm = true) (hu : X.A.units + 2 < cLine) : CallR X (.type "dict") (fun xs H Q => ∃ (a : Addr) (ts : List PT), xs = [V.ref a] ∧ SqL X.K H a (ts.map fun t => V.ref t.1) ∧ (∀ t ∈ ts, PtOk X.K H t) ∧ (ts.map fun t => t.2.1).Nodup ∧
    ∀ p, H p = none → Q (.ref p) (upd H p (.dT (ts.map fun t => (t.2.1, t.2.2.2))))) := by
  intro pins s σ H xs us Q I r h
  obtain ⟨a, ts, rfl, hs, hp, nd, q⟩ := h
  obtain ⟨u, rfl, rx⟩ := r.one
  cases rx
  obtain ⟨its, rv, pl, hz⟩ := I.list hs
  have ei : its = (ts.map fun t => t.1).map Value.ref := refs_at (by rw [List.map_map]; exact rv)
  subst ei
  obtain ⟨zs, P⟩ := pts_is I ts hp
  have hl : ts.length = zs.length := Paired.length P
  have nz : (zs.map (·.1)).Nodup := by rw [pts_keys P]; exact nd
  rw [List.length_map] at hz
  let Ts : Nat → Addr := fun j => (ts.getD j (0, [], 0, .non)).1
  have ok : PySem.PlainSeq "list" s.heap a ((ts.map fun t => t.1).map Value.ref).toArray ∧ PySem.PairItems s.heap ((ts.map fun t => t.1).map Value.ref).toArray Ts (zs.map fun z => (Value.ref z.2.1, z.2.2)) := by
    refine ⟨?_, by simp [hl], fun j k v e => ?_⟩
    · obtain ⟨o, n, ho, hc', hd, hdat⟩ := pl
      exact ⟨o, n, ho, hc', hd, hdat⟩
    · rw [List.getElem?_map] at e
      obtain ⟨z, ez, e2⟩ := Option.map_eq_some_iff.mp e
      obtain ⟨t, et, h1, h2, h3, h4⟩ := paired_at P j z ez
      cases e2
      have eT : Ts j = t.1 := by
        show (ts.getD j _).1 = _
        rw [List.getD_eq_getElem?_getD, et]
        rfl
      rw [eT]
      refine ⟨?_, .inl h4⟩
      simp [et]
  refine PySem.call_dict_pairsH (knd := tupleKind (mixKind X.prog X.w)) (ps := zs) (PySem.PairArg.list a _ Ts _) (I.ok.hd hc) (by show X.A.units + 1 + 1 < cLine; omega) ok ⟨by simp, fun i key v e => ?_⟩ (fun h' hk x hx => ?_) (by rw [List.length_map, ← hl]; exact hz) fun h' tk hd hk => ?_
  · rw [PySem.PairRel, List.getElem?_map] at e
    obtain ⟨z, ez, e2⟩ := Option.map_eq_some_iff.mp e
    cases e2
    exact ⟨z.1, z.2.1, ez, rfl⟩
  · obtain ⟨j, hj⟩ := List.mem_iff_getElem?.mp hx
    obtain ⟨t, et, h1, h2, h3, h4⟩ := paired_at P j x hj
    have hb := (hp t (List.mem_of_getElem? et)).2
    have ko := key_of I.hok hb
    rw [h1, h2]
    obtain ⟨o, items, m, k1, k2, k3, k4⟩ := ko
    exact ⟨o, items, m, hk _ _ (Nat.ne_of_lt (Heap.lt_size k1)) (by simp) k1, k2, k3, k4⟩
  · rw [stored_new zs [] (by rw [List.nil_append]; exact nz), List.nil_append] at hd
    obtain ⟨o, es, ep, d1, d2, d3, d4, _, d5⟩ := hd
    have hm : (s.heap.objs.size == sysModules) = false := beq_eq_false_iff_ne.mpr (Nat.ne_of_gt I.big)
    have fr : H s.heap.objs.size = none := I.hok.fresh (Nat.le_refl _)
    have kt : ∀ {l : List PT} {m : List (List Key × Addr × Value)}, Paired (PtIs s.heap) l m → (∀ t ∈ l, PtOk X.K H t) → Paired (fun (p : List Key × V) (q : List Key × Addr × Value) => p.1 = q.1 ∧ (upd H s.heap.objs.size (.dT (ts.map fun t => (t.2.1, t.2.2.2)))) q.2.1 = some (.tup (p.1.map kV)) ∧ RelV p.2 q.2.2) (l.map fun t => (t.2.1, t.2.2.2)) m := by
      intro l m Pm
      induction Pm with
      | nil => intro _; exact .nil
      | cons h1 _ ih =>
        intro hl
        obtain ⟨g1, g2, g3, _⟩ := h1
        have hb := (hl _ List.mem_cons_self).2
        refine .cons ⟨g1.symm, ?_, g3⟩ (ih fun x hx => hl x (List.mem_cons_of_mem _ hx))
        rw [g2, upd_ne (ne_of_none hb fr)]
        exact hb
    exact ⟨.ref s.heap.objs.size, upd H s.heap.objs.size (.dT (ts.map fun t => (t.2.1, t.2.2.2))), I.laid (t' := tk) (fun b o e => hk b o (by simp) e) (Nat.le_refl _) (show ObjOk X.prog X.w _ _ _ (.dT (ts.map fun t => (t.2.1, t.2.2.2))) from ⟨by rw [List.length_map]; exact hz, hm, zs, kt P hp, o, es, ep, d1, d2, d3, d4, d5⟩), rfl, q _ fr⟩
end
end TR
end
section
set_option Elab.async false
set_option maxRecDepth 100000
set_option linter.all false
namespace TR
open PySem PySem.Spec PyProof.Rows L2 TM TX TK TB TP TH TU TW
def dP (w : Nat) (pa pb : Nat → Nat) (m : Nat) : PyData := .tuple [plD w (pa m), plD w (pb m)]
section
variable {X : Cx}
theorem pl_reads {pins : List (Addr × Obj)} {σ : L2.St} {H : Hp} {s : Shared} (I : Inv X pins σ H s) {q : Addr} {w k : Nat} (h : H q = some (.tup (plV w k))) : Reads s.heap (.ref q) (plD w k) [] := by
  obtain ⟨_, its, rv, o, ho, hc, n, hd⟩ := I.hok _ _ h
  obtain ⟨u1, u2, rfl, ri, rj⟩ := vals2 rv
  obtain ⟨t1, rfl⟩ := ri
  obtain ⟨t2, rfl⟩ := rj
  exact Reads.tuple ho hc hd (by simpa using ReadsAll.cons (Reads.int _ t1) (ReadsAll.cons (Reads.int _ t2) ReadsAll.nil))
theorem dP_alike (w : Nat) (pa pb : Nat → Nat) (L : List Nat) : PySem.W.AllAlike (L.map (dP w pa pb)) := fun d hd d' hd' => by
  obtain ⟨m, _, rfl⟩ := List.mem_map.mp hd
  obtain ⟨m', _, rfl⟩ := List.mem_map.mp hd'
  rfl
theorem dP_sortable (w : Nat) (pa pb : Nat → Nat) (L : List Nat) : PySem.W.Sortable (L.map (dP w pa pb)) := .inl fun d hd => by
  obtain ⟨m, _, rfl⟩ := List.mem_map.mp hd
  exact ⟨_, _, rfl⟩
def DtAt (H : Hp) (d : Addr) (w : Nat) (pa pb : Nat → Nat) (L : List Nat) (qa : Nat → Addr) : Prop := H d = some (.dT (L.map fun m => (plK w (pa m), V.ref (qa m)))) ∧ ∀ m ∈ L, H (qa m) = some (.tup (plV w (pb m)))
/-- the pairs that stand at these addresses -/
def ItAt (K : PySem.W.Frag) (H : Hp) (w : Nat) (pa pb : Nat → Nat) (zs : List (Addr × Nat)) : Prop := DpAll K H (zs.map fun z => V.ref z.1) (zs.map fun z => dP w pa pb z.2)
set_option maxHeartbeats 8000000 in
theorem cr_sortedIt (hc : X.calm = true) (hu : X.A.units + 64 < cLine) : CallR X (.builtin "sorted") (fun xs H Q => ∃ (p d : Addr) (w : Nat) (pa pb : Nat → Nat) (L : List Nat) (qa : Nat → Addr), xs = [V.ref p] ∧ H p = some (DX.itemsO p d) ∧ DtAt H d w pa pb L qa ∧ L.length ≤ 1000 ∧
    ∀ (H' : Hp) (l : Addr) (zs : List (Addr × Nat)), Same H H' → H l = none → zs.map (fun z => dP w pa pb z.2) = (L.map (dP w pa pb)).mergeSort (PySem.W.dataLe false id) → ItAt X.K H' w pa pb zs → H' l = some (.lst (zs.map fun z => V.ref z.1)) → Q (.ref l) H') := by
  intro pins s σ H xs us Q I r h
  obtain ⟨p, d, w, pa, pb, L, qa, rfl, hp, ⟨hd, hv⟩, hL, q⟩ := h
  obtain ⟨u, rfl, rx⟩ := r.one
  cases rx
  have view : s.heap.IsItemsView p d := (show ObjOk X.prog X.w H s.heap p (DX.itemsO p d) from I.hok p _ hp).1
  obtain ⟨z, hds, xs', rel, o, es, ep, ho, hx, hdat, hes, his, hn⟩ := dt_of I.hok hd
  have l1 : L.length = xs'.length := by
    have := Paired.length rel
    rw [List.length_map] at this
    exact this
  have l2 : es.size = xs'.length := size_of_entries hes
  refine DT.sortedI (es := es) (ep := ep) (I.ok.hd hc) view ⟨o, ho, hx, hdat⟩ (by rw [sizeLine_eq]; omega) fun h' tk as hk hlt hl hG => ?_
  have nd : as.Nodup := List.Pairwise.imp (fun h => Nat.ne_of_lt h) hG.rise
  have lak : as.length = L.length := by omega
  -- what stands at the new pairs
  have pr : ∀ (j : Nat) (b : Addr) (m : Nat), as[j]? = some b → L[j]? = some m → ∃ kq : Addr, H kq = some (.tup (plV w (pa m))) ∧ h'.get? b = some { cls := .type "tuple", data := .seq #[Value.ref kq, Value.ref (qa m)] } := by
    intro j b m hj hm
    obtain ⟨en, he, hg⟩ := hG.pairs j b hj
    rw [entry_at hes j] at he
    obtain ⟨x, hxj, een⟩ := Option.map_eq_some_iff.mp he
    obtain ⟨e0, he0, r1, r2, r3⟩ := paired_at rel j x hxj
    rw [List.getElem?_map, hm] at he0
    have ee : (plK w (pa m), V.ref (qa m)) = e0 := Option.some.inj he0
    rw [← ee] at r2 r3
    have r3' : x.2.2 = Value.ref (qa m) := r3
    refine ⟨x.2.1, r2, ?_⟩
    rw [hg, ← een, ← r3']
    rfl
  have hob : (h'.push { cls := .type "list", data := .seq (as.map Value.ref).toArray }).get? h'.objs.size = some (seqObj "list" (as.map Value.ref).toArray 0) := Heap.get?_push_size _ rfl
  have kb : ∀ b o, s.heap.get? b = some o → (h'.push { cls := .type "list", data := .seq (as.map Value.ref).toArray }).get? b = some o := fun b o e => Heap.get?_push_of_some _ (hk b o e)
  have ne0 : ∀ b o, h'.get? b = some o → b ≠ h'.objs.size := fun b o e => Nat.ne_of_lt (Heap.lt_size e)
  generalize hh2 : h'.push { cls := .type "list", data := .seq (as.map Value.ref).toArray } = h2 at hob kb ⊢
  have ka : ∀ b o, h'.get? b = some o → h2.get? b = some o := fun b o e => by
    rw [← hh2]
    exact Heap.get?_push_of_some _ e
  have I0 : Inv X pins σ H { s with heap := h2, toks := tk } := I.kept (t' := tk) kb
  have eachz : ∀ (as : List Addr) (L : List Nat), as.length = L.length → (∀ (j : Nat) (b : Addr) (m : Nat), as[j]? = some b → L[j]? = some m → m ∈ L → ∃ kq : Addr, H kq = some (.tup (plV w (pa m))) ∧ H (qa m) = some (.tup (plV w (pb m))) ∧ h2.get? b = some { cls := .type "tuple", data := .seq #[Value.ref kq, Value.ref (qa m)] }) →
      PySem.W.EachIs (fun v (z : Addr × Nat) => v = Value.ref z.1) (as.map Value.ref) (as.zip L) ∧ PySem.W.EachIs (fun v (z : Addr × Nat) => ∃ rs, Reads h2 v (dP w pa pb z.2) rs ∧ h'.objs.size ∉ rs) (as.map Value.ref) (as.zip L) := by
    intro as L hl hp
    induction as generalizing L with
    | nil => exact ⟨.nil, .nil⟩
    | cons b as ih =>
      cases L with
      | nil => simp at hl
      | cons m L =>
        obtain ⟨e1, e2⟩ := ih L (by simpa using hl) fun j b' m' h1 h2 h3 => hp (j + 1) b' m' (by simpa using h1) (by simpa using h2) (List.mem_cons_of_mem _ h3)
        obtain ⟨kq, g1, g2, g3⟩ := hp 0 b m rfl rfl List.mem_cons_self
        refine ⟨.cons rfl e1, .cons ⟨[], Reads.tuple g3 rfl rfl ?_, by simp⟩ e2⟩
        have := ReadsAll.cons (pl_reads I0 g1) (ReadsAll.cons (pl_reads I0 g2) ReadsAll.nil)
        simpa using this
  obtain ⟨eR, eD⟩ := eachz as L lak fun j b m h1 h2 h3 => by
    obtain ⟨kq, g1, g2⟩ := pr j b m h1 h2
    exact ⟨kq, g1, hv m h3, ka _ _ g2⟩
  have em : (as.zip L).map (fun z : Addr × Nat => dP w pa pb z.2) = L.map (dP w pa pb) := by
    have : (as.zip L).map (·.2) = L := List.map_snd_zip (by rw [lak]; exact Nat.le_refl _)
    conv => rhs; rw [← this]
    rw [List.map_map]
    rfl
  have ln : (as.zip L).length = L.length := by rw [List.length_zip, lak, Nat.min_self]
  refine PySem.W.list_sort_data (A := X.A.in1) (s := { s with heap := h2, toks := tk }) (bs := as.zip L) (enc := fun z => dP w pa pb z.2) hob eR eD (by rw [em]; exact dP_alike w pa pb L) (by rw [em]; exact dP_sortable w pa pb L) (by rw [ln, sizeLine_eq]; omega) (fun b hb => by show X.A.units + 1 + 1 + 2 < cLine; omega) fun out hlen hout => ?_
  have hzs : out = ((as.zip L).mergeSort (PySem.W.dataLe false fun z => dP w pa pb z.2)).map fun z => Value.ref z.1 := by
    clear hlen
    generalize (as.zip L).mergeSort (PySem.W.dataLe false fun z => dP w pa pb z.2) = zs at hout
    induction hout with
    | nil => rfl
    | cons h1 _ ih => rw [List.map_cons, ← ih, h1]
  have pz : ((as.zip L).mergeSort (PySem.W.dataLe false fun z => dP w pa pb z.2)).Perm (as.zip L) := List.mergeSort_perm _ _
  have es' : ((as.zip L).mergeSort (PySem.W.dataLe false fun z => dP w pa pb z.2)).map (fun z => dP w pa pb z.2) = (L.map (dP w pa pb)).mergeSort (PySem.W.dataLe false id) := by
    rw [← em]
    exact List.map_mergeSort fun _ _ _ _ => rfl
  generalize (as.zip L).mergeSort (PySem.W.dataLe false fun z => dP w pa pb z.2) = zs at hout hzs pz es'
  subst hzs
  have idx : ∀ z ∈ zs, ∃ j : Nat, as[j]? = some z.1 ∧ L[j]? = some z.2 := fun z hz => by
    obtain ⟨j, hj⟩ := List.mem_iff_getElem?.mp (pz.mem_iff.mp hz)
    exact ⟨j, List.getElem?_zip_eq_some.mp hj⟩
  -- behind the sort
  have kF : ∀ b o, b ≠ h'.objs.size → h2.get? b = some o → (sortedHeap h2 h'.objs.size (as.map Value.ref) (List.toArray (zs.map fun z => Value.ref z.1))).get? b = some o := fun b o hb e => (PyProof.Rows.sortedHeap_old hb (Heap.lt_size e)).trans e
  have kS : ∀ b o, s.heap.get? b = some o → (sortedHeap h2 h'.objs.size (as.map Value.ref) (List.toArray (zs.map fun z => Value.ref z.1))).get? b = some o := fun b o e => kF b o (ne0 _ _ (hk b o e)) (kb b o e)
  obtain ⟨eF, heF⟩ := PyProof.Rows.sortedHeap_at (vs := as.map Value.ref) (out := List.toArray (zs.map fun z => Value.ref z.1)) hob
  have I1 : Inv X pins σ H { s with heap := sortedHeap h2 h'.objs.size (as.map Value.ref) (List.toArray (zs.map fun z => Value.ref z.1)), toks := tk } := I.kept (t' := tk) kS
  have hn0 : H h'.objs.size = none := I.hok.fresh (Nat.le_of_lt hlt)
  have zl : zs.length = L.length := by rw [pz.length_eq, ln]
  have rv : Vals (zs.map fun z => V.ref z.1) (zs.map fun z => Value.ref z.1) := by
    have : ∀ l : List (Addr × Nat), Vals (l.map fun z => V.ref z.1) (l.map fun z => Value.ref z.1) := fun l => by
      induction l with
      | nil => exact .nil
      | cons z l ih => exact .cons rfl ih
    exact this zs
  have I2 : Inv X pins σ (upd H h'.objs.size (.lst (zs.map fun z => V.ref z.1))) { s with heap := sortedHeap h2 h'.objs.size (as.map Value.ref) (List.toArray (zs.map fun z => Value.ref z.1)), toks := tk } :=
    I1.take (h' := sortedHeap h2 h'.objs.size (as.map Value.ref) (List.toArray (zs.map fun z => Value.ref z.1))) (t' := tk) (fun b ob _ e => e) (I.fpOk (Nat.le_of_lt hlt) hn0) (show ObjOk X.prog X.w _ _ _ (.lst (zs.map fun z => V.ref z.1)) from ⟨by rw [List.length_map, zl, sizeLine_eq]; omega, zs.map fun z => Value.ref z.1, eF, rv, heF⟩)
  obtain ⟨H2, I3, g, qt⟩ := DX.takeT (P := fun b vs => ∃ (j : Nat) (m : Nat) (kq : Addr), as[j]? = some b ∧ L[j]? = some m ∧ vs = [.ref kq, .ref (qa m)] ∧ H kq = some (.tup (plV w (pa m)))) I as _ I2 nd fun b hb => by
    obtain ⟨j, hj⟩ := List.mem_iff_getElem?.mp hb
    obtain ⟨m, hm⟩ : ∃ m, L[j]? = some m := by
      have := (List.getElem?_eq_some_iff.mp hj).1
      exact ⟨L[j], List.getElem?_eq_getElem (by omega)⟩
    obtain ⟨kq, g1, g2⟩ := pr j b m hj hm
    have hbl : s.heap.objs.size ≤ b := Nat.le_of_lt (hG.above b hb)
    refine ⟨hbl, ?_, [.ref kq, .ref (qa m)], ⟨j, m, kq, hj, hm, rfl, g1⟩, fun H3 => ⟨(by rw [sizeLine_eq]; show 2 ≤ 16777216; omega), [Value.ref kq, Value.ref (qa m)], .cons rfl (.cons rfl .nil), ⟨_, kF _ _ (ne0 _ _ g2) (ka _ _ g2), rfl, 0, rfl⟩⟩⟩
    rw [upd_ne (ne0 _ _ g2)]
    exact I.hok.fresh hbl
  have gr : Same H H2 := fun b o e => g b o (by rw [upd_ne (ne_of_none e hn0)]; exact e)
  refine ⟨.ref h'.objs.size, H2, I3, rfl, q H2 h'.objs.size zs gr hn0 es' ?_ (g _ _ upd_same)⟩
  have : ∀ l : List (Addr × Nat), (∀ z ∈ l, z ∈ zs) → DpAll X.K H2 (l.map fun z => V.ref z.1) (l.map fun z => dP w pa pb z.2) := fun l => by
    induction l with
    | nil => intro _; exact .nil
    | cons z l ih =>
      intro hl'
      refine .cons ?_ (ih fun y hy => hl' y (List.mem_cons_of_mem _ hy))
      obtain ⟨i, i1, i2⟩ := idx z (hl' z List.mem_cons_self)
      obtain ⟨vs, ⟨j, m, kq, j1, j2, ev, hkq⟩, hH⟩ := qt z.1 (List.mem_of_getElem? i1)
      have eij : i = j := (List.getElem?_inj (List.getElem?_eq_some_iff.mp i1).1 nd).mp (i1.trans j1.symm)
      subst eij
      have ee : m = z.2 := Option.some.inj (j2.symm.trans i2)
      subst ee
      rw [ev] at hH
      exact .tup (SqT.of hH) (.cons (pl_dp (gr _ _ hkq)) (.cons (pl_dp (gr _ _ (hv _ (List.mem_of_getElem? i2)))) .nil))
  exact this zs fun _ h => h
end
end TR
end
section
set_option Elab.async false
set_option maxRecDepth 100000
set_option linter.all false
namespace TR
open PySem PySem.W PySem.Calls PyProof.Rows PyProof.V PySem.Spec
theorem call_listI {prog : Program} {w : World} {A : Around} {E : Value → Shared → Prop} {s : Shared} {r d : Addr} {es : Array DictEntry} {ep : Nat} {Q : Value → Shared → Prop} (hh : A.handled = none) (hv : s.heap.IsItemsView r d) (hm : _root_.DT.Raw s.heap d es ep) (hn : es.size ≤ sizeLine)
    (q : ∀ (h' : Heap) (tk : Nat) (acc : Array Value) (c : Nat) (as : List Addr), (∀ b o, s.heap.get? b = some o → h'.get? b = some o) → h'.get? s.heap.objs.size = some { cls := .type "list", dict := none, data := .seq acc c, slots := #[] } → as.length = es.size → _root_.DT.Made es s.heap.objs.size h' as → acc.toList = as.map Value.ref →
      Q (.ref s.heap.objs.size) { s with heap := h', toks := tk }) : wpAny (model prog w) A (call (.type "list") [.ref r]) Q E s := by
  obtain ⟨hv1, hv2⟩ : r < s.heap.objs.size ∧ d < s.heap.objs.size := ⟨let ⟨_, ho, _⟩ := hv; Heap.lt_size ho, hm.lt⟩
  obtain ⟨S, hS⟩ : ∃ S, S = s.heap.objs.size := ⟨_, rfl⟩
  have free : ∀ {b : Addr} {o : Obj}, s.heap.get? b = some o → b ≠ S := fun e => by
    rw [hS]
    exact Nat.ne_of_lt (Heap.lt_size e)
  refine callType_codes (Q₁ := fun u t => u = .ref S ∧ t = { s with heap := s.heap.push { cls := .type "list", data := .seq #[] } }) PySem.F.called_list (PySem.F.typeCall_list_1 _) PySem.F.entry_list_init (code_list_new _ ⟨by rw [hS], rfl⟩) ?_
  rintro u t ⟨rfl, rfl⟩
  have at0 : (s.heap.push { cls := .type "list", data := .seq #[] }).get? S = some { cls := .type "list", data := .seq #[] } := by
    rw [hS]
    exact Heap.get?_push_size _ rfl
  have old0 : ∀ {b : Addr} {o : Obj}, s.heap.get? b = some o → (s.heap.push { cls := .type "list", data := .seq #[] }).get? b = some o := fun e => Heap.get?_push_of_some _ e
  generalize s.heap.push { cls := .type "list", data := .seq #[] } = h1 at at0 old0
  refine ⟨⟨_, at0, rfl⟩, PySem.F.args_list_init_2 _ _, ?_⟩
  show wpAny _ _ (do let old ← Builtin.List.listItems (.ref S); Builtin.List.listUpdate (.ref S) (fun _ => #[]); letGo old.toList.reverse; Builtin.List.listExtendWith (.ref S) (.ref r) .none) _ _ _
  refine wpAny_bind ?_
  unfold Builtin.List.listItems
  refine wpAny_bind (wpAny_seqItems at0 rfl (wpAny_pure ?_))
  show wpAny _ _ (updateSeq S (fun _ => #[]) >>= fun _ => letGo (#[] : Array Value).toList.reverse >>= fun _ => Builtin.List.listExtendWith (.ref S) (.ref r) .none) _ _ _
  refine wpAny_bind (wpAny_updateSeq at0 rfl ?_)
  have at1 := Heap.get?_update_self (Obj.mapSeq (fun _ => (#[] : Array Value))) at0 rfl
  have old1 : ∀ {b : Addr} {o : Obj}, s.heap.get? b = some o → (h1.update S (Obj.mapSeq (fun _ => (#[] : Array Value)))).get? b = some o := fun e => (Heap.get?_update_other _ _ (free e).symm).trans (old0 e)
  have sz1 : s.heap.objs.size ≤ (h1.update S (Obj.mapSeq (fun _ => (#[] : Array Value)))).objs.size := by
    rw [Heap.size_update, ← hS]
    exact Nat.le_of_lt (Heap.lt_size at0)
  refine wpAny_bind (wpAny_letGo ?_)
  refine _root_.DT.extI (A := A.in1) (prog := prog) (w := w) (R := fun (z : Result) (t : Shared) => wants (fun r s₂ => r = Value.none ∧ Q (Value.ref S) s₂) E z t) (s := { s with heap := h1.update S (Obj.mapSeq (fun _ => (#[] : Array Value))) }) (es := es) (ep := ep) hh (let ⟨o, ho, x⟩ := hv; ⟨o, old1 ho, x⟩) (hm.at' fun o e => old1 e) S (by rw [hS]; exact Nat.ne_of_gt hv1) (by rw [hS]; exact Nat.ne_of_lt hv2) .none _ at1 (fun h' tk acc c as hk hS' hl hG hacc => ?_) hn
  subst hS
  exact ⟨rfl, q h' tk acc c as (fun b o e => hk b o (Nat.ne_of_lt (Heap.lt_size e)) (old1 e)) hS' hl (hG.low sz1) hacc⟩
end TR
namespace TR
open PySem PySem.Spec PyProof.Rows L2 TM TX TK TB TP TH TU TW
section
variable {X : Cx}
set_option maxHeartbeats 8000000 in
theorem cr_listIt (hc : X.calm = true) : CallR X (.type "list") (fun xs H Q => ∃ (p d : Addr) (w : Nat) (pa pb : Nat → Nat) (L : List Nat) (qa : Nat → Addr), xs = [V.ref p] ∧ H p = some (DX.itemsO p d) ∧ DtAt H d w pa pb L qa ∧ L.length ≤ 1000 ∧
    ∀ (H' : Hp) (l : Addr) (zs : List (Addr × Nat)), Same H H' → H l = none → zs.map (·.2) = L → ItAt X.K H' w pa pb zs → H' l = some (.lst (zs.map fun z => V.ref z.1)) → Q (.ref l) H') := by
  intro pins s σ H xs us Q I r h
  obtain ⟨p, d, w, pa, pb, L, qa, rfl, hp, ⟨hd, hv⟩, hL, q⟩ := h
  obtain ⟨u, rfl, rx⟩ := r.one
  cases rx
  have view : s.heap.IsItemsView p d := (show ObjOk X.prog X.w H s.heap p (DX.itemsO p d) from I.hok p _ hp).1
  obtain ⟨z, hds, xs', rel, o, es, ep, ho, hx, hdat, hes, his, hn⟩ := dt_of I.hok hd
  have l1 : L.length = xs'.length := by
    have := Paired.length rel
    rw [List.length_map] at this
    exact this
  have l2 : es.size = xs'.length := size_of_entries hes
  refine call_listI (es := es) (ep := ep) (I.ok.hd hc) view ⟨o, ho, hx, hdat⟩ (by rw [sizeLine_eq]; omega) fun h' tk acc c as hk hl' hl hG hacc => ?_
  have nd : as.Nodup := List.Pairwise.imp (fun h => Nat.ne_of_lt h) hG.rise
  have lak : as.length = L.length := by omega
  have pr : ∀ (j : Nat) (b : Addr) (m : Nat), as[j]? = some b → L[j]? = some m → ∃ kq : Addr, H kq = some (.tup (plV w (pa m))) ∧ h'.get? b = some { cls := .type "tuple", data := .seq #[Value.ref kq, Value.ref (qa m)] } := by
    intro j b m hj hm
    obtain ⟨en, he, hg⟩ := hG.pairs j b hj
    rw [entry_at hes j] at he
    obtain ⟨x, hxj, een⟩ := Option.map_eq_some_iff.mp he
    obtain ⟨e0, he0, r1, r2, r3⟩ := paired_at rel j x hxj
    rw [List.getElem?_map, hm] at he0
    have ee : (plK w (pa m), V.ref (qa m)) = e0 := Option.some.inj he0
    rw [← ee] at r2 r3
    have r3' : x.2.2 = Value.ref (qa m) := r3
    refine ⟨x.2.1, r2, ?_⟩
    rw [hg, ← een, ← r3']
    rfl
  have I1 : Inv X pins σ H { s with heap := h', toks := tk } := I.kept (t' := tk) hk
  have hn0 : H s.heap.objs.size = none := I.hok.fresh (Nat.le_refl _)
  have az : (as.zip L).map (·.1) = as := List.map_fst_zip (by rw [lak]; exact Nat.le_refl _)
  have zL : (as.zip L).map (·.2) = L := List.map_snd_zip (by rw [lak]; exact Nat.le_refl _)
  have rv : Vals (as.map V.ref) (as.map Value.ref) := vals_refs as
  have I2 : Inv X pins σ (upd H s.heap.objs.size (.lst (as.map V.ref))) { s with heap := h', toks := tk } :=
    I1.take (h' := h') (t' := tk) (fun b ob _ e => e) (I.fpOk (Nat.le_refl _) hn0) (show ObjOk X.prog X.w _ _ _ (.lst (as.map V.ref)) from ⟨by rw [List.length_map, lak, sizeLine_eq]; omega, as.map Value.ref, c, rv, by rw [← hacc, Array.toArray_toList]; exact hl'⟩)
  obtain ⟨H2, I3, g, qt⟩ := DX.takeT (P := fun b vs => ∃ (j : Nat) (m : Nat) (kq : Addr), as[j]? = some b ∧ L[j]? = some m ∧ vs = [.ref kq, .ref (qa m)] ∧ H kq = some (.tup (plV w (pa m)))) I as _ I2 nd fun b hb => by
    obtain ⟨j, hj⟩ := List.mem_iff_getElem?.mp hb
    obtain ⟨m, hm⟩ : ∃ m, L[j]? = some m := by
      have := (List.getElem?_eq_some_iff.mp hj).1
      exact ⟨L[j], List.getElem?_eq_getElem (by omega)⟩
    obtain ⟨kq, g1, g2⟩ := pr j b m hj hm
    have hbl := hG.above b hb
    refine ⟨Nat.le_of_lt hbl, ?_, [.ref kq, .ref (qa m)], ⟨j, m, kq, hj, hm, rfl, g1⟩, fun H3 => ⟨(by rw [sizeLine_eq]; show 2 ≤ 16777216; omega), [Value.ref kq, Value.ref (qa m)], .cons rfl (.cons rfl .nil), ⟨_, g2, rfl, 0, rfl⟩⟩⟩
    rw [upd_ne (Nat.ne_of_gt hbl)]
    exact I.hok.fresh (Nat.le_of_lt hbl)
  have gr : Same H H2 := fun b o e => g b o (by rw [upd_ne (ne_of_none e hn0)]; exact e)
  refine ⟨.ref s.heap.objs.size, H2, I3, rfl, q H2 s.heap.objs.size (as.zip L) gr hn0 zL ?_ ?_⟩
  · have idx : ∀ z ∈ as.zip L, ∃ j : Nat, as[j]? = some z.1 ∧ L[j]? = some z.2 := fun z hz => by
      obtain ⟨j, hj⟩ := List.mem_iff_getElem?.mp hz
      exact ⟨j, List.getElem?_zip_eq_some.mp hj⟩
    have : ∀ l : List (Addr × Nat), (∀ z ∈ l, z ∈ as.zip L) → DpAll X.K H2 (l.map fun z => V.ref z.1) (l.map fun z => dP w pa pb z.2) := fun l => by
      induction l with
      | nil => intro _; exact .nil
      | cons z l ih =>
        intro hl'
        refine .cons ?_ (ih fun y hy => hl' y (List.mem_cons_of_mem _ hy))
        obtain ⟨i, i1, i2⟩ := idx z (hl' z List.mem_cons_self)
        obtain ⟨vs, ⟨j, m, kq, j1, j2, ev, hkq⟩, hH⟩ := qt z.1 (List.mem_of_getElem? i1)
        have eij : i = j := (List.getElem?_inj (List.getElem?_eq_some_iff.mp i1).1 nd).mp (i1.trans j1.symm)
        subst eij
        have ee : m = z.2 := Option.some.inj (j2.symm.trans i2)
        subst ee
        rw [ev] at hH
        exact .tup (SqT.of hH) (.cons (pl_dp (gr _ _ hkq)) (.cons (pl_dp (gr _ _ (hv _ (List.mem_of_getElem? i2)))) .nil))
    exact this _ fun _ h => h
  · have : (as.zip L).map (fun z => V.ref z.1) = as.map V.ref := by
      conv => rhs; rw [← az]
      rw [List.map_map]
      rfl
    rw [this]
    exact g _ _ upd_same
end
end TR
end
section
set_option Elab.async false
set_option maxRecDepth 100000
set_option linter.all false
namespace TR
open PySem PySem.Spec PyProof.Rows L2 TM TX TK TB TP TH TU TW
def Q4 (d : PyData) : Prop := ∃ a b c e : Int, d = .tuple [.tuple [.int a, .int b], .tuple [.int c, .int e]]
theorem q4_inj {d d' : PyData} (h : Q4 d) (h' : Q4 d') (e : PySem.W.keyToks d = PySem.W.keyToks d') : d = d' := by
  obtain ⟨a1, b1, c1, e1, rfl⟩ := h
  obtain ⟨a2, b2, c2, e2, rfl⟩ := h'
  simp [PySem.W.keyToks, PySem.W.keyToksAll] at e
  obtain ⟨rfl, rfl, rfl, rfl⟩ := e
  rfl
theorem q4_dP (w : Nat) (pa pb : Nat → Nat) (L : List Nat) : ∀ d ∈ L.map (dP w pa pb), Q4 d := fun d hd => by
  obtain ⟨m, _, rfl⟩ := List.mem_map.mp hd
  exact ⟨_, _, _, _, rfl⟩
theorem sort_same {ds ds' : List PyData} (p : ds.Perm ds') (h : ∀ d ∈ ds, Q4 d) : ds.mergeSort (PySem.W.dataLe false id) = ds'.mergeSort (PySem.W.dataLe false id) := by
  have T := PySem.W.sortLe_total (PyProof.Rows.listOrd PyProof.Rows.itemOrd) false fun b : PyData => PySem.W.keyToks b
  refine List.Perm.eq_of_pairwise (le := fun a b => PySem.W.dataLe false id a b = true) (fun a b ha hb h1 h2 => ?_) (List.pairwise_mergeSort T.trans (fun a b => by rw [Bool.or_eq_true]; exact T.total a b) _) (List.pairwise_mergeSort T.trans (fun a b => by rw [Bool.or_eq_true]; exact T.total a b) _) ((List.mergeSort_perm _ _).trans (p.trans (List.mergeSort_perm _ _).symm))
  have ha' := (List.mergeSort_perm ds (PySem.W.dataLe false id)).mem_iff.mp ha
  have hb' := p.mem_iff.mpr ((List.mergeSort_perm ds' (PySem.W.dataLe false id)).mem_iff.mp hb)
  refine q4_inj (h a ha') (h b hb') ?_
  have g1 : (!(PyProof.Rows.listOrd PyProof.Rows.itemOrd).blt (PySem.W.keyToks b) (PySem.W.keyToks a)) = true := h1
  have g2 : (!(PyProof.Rows.listOrd PyProof.Rows.itemOrd).blt (PySem.W.keyToks a) (PySem.W.keyToks b)) = true := h2
  exact (PyProof.Rows.listOrd PyProof.Rows.itemOrd).total _ _ (by simpa using g2) (by simpa using g1)
end TR
end
section
set_option Elab.async false
set_option maxRecDepth 100000
set_option linter.all false
namespace TR
open PySem PySem.Spec PyProof.Rows L2 TM TX TK TB TP TH TU TW
abbrev twelve : List Nat := [97, 98, 99, 100, 101, 102, 103, 104, 105, 106, 107, 108]
theorem cut_12 {d : Nat} (h : d ≤ 12) : cutS (S twelve) none (some (d : Int)) = S (twelve.take d) := by
  unfold cutS
  rw [S_len, S_list]
  have e1 : HT.sIx twelve.length 0 none = 0 := rfl
  have e2 : HT.sIx twelve.length twelve.length (some (d : Int)) = d := by
    unfold HT.sIx
    simp only
    rw [if_neg (by omega)]
    show min d 12 = d
    omega
  rw [e1, e2]
  rfl
theorem ints_dp {K : PySem.W.Frag} {H : Hp} : ∀ l : List Nat, DpAll K H (intV l) (l.map fun j => PyData.int (j : Nat))
  | [] => .nil
  | _ :: l => .cons (.int _) (ints_dp l)
theorem ints_depth : ∀ l : List Nat, PyData.depthAll (l.map fun j => PyData.int (j : Nat)) = 0
  | [] => rfl
  | x :: l => by
    show max (PyData.depth (.int _)) (PyData.depthAll (l.map fun j => PyData.int (j : Nat))) = 0
    rw [ints_depth l]
    rfl
theorem ints_lay : ∀ l : List Nat, PyData.canLayAll0 (l.map fun j => PyData.int (j : Nat)) = true
  | [] => rfl
  | x :: l => by
    show (PyData.canLay0 (.int (x : Nat)) && PyData.canLayAll0 (l.map fun j => PyData.int (j : Nat))) = true
    rw [ints_lay l]
    rfl
theorem ints_shaped (l : List Nat) : SeqAt.shaped (.list (l.map fun j => PyData.int (j : Nat))) = true := by
  show (PyData.canLayAll0 (l.map fun j => PyData.int (j : Nat)) && decide (PyData.depthAll (l.map fun j => PyData.int (j : Nat)) + 1 ≤ 64)) = true
  rw [ints_lay, ints_depth]
  rfl
theorem ints_some {l : List Nat} (h : l ≠ []) : PyData.eqv (.list (l.map fun j => PyData.int (j : Nat))) (.list []) = false := by
  cases l with
  | nil => exact absurd rfl h
  | cons x l => simp [PyData.eqv, PyData.eqvAll]
def two (k : Nat) : List Nat := if k = 0 then [108, 114] else [117, 100]
theorem two_at {k : Nat} (h : k < 2) : ([V.str (S [108, 114]), V.str (S [117, 100])] : List V)[k]? = some (.str (S (two k))) := by
  match k, h with
  | 0, _ => rfl
  | 1, _ => rfl
theorem two_ok {k d : Nat} (h : d < 2) : ∃ c, (two k)[d]? = some c ∧ isT c = true := by
  unfold two
  split
  · match d, h with
    | 0, _ => exact ⟨_, rfl, by decide⟩
    | 1, _ => exact ⟨_, rfl, by decide⟩
  · match d, h with
    | 0, _ => exact ⟨_, rfl, by decide⟩
    | 1, _ => exact ⟨_, rfl, by decide⟩
section
variable {P : Program} {w : World} {K : PySem.W.Frag} {mg : Str → Option Value} {base : Heap} {a : Addr} {ns : List Int} {fT : Addr} {fdT : FuncData}
abbrev NBy : List Str := ["_law_row", "_law_height", "_law_width", "_law_text_here", "_law_cells", "_law_name", "_law_free", "_law_place", "_law_k"]
theorem scBy : FnScope NBy ["_law_row"] (defScope sLawBusy) := ⟨rfl, rfl, rfl, by decide +kernel, rfl, by decide +kernel, by decide +kernel⟩
def spBy (K : PySem.W.Frag) (a : Addr) (ns : List Int) : Sp := fun vs H Q _ => ∃ r : Addr, vs = [.ref r] ∧ RowAt K a ns H r ∧ ∀ H' p l h w g t, VG h w g → (∀ c ∈ mb g.flatten, c < 122) → H' l = some (.lst (rowV g)) → Good t → t.length ≤ 7 → H' p = some (.tup [.ref l, .str (S t)]) → RowAt K a ns H' r → l ≠ r → But r H H' → Q (.ref p) H'
theorem ok_by {f : Addr} {fd : FuncData} (F : Fun K "_law_busy" "_law_busy" sLawBusy f fd) (T : TxtW K mg) (L : TxtL K mg) (GT : FnOk P w K mg base CX0 1 fT fdT ["_law_row", "_law_many"] (spTk K a ns)) (kT : PySem.W.keepIn K (.ref fT) = true) (bT : Binds K fdT ["_law_row", "_law_many"] []) (mT : mg "_law_taken" = some (.ref fT)) :
    FnOk P w K mg base CX0 3 f fd ["_law_row"] (spBy K a ns) := by
  refine F.ok scBy (fun vs H Q E h => ?_) (fun cdv A outer s H vs Q E hr h => ?_)
  · obtain ⟨r, rfl, _⟩ := h
    rfl
  · obtain ⟨r, rfl, hR, k⟩ := h
    have nd := scBy.nd
    have r1 : Room 1 _ := hr.mono (by decide)
    refine ⟨_, C8.pss_cut (ps_asg (pe_tup (pa_cons (pe_op op_add pe_int (pe_call GT r1 rfl mT kT bT .nil pass0 (pa_cons (pv 0) (pa_cons pe_int pa_nil)))) (pa_cons (pe_op op_add pe_int (pe_call GT r1 rfl mT kT bT .nil pass0 (pa_cons (pv 0) (pa_cons pe_int pa_nil)))) (pa_cons pe_str pa_nil)))) (pg_tup (by rfl) (pgs_cons (pg_name (i := 1) nd rfl (.inl rfl)) (pgs_cons (pg_name (i := 2) nd rfl (.inr rfl)) (pgs_cons (pg_name (i := 3) nd rfl (.inl rfl)) pgs_nil)))))
      (C8.pss_cut (ps_set (i := 4) nd rfl (.inr rfl) (pe_op op_rep (pe_lst (pa_cons pe_str pa_nil)) (pe_op op_mul (pv 1) (pv 2))))
      (C8.pss_cut (ps_for PassesOwn.never rfl (pi_str (pe_slice sl_str pe_str po_none (po_some (pe_op op_add pe_int (pe_call GT r1 rfl mT kT bT .nil pass0 (pa_cons (pv 0) (pa_cons pe_int pa_nil))))))) (pg_name (i := 5) nd rfl (.inl rfl))
        (C8.pss_cut (ps_setLc (i := 6) (own := [("_law_place", 7)]) (g := gName 7) rfl nd rfl rfl (sw_true rfl rfl rfl (by decide +kernel)) (pi_range1 (by rfl) L.range (pa_cons (pe_op op_mul (pv 1) (pv 2)) pa_nil)) (blkOk_by (N := NBy) (sc := defScope sLawBusy) (by decide +kernel)) (fun _ _ _ _ _ => pg_name (i := 7) nd rfl (.inl rfl))
            (fun _ _ _ _ _ => pts_one (pt_cmpR op_eq (pe_ix (ix_listK (K := K) rfl) (pv 4) (pv 7) (fun _ _ => rfl)) pe_str (nomark _))) (fun _ _ _ _ _ => pv 7))
        (pss_one (ps_if (pt_cmpR (op_neD hr.units) (pv 6) (pe_lst pa_nil) (nomark _))
          (pss_one (ps_asg (pv 5) (pg_sub (pv 4) (pe_ix ix_list (pv 6) (pe_call GT r1 rfl mT kT bT .nil pass0 (pa_cons (pv 0) (pa_cons (pe_callB call_len_seq (by rfl) T.len PySem.boot_len (pa_cons (pv 6) pa_nil)) pa_nil))) (fun _ _ => rfl)) set_list))) pss_nil))))
      (C8.pss_cut (ps_for PassesOwn.never rfl (pi_range1 (by rfl) L.range (pa_cons (pe_op op_add pe_int (pe_call GT r1 rfl mT kT bT .nil pass0 (pa_cons (pv 0) (pa_cons pe_int pa_nil)))) pa_nil)) (pg_name (i := 8) nd rfl (.inl rfl))
          (pss_one (ps_set (i := 3) nd rfl (.inl rfl) (pe_op op_add_str (pv 3) (pe_ix ix_str (pe_ix ix_list (pe_lst (pa_cons pe_str (pa_cons pe_str pa_nil))) (pe_op op_mod (pe_callTy call_int1 (by rfl) L.int (by decide +kernel) (pa_cons (pv 8) pa_nil)) pe_int) (fun _ _ => rfl))
            (pe_call GT r1 rfl mT kT bT .nil pass0 (pa_cons (pv 0) (pa_cons pe_int pa_nil))) (fun _ _ => rfl))))))
      (pss_one (ps_ret (pe_tup (pa_cons (pe_lc (own := [("_law_k", 8)]) (g := gName 8) (tt := tYes) rfl nd (pi_range1 (by rfl) L.range (pa_cons (pv 1) pa_nil)) (blkOk_by (N := NBy) (sc := defScope sLawBusy) (by decide +kernel)) (fun _ _ _ _ _ => pg_name (i := 8) nd rfl (.inl rfl)) (fun _ _ _ _ _ => pts_nil)
        (fun _ _ _ _ _ => pe_joinK (K := K) rfl pe_str (pe_slice (sl_listK (K := K) rfl) (pv 4) (po_some (pe_op op_mul (pv 8) (pv 2))) (po_some (pe_op op_add (pe_op op_mul (pv 8) (pv 2)) (pv 2)))))) (pa_cons (pv 3) pa_nil)))))))), ?_⟩
    refine ⟨fun σ H1 => ∃ h w : Nat, σ = [some (.ref r), some (.int h), some (.int w), some (V.str (S [])), none, none, none, none, none] ∧ 3 ≤ h ∧ h ≤ 5 ∧ 3 ≤ w ∧ w ≤ 5 ∧ RowAt K a ns H1 r ∧ But r H H1, ?_, ?_⟩
    · refine ⟨_, rfl, r, 3, rfl, hR, by decide, by decide, fun HA d hd RA bA => ⟨_, _, rfl, rfl, _, rfl, r, 3, rfl, RA, by decide, by decide, fun HB e he RB bB => ⟨_, _, rfl, rfl, (by show 3 ≤ sizeLine; decide), fun p hp => ⟨p, _, rfl, SqT.of upd_same, rfl, _, _, rfl, _, _, rfl, _, _, rfl, rfl, ?_⟩⟩⟩⟩
      have sp_ := same_new (o := .tup [V.int (3 + (d : Int)), V.int (3 + (e : Int)), V.str (S [])]) hp
      refine ⟨d + 3, e + 3, ?_, by omega, by omega, by omega, by omega, RB.same sp_, fun b o e1 ne => sp_ _ _ (bB _ _ (bA _ _ e1 ne) ne)⟩
      rw [show ((d + 3 : Nat) : Int) = 3 + (d : Int) by omega, show ((e + 3 : Nat) : Int) = 3 + (e : Int) by omega]
      rfl
    rintro σ H1 ⟨h, w, rfl, h3, h5, w3, w5, R1, B1⟩
    have hw : h * w ≤ 25 := Nat.mul_le_mul h5 w5
    have hw9 : 9 ≤ h * w := Nat.mul_le_mul h3 w3
    have ehw : (h : Int) * (w : Int) = ((h * w : Nat) : Int) := by simp
    have bh : ((-(2 ^ 64) < (h : Int) ∧ (h : Int) < 2 ^ 64) ∨ (-(2 ^ 64) < (w : Int) ∧ (w : Int) < 2 ^ 64)) := .inl ⟨by omega, by omega⟩
    have nr : ∀ {H' : Hp}, RowAt K a ns H' r → H' r ≠ none := fun {H'} R z => by
      obtain ⟨_, _, _, e, _⟩ := R
      rw [e] at z
      cases z
    have bnone : ∀ {H' : Hp} {x : Addr}, But r H H' → RowAt K a ns H' r → H' x = none → H x = none := fun {H' x} B R hx => by
      cases hh : H x with
      | none => rfl
      | some o =>
        by_cases q : x = r
        · exact absurd (by rw [← q]; exact hx) (nr R)
        · rw [B _ _ hh q] at hx
          cases hx
    refine ⟨fun σ H2 => ∃ l, σ = [some (.ref r), some (.int h), some (.int w), some (V.str (S [])), some (.ref l), none, none, none, none] ∧ l ≠ r ∧ H l = none ∧ H2 l = some (.lst ((List.replicate (h * w) 46).map sg)) ∧ RowAt K a ns H2 r ∧ But r H H2, ?_, ?_⟩
    · refine ⟨(by show 1 ≤ sizeLine; decide), fun p hp => ⟨_, rfl, _, rfl, _, _, rfl, rfl, bh, ?_⟩⟩
      have s2 := same_new (o := .lst [V.str (S [46])]) hp
      have R2 := R1.same s2
      have B2 : But r H (upd H1 p (.lst [V.str (S [46])])) := fun b o e ne => s2 _ _ (B1 _ _ e ne)
      refine ⟨p, ((h * w : Nat) : Int), _, rfl, congrArg V.int ehw, upd_same, by omega, by omega, ?_, fun q hq => ?_⟩
      · show 1 * ((h * w : Nat) : Int).toNat ≤ 16777216
        rw [Int.toNat_natCast]
        omega
      · rw [Int.toNat_natCast]
        have s3 := same_new (o := .lst (List.replicate (h * w) [V.str (S [46])]).flatten) hq
        refine ⟨q, rfl, R2.ne hq, bnone B2 R2 hq, ?_, R2.same s3, fun b o e ne => s3 _ _ (B2 _ _ e ne)⟩
        rw [upd_same, ← rep_dots]
        rfl
    rintro σ H2 ⟨l, rfl, hlr, hl0, hL2, R2, B2⟩
    clear R1 B1 H1
    -- the marbles
    refine ⟨fun σ H3 => ∃ cs k v5 v6 v7, σ = [some (.ref r), some (.int h), some (.int w), some (V.str (S [])), some (.ref l), v5, v6, v7, none] ∧ Lay k cs ∧ k ≤ 9 ∧ cs.length = h * w ∧ H3 l = some (.lst (cs.map sg)) ∧ RowAt K a ns H3 r ∧ But r H H3, ?_, ?_⟩
    · refine ⟨_, rfl, r, 5, rfl, R2, by decide, by decide, fun HA d hd RA bA => ⟨_, _, rfl, rfl, _, rfl, S twelve, rfl, (by show 12 ≤ sizeLine; decide), ?_⟩⟩
      have hd5 : d + 5 ≤ 9 := by omega
      rw [show (5 : Int) + (d : Int) = ((d + 5 : Nat) : Int) by omega, cut_12 (by omega)]
      refine ⟨_, rfl, for_it (walk_str (z := S (twelve.take (d + 5)))) (fun i σ H3 => ∃ cs v5 v6 v7, σ = [some (.ref r), some (.int h), some (.int w), some (V.str (S [])), some (.ref l), v5, v6, v7, none] ∧ Lay i cs ∧ cs.length = h * w ∧ H3 l = some (.lst (cs.map sg)) ∧ RowAt K a ns H3 r ∧ But r H H3)
        ⟨_, none, none, none, rfl, Lay.none (h * w), List.length_replicate, bA _ _ hL2 hlr, RA, fun b o e ne => bA _ _ (B2 _ _ e ne) ne⟩ (fun _ _ _ _ _ => True.intro) ?_ ?_⟩
      · rintro i x σ H5' H5 hi ⟨cs, v5, v6, v7, rfl, La, hcs, hL5, R5, B5⟩ ⟨rfl, c, hc, rfl⟩
        rw [S_at] at hc
        rw [S_size, List.length_take] at hi
        have hi9 : i < 9 := by omega
        have hc' : c = 97 + i := by
          rw [List.getElem?_take, if_pos (by omega)] at hc
          have all : ∀ i : Fin 12, twelve[i.1]? = some (97 + i.1) := by decide
          have := all ⟨i, by omega⟩
          rw [this] at hc
          exact (Option.some.inj hc).symm
        subst hc'
        refine ⟨fun σ H6 => ∃ J v7, σ = [some (.ref r), some (.int h), some (.int w), some (V.str (S [])), some (.ref l), some (sg (97 + i)), some (.ref J), v7, none] ∧ J ≠ r ∧ J ≠ l ∧ H6 J = some (.lst (intV (frees cs cs.length))) ∧ H6 l = some (.lst (cs.map sg)) ∧ RowAt K a ns H6 r ∧ But r H H6, ?_, ?_⟩
        · refine ⟨_, rfl, _, rfl, _, _, rfl, rfl, bh, ?_⟩
          refine ⟨((h * w : Nat) : Int), congrArg (fun z => [V.int z]) ehw, by omega, by omega, fun J hJ => lc_range (lo := 0) (n := (((h * w : Nat) : Int)).toNat) (fun j H6 => Same H5 H6 ∧ H6 J = some (.lst (intV ((List.range j).filter fun x => cs.getD x 0 == 46))))
            ⟨same_new hJ, upd_same⟩ ?_ ?_⟩
          · rintro j H6 hj ⟨sm, hD6⟩
            rw [Int.toNat_natCast] at hj
            rw [Int.zero_add]
            obtain ⟨d, hd⟩ : ∃ d, cs[j]? = some d := ⟨_, List.getElem?_eq_getElem (by omega)⟩
            refine ⟨rfl, _, rfl, _, rfl, l, _, _, sg d, rfl, rfl, SqL.of (sm _ _ hL5), atI_nat (by rw [List.getElem?_map, hd]; all_goals rfl), rfl, _, rfl, ?_⟩
            rw [show decide (sg d = V.str (Str.ofString ".")) = (d == 46) from dL d 46]
            have eg : cs.getD j 0 = d := by rw [List.getD_eq_getElem?_getD, hd]; rfl
            have es := range_snoc (p := fun x => cs.getD x 0 == 46) j
            by_cases hx : (d == 46) = true
            · rw [hx]
              refine iteT ⟨_, rfl, _, hD6, ?_, same_put sm hJ, ?_⟩
              · rw [List.length_map]
                have := List.length_filter_le (fun x => cs.getD x 0 == 46) (List.range j)
                rw [List.length_range] at this
                show _ < 16777216
                omega
              · rw [upd_same, es, if_pos (by rw [eg]; exact hx)]
                simp [intV]
            · rw [Bool.not_eq_true] at hx
              rw [hx]
              refine iteF ⟨sm, ?_⟩
              rw [hD6, es, if_neg (by rw [eg, hx]; exact Bool.false_ne_true), List.append_nil]
          · rintro H6 ⟨sm, hD6⟩
            rw [Int.toNat_natCast, ← hcs] at hD6
            exact ⟨J, _, rfl, R5.ne hJ, (ne_of_none hL5 hJ).symm, hD6, sm _ _ hL5, R5.same sm, fun b o e ne => sm _ _ (B5 _ _ e ne)⟩
        rintro σ H6 ⟨J, v7', rfl, hJr, hJl, hJ6, hL6, R6, B6⟩
        have hpos := frees_pos La (by omega)
        have hfl := frees_le cs cs.length
        refine ⟨_, rfl, (by show 0 ≤ sizeLine; decide), fun z hz => ?_⟩
        have s6 := same_new (o := .lst []) hz
        refine ⟨_, _, .lst (SqL.of (s6 _ _ hJ6)) (ints_dp _), .lst (SqL.of upd_same) .nil, ints_shaped _, rfl, _, rfl, ?_⟩
        rw [ints_some (fun e => by rw [e] at hpos; exact Nat.lt_irrefl _ hpos)]
        refine iteT ?_
        refine ⟨_, rfl, _, rfl, _, rfl, _, rfl, _, rfl, J, _, rfl, .inl (SqL.of (s6 _ _ hJ6)), ?_⟩
        refine ⟨r, _, rfl, R6.same s6, ?_, ?_, fun H7 d hd R7 b7 => ?_⟩
        · rw [List.length_map]; omega
        · rw [List.length_map]; omega
        rw [List.length_map] at hd
        obtain ⟨p, hp⟩ : ∃ p, (frees cs cs.length)[d]? = some p := ⟨_, List.getElem?_eq_getElem (by omega)⟩
        have hcp := frees_at hp
        have hpl : p < cs.length := (List.getElem?_eq_some_iff.mp hcp).1
        have hL7 := b7 _ _ (s6 _ _ hL6) hlr
        refine ⟨J, _, _, .int (p : Nat), rfl, rfl, SqL.of (b7 _ _ (s6 _ _ hJ6) hJr), atI_nat (by rw [List.getElem?_map, hp]; all_goals rfl), l, _, _, p, rfl, rfl, hL7, ?_, ?_⟩
        · rw [List.length_map]
          unfold ixN
          rw [if_pos (by omega), if_pos (by omega), Int.toNat_natCast]
        · have hs : ∃ c t, cs.map sg = sg c :: t := by
            cases cs with
            | nil => simp at hpl
            | cons c t => exact ⟨c, t.map sg, rfl⟩
          refine ⟨cs.set p (97 + i), _, _, _, rfl, La.put hcp, by rw [List.length_set]; exact hcs, ?_, R7.put hL7 hlr hs, fun b o e ne => ?_⟩
          · rw [upd_same, List.map_set]
          · rw [upd_ne (ne_of_none e hl0)]
            exact b7 _ _ (s6 _ _ (B6 _ _ e ne)) ne
      · rintro σ H5 ⟨cs, v5, v6, v7, rfl, La, hcs, hL5, R5, B5⟩
        refine ⟨cs, _, v5, v6, v7, rfl, La, ?_, hcs, hL5, R5, B5⟩
        rw [S_size, List.length_take]
        omega
    rintro σ H3 ⟨cs, kk, v5, v6, v7, rfl, La, k9, hcs, hL3, R3, B3⟩
    clear R2 B2 hL2 H2
    -- a text
    refine ⟨fun σ H4 => ∃ t v8, σ = [some (.ref r), some (.int h), some (.int w), some (.str (S t)), some (.ref l), v5, v6, v7, v8] ∧ t.length ≤ 7 ∧ (∀ c ∈ t, isT c = true) ∧ H4 l = some (.lst (cs.map sg)) ∧ RowAt K a ns H4 r ∧ But r H H4, ?_, ?_⟩
    · refine ⟨_, rfl, r, 4, rfl, R3, by decide, by decide, fun H5 d hd R5 b5 => ⟨_, _, rfl, rfl, ?_⟩⟩
      have hd4 : d < 4 := by omega
      refine ⟨((4 + d : Nat) : Int), congrArg (fun z => [V.int z]) (by omega), by omega, by omega, for_range (lo := 0) (n := ((4 + d : Nat) : Int).toNat) (fun j σ H6 => ∃ t v8, σ = [some (.ref r), some (.int h), some (.int w), some (.str (S t)), some (.ref l), v5, v6, v7, v8] ∧ t.length = j ∧ (∀ c ∈ t, isT c = true) ∧ H6 l = some (.lst (cs.map sg)) ∧ RowAt K a ns H6 r ∧ But r H H6)
        ⟨[], none, rfl, rfl, by simp, b5 _ _ hL3 hlr, R5, fun b o e ne => b5 _ _ (B3 _ _ e ne) ne⟩ ?_ ?_⟩
      · rintro j σ H6 hj ⟨t, v8, rfl, ht, hgt, hL6, R6, B6⟩
        rw [Int.toNat_natCast] at hj
        rw [Int.zero_add]
        refine ⟨_, rfl, (by show 2 ≤ sizeLine; decide), fun p hp => ?_⟩
        have s6 := same_new (o := .lst [V.str (S [108, 114]), V.str (S [117, 100])]) hp
        have hm : j % 2 < 2 := Nat.mod_lt _ (by decide)
        refine ⟨_, rfl, .inl ⟨_, rfl, _, _, rfl, rfl, (by show (0 : Int) < 2; decide), ?_⟩⟩
        refine ⟨p, _, _, _, rfl, rfl, SqL.of upd_same, (by rw [show (j : Int) % 2 = ((j % 2 : Nat) : Int) by omega]; exact atI_nat (two_at hm)), ?_⟩
        refine ⟨_, rfl, r, 2, rfl, R6.same s6, by decide, by decide, fun H7 d2 hd2 R7 b7 => ?_⟩
        obtain ⟨c, hc, hTc⟩ := two_ok (k := j % 2) (d := d2) (by omega)
        have l2 : (two (j % 2)).length ≤ 2 := by unfold two; split <;> decide
        refine ⟨S (two (j % 2)), (d2 : Int), c, rfl, rfl, ?_, by rw [S_list]; exact atI_nat hc, ?_⟩
        · rw [S_len]
          show _ ≤ 16777216
          omega
        refine ⟨_, _, rfl, rfl, ?_, ?_⟩
        · rw [S_len, ht]
          show j + 1 ≤ 16777216
          omega
        refine ⟨t ++ [c], some (.int (j : Nat)), ?_, ?_, ?_, b7 _ _ (s6 _ _ hL6) hlr, R7, fun b o e ne => b7 _ _ (s6 _ _ (B6 _ _ e ne)) ne⟩
        · rw [← show S t ++ ⟨#[c]⟩ = S (t ++ [c]) from SX.S_cat t [c]]
          rfl
        · simp [ht]
        · intro x hx
          rcases List.mem_append.mp hx with hx | hx
          · exact hgt x hx
          · rw [List.mem_singleton.mp hx]
            exact hTc
      · rintro σ H6 ⟨t, v8, rfl, ht, hgt, hL6, R6, B6⟩
        refine ⟨t, v8, rfl, ?_, hgt, hL6, R6, B6⟩
        rw [ht]
        omega
    rintro σ H4 ⟨t, v8, rfl, ht, hgt, hL4, R4, B4⟩
    clear R3 B3 hL3 H3
    have La' : VG h w (chunk h w cs) := lay_VG La (by omega) hcs (by omega) (by omega) (by omega) (by omega)
    refine ⟨_, rfl, (h : Int), rfl, by omega, by omega, fun J hJ => lc_range (lo := 0) (n := ((h : Nat) : Int).toNat) (fun i H6 => Same H4 H6 ∧ H6 J = some (.lst ((List.range i).map fun j => V.str (S ((cs.drop (j * w)).take w)))))
        ⟨same_new hJ, upd_same⟩ ?_ ?_⟩
    · rintro i H6 hi ⟨sm, hD6⟩
      rw [Int.toNat_natCast] at hi
      rw [Int.zero_add]
      have hiw : i * w + w ≤ h * w := by
        have : (i + 1) * w ≤ h * w := Nat.mul_le_mul_right _ hi
        rw [Nat.succ_mul] at this
        exact this
      have eiw : (i : Int) * (w : Int) = ((i * w : Nat) : Int) := by simp
      have bi : ((-(2 ^ 64) < (i : Int) ∧ (i : Int) < 2 ^ 64) ∨ (-(2 ^ 64) < (w : Int) ∧ (w : Int) < 2 ^ 64)) := .inr ⟨by omega, by omega⟩
      have ecut : cutV (cs.map sg) (some ((i : Int) * (w : Int))) (some ((i : Int) * (w : Int) + (w : Int))) = ((cs.drop (i * w)).take w).map sg := by
        rw [eiw, show ((i * w : Nat) : Int) + (w : Int) = ((i * w + w : Nat) : Int) by omega]
        unfold cutV
        rw [HT.sIx_nat, HT.sIx_nat, List.length_map, hcs, Nat.min_eq_left hiw, Nat.min_eq_left (by omega : i * w ≤ h * w), show i * w + w - i * w = w by omega, List.map_take, List.map_drop]
      refine ⟨rfl, ⟨_, rfl⟩, _, rfl, _, rfl, _, rfl, _, _, rfl, rfl, bi, _, rfl, _, rfl, _, rfl, _, _, rfl, rfl, bi, _, rfl, _, _, rfl, rfl, _, rfl, l, _, rfl, SqL.of (sm _ _ hL4), fun q hq => ?_⟩
      rw [ecut]
      have hD7 : (upd H6 q (.lst (((cs.drop (i * w)).take w).map sg))) J = some (.lst ((List.range i).map fun j => V.str (S ((cs.drop (j * w)).take w)))) := by
        rw [upd_ne (ne_of_none hD6 hq)]
        exact hD6
      refine ⟨_, q, ((cs.drop (i * w)).take w).map fun c => S [c], rfl, rfl, .inl ?_, ?_, _, hD7, ?_, ?_⟩
      · rw [List.map_map]
        exact SqL.of upd_same
      · rw [TK.sum_ones, List.length_map, List.length_take, List.length_drop]
        show _ + _ * 0 ≤ _
        omega
      · rw [List.length_map, List.length_range]
        show _ < 16777216
        omega
      · refine ⟨same_put (sm.trans (same_new hq)) hJ, ?_⟩
        rw [upd_same, join_signs, List.range_succ, List.map_append]
        rfl
    · rintro H6 ⟨sm, hD6⟩
      rw [Int.toNat_natCast] at hD6
      have hrow : H6 J = some (.lst (rowV (chunk h w cs))) := by
        rw [hD6]
        unfold rowV chunk
        rw [List.map_map]
        rfl
      refine ⟨_, rfl, (by show 2 ≤ sizeLine; decide), fun p hp => ?_⟩
      have s7 := same_new (o := .tup [V.ref J, V.str (S t)]) hp
      have la : ∀ c ∈ mb (chunk h w cs).flatten, c < 122 := fun c hc => by
        rw [show (chunk h w cs).flatten = cs by rw [chunk_flat, ← hcs, List.take_length]] at hc
        have := La.ab c hc
        omega
      exact k _ p J h w _ t La' la (s7 _ _ hrow) ⟨by omega, hgt⟩ ht upd_same ((R4.same sm).same s7) (R4.ne hJ) fun b o e ne => s7 _ _ (sm _ _ (B4 _ _ e ne))
end
end TR
end
section
set_option Elab.async false
set_option maxRecDepth 100000
set_option linter.all false
namespace TK
open PySem PySem.W PySem.W.X PySem.Spec PyProof.Rows L2 TH
def lessT (K : Frag) (ts : List Addr) : Frag := K.filter fun e => decide (e.1 ∉ ts)
theorem lessT_look {ts : List Addr} {a : Addr} {o : Obj} : ∀ {K : Frag}, (lessT K ts).lookup a = some o → K.lookup a = some o
  | [], h => by cases h
  | (b, u) :: K, h => by
    unfold lessT at h
    by_cases q : b ∈ ts
    · rw [List.filter_cons_of_neg (by simp [q])] at h
      have h2 := lessT_look (K := K) (ts := ts) (a := a) (o := o) h
      by_cases e : a = b
      · subst e
        exfalso
        have : ∀ L : Frag, (L.filter fun e => decide (e.1 ∉ ts)).lookup a = none := fun L => by
          induction L with
          | nil => rfl
          | cons x L ih =>
            by_cases z : x.1 ∈ ts
            · rw [List.filter_cons_of_neg (by simp [z])]
              exact ih
            · rw [List.filter_cons_of_pos (by simp [z])]
              have ne : ¬ a = x.1 := fun y => z (by rw [← y]; exact q)
              rw [show x = (x.1, x.2) from rfl, List.lookup_cons, show (a == x.1) = false from by simpa using ne]
              exact ih
        rw [this K] at h
        cases h
      · show List.lookup a ((b, u) :: K) = some o
        rw [List.lookup_cons]
        have : (a == b) = false := by simpa using e
        rw [this]
        exact h2
    · rw [List.filter_cons_of_pos (by simp [q])] at h
      have h : List.lookup a ((b, u) :: lessT K ts) = some o := h
      show List.lookup a ((b, u) :: K) = some o
      rw [List.lookup_cons] at h ⊢
      cases e : a == b with
      | true =>
        rw [e] at h
        exact h
      | false =>
        rw [e] at h
        exact lessT_look h
theorem lessT_in {K : Frag} {ts : List Addr} {h : Heap} (X : K.In h) : (lessT K ts).In h := fun a o e => X a o (lessT_look e)
theorem end_nkT {l : OpenLaw} {w : World} {s₀ s₁ : Shared} {args : List WData} {vals : List Value} {as : List Addr} {fa : Addr} {K : PySem.W.Frag} {mg mb : Str → Option Value} {cl : Str → Option Addr} {mean : ExcName → Option Value} {tk n k : Nat} {sp : Sp} {cs : List (Addr × Addr)}
    (hr : Room k callerA) (hsp : ∀ (a : Addr) (ns : List Int) (H : Hp), (∀ p ∈ cs, H p.2 = some (.tbl #[])) → SqL K H a (ns.map V.int) → sp [.ref a] H (fun v _ => v = .bl true) fun _ _ _ => False)
    (hm : l.most = some 63) (KX : K.In s₁.heap) (hns : s₁.heap.Ns mainGlobals mg) (hb : s₁.heap.Ns builtinsNs mb) (hbb : ∀ x : Str, x ≠ "__name__" → mb x = bootBuiltins x) (hlim : s₁.heap.NoLimit) (hg : s₁.gens = #[])
    (hbm : ∃ (bm : Addr) (ob : Obj), mg "__builtins__" = some (.ref bm) ∧ bm ≠ builtinsNs ∧ s₁.heap.get? bm = some ob ∧ ob.cls = .type "module" ∧ ob.dict = some builtinsNs ∧ ob.data = .plain)
    (tabs : ∀ p ∈ cs, s₁.heap.get? p.2 = some { cls := .none, data := .fields #[] } ∧ K.lookup p.2 = none ∧ PySem.W.CodeHd s₁.heap p.1 p.2)
    (L : Laid l.row.toRowW.records w s₀ s₁ args vals as) (ZT : s₀.toks = tk) (hn : n ≤ tk) (hpre : l.row.toRowW.claim.pre args = true) (hwl : WellAll w.params s₁.heap vals args)
    (F : ∀ base : Heap, K.In base → base.Ns mainGlobals mg → (∀ p ∈ cs, LamX.TabB base mg p.1 p.2) → FnRn n l.row.toRowW.prog w K mg base CX0 k fa sp) :
    wpAny (model l.row.toRowW.prog w) callerA (PySem.call (.ref fa) vals) (fun v s' => GoodWG l.row.toRowW.claim cl mean args s₁ (.ok (.ret v)) s') (fun e s' => GoodWG l.row.toRowW.claim cl mean args s₁ (.error e) s') s₁ := by
  obtain ⟨a, vs, ns, rfl, rfl, hobj, hints, hlen⟩ := Att.script_of hm hpre hwl
  have hl63 : ns.length ≤ sizeLine := Nat.le_trans hlen (by decide)
  have L' : Laid l.row.toRowW.records w s₀ s₁ [ofPy (PyData.list (ns.map PyData.int))] [.ref a] as := by
    rw [show ofPy (PyData.list (ns.map PyData.int)) = WData.list (ns.map WData.int) by rw [ofPy, ofPys_ints]]
    exact L
  have run := law_nT (k := k) KX hns hb hbb hlim hg (Nat.le_trans hn (script_toks L' ZT)) tabs hbm hobj (vals_ints hints) hl63 hr F fun H h1 h2 => hsp a ns H h1 h2
  refine enter_call (codeAny_mono run fun r s' hq => ?_)
  obtain ⟨e1, h2, h3, h4⟩ := hq
  subst e1
  exact ⟨.inl ⟨.bool true, .bool true, [], rfl, fun _ => rfl, .bool true, Att.post_true l _, fun _ => ⟨List.Pairwise.nil, fun _ hm => (nomatch hm)⟩⟩, h2, h3, h4⟩
end TK
end
section
set_option Elab.async false
set_option maxRecDepth 100000
set_option linter.all false
namespace TA
open TK
open TK
open PySem PySem.Spec PyProof.Rows L2 LamX TX TK TM TB
theorem pe_told {X : Cx} {ce : Nat → Addr} {cT g c P : Addr} {fdg : FuncData} {T : List (Addr × Str)} {k : Nat} {params : Arguments} {body : Expr} {scope : Scope} {t : XK → TE} {p lpos pos : Pos} (FR : Fun X.K "_law_raised" "_law_raised" sLawRaised g fdg) (bR : L2.Binds X.K fdg ["_law_work"] [])
    (mR : X.mg "_law_raised" = some (.ref g)) (TE : TxtE X.K X.mg ce cT) (hg : Gl X "_law_raised") (TB : LamX.TabB X.base X.mg c P) (hcode : X.env.code = .ref c) (hmT : (P, X.env.qual ++ "<lambda>") ∈ T) (hu : ∀ p ∈ T, p.1 = P → p.2 = X.env.qual ++ "<lambda>") (hr : Room (k + 2) X.A)
    (L : LamS X.env.scope scope) (hdef : defaultsOf params X.env = ([], [])) (hbind : ∀ (q : Str) (cl : List (Str × Addr)) (pm cv ctv : Value), bindArgs (PySem.W.kla_fn "<lambda>" q params body scope cl pm cv ctv) ⟨[], []⟩ = pure [])
    (hbody : ∀ (A : Around) (outer : List Env) (s : Shared) (H : Hp) (E : XK) (f c' : Addr), Room k (A.deeper (lamEnv X scope s.heap.objs.size f c')) → PE (lamCx X A outer s H E scope f c') body (t E)) :
    PE X (.Call (.Name "_law_raised" p) [.Lambda params body scope lpos] [] pos) (tLam T (TRa ce) t) := by
  obtain ⟨oc, od, kV, doc, pm, an, cdv, ct, osl, rfl, lk, hcd⟩ := FR.ex
  exact pe_lamcall hg mR FR.kp lk hcd bR scRa rfl (.inl rfl) (raised_gives TE) TB hcode hmT hu hr L hdef hbind hbody
end TA
end
section
set_option Elab.async false
set_option maxRecDepth 100000
set_option linter.all false
namespace TH
open PySem PySem.Spec PyProof.Rows L2
theorem fn_nE {CX : CXT} {P : Program} {w : World} {K : PySem.W.Frag} {mg : Str → Option Value} {base : Heap} {n k : Nat} {f : Addr} {x qual : Str} {st : Stmt} {N ps : List Str} {sp : Sp} {oc kV doc pm cdv ct : Value} {od an : Option Addr} {osl : Array (Option Value)} (lk : K.lookup f = some ⟨oc, od, .func (PySem.W.fnOf x qual (defArgs st) (defBody st) (defScope st) .none kV doc pm an cdv ct), osl⟩) (hcd : PySem.W.codeIn K cdv qual = true) (b : Binds K (PySem.W.fnOf x qual (defArgs st) (defBody st) (defScope st) .none kV doc pm an cdv ct) ps []) (S : FnScope N ps (defScope st)) (len : ∀ vs H Q E, sp vs H Q E → vs.length = ps.length)
    (hbody : ∀ (A : Around) (outer : List Env) (s : Shared) (H : Hp) (vs : List V) (Q : VK) (E : XK), Room k (A.deeper (envOfC qual (defScope st) s.heap.objs.size f cdv)) → sp vs H Q E →
      ∃ t, PSsn n (cxOf CX P w K mg base N qual (defScope st) f cdv A outer s H E).nox (defBody st) t ∧ t { nx := fun _ H' => Q .non H', rt := Q } (start N vs) H) : FnRn n P w K mg base CX (k + 1) f sp := by
  intro A outer s H us vs Q E hn hr e0 r hsp
  have hl : vs.length = ps.length := len vs H Q E hsp
  have KX : K.In s.heap := e0.mod.kin.keeps fun b o e => (e0.bs b o e).1
  have lim : s.heap.NoLimit := e0.mod.nolimit.keeps fun b o e => (e0.bs b o e).1
  have hkind : ∀ y ∈ ps.zip us, (defScope st).names.lookup y.1 = some .local ∨ ((defScope st).names.lookup y.1 = some .cell ∧ ((cellsFrom (s.heap.objs.size + 1) (defScope st).names []).lookup y.1).isSome = true) := fun ⟨m, v⟩ hy => by
    rcases S.par m (List.of_mem_zip hy).1 with q | q
    · exact .inl q
    · exact .inr ⟨q, PySem.W.cellsFrom_some _ _ _ (.inl q)⟩
  have hul : us.length = ps.length := by rw [← r.length]; exact hl
  have hb := b s us KX (by rw [List.append_nil]; exact hul)
  rw [List.append_nil] at hb
  refine codeAny_call_function hr.depth (KX _ _ lk) rfl S.co S.gen rfl (PySem.W.codeRec_of KX hcd) (hb _ _ _ _ ?_)
  refine wpAny_with_toks hn (wpAny_mono (wpAny_newFunctionEnv_cells (Q := fun env s1 => n ≤ s1.toks → _) S.kind hkind fun env he s1 x hn1 => ?_) (fun _ _ z => z) fun _ _ z _ => z)
  subst he
  refine ⟨lim.keeps x.toInCall.keep, codeAny_func ?_⟩
  obtain ⟨t, ht, hq⟩ := hbody A outer s H vs Q E (hr.deeper _) hsp
  have I : Inv (cxOf CX P w K mg base N qual (defScope st) f cdv A outer s H E) [] (start N vs) H s1 := inv_start S hr.hd e0 hl r x
  refine wpAny_mono (pssn_nox ht [] s1 (start N vs) H _ hn1 I hq) (fun fl s' hs => ?_) fun e s' hs => hs
  have fin : ∀ {σ' : L2.St} {H' : Hp} {v : V} {u : Value}, Inv (cxOf CX P w K mg base N qual (defScope st) f cdv A outer s H E) [] σ' H' s' → RelV v u → Q v H' → CE outer P w H s Q u s' :=
    fun {σ' H' v u} J rv q => ⟨v, H', J.os, J.bare, J.base, J.hok, rv, q⟩
  cases fl with
  | ret u =>
    obtain ⟨v, σ', H', J, rv, q⟩ := hs
    exact fin J rv q
  | next =>
    obtain ⟨σ', H', J, q⟩ := hs
    exact fin (v := V.non) (u := Value.none) J rfl q
  | brk =>
    obtain ⟨_, _, _, q⟩ := hs
    exact False.elim q
  | cont =>
    obtain ⟨_, _, _, q⟩ := hs
    exact False.elim q
end TH
namespace TQ
open PySem PySem.Spec PyProof.Rows L2 TH
section
variable {X : Cx} {n : Nat}
theorem pwn_andE1 {a : Expr} {tA : TT} {pos : Pos} (ha : PTn n X a tA) : PWn n X (.BoolOp .And [a] pos) tA := by
  intro whole pins s σ H Q hn I h
  refine isTrue_and (thn (ha pins s σ H Q hn I h) fun c s1 e => ?_)
  cases c with
  | true => exact isTrue_and_nil e
  | false => exact e
theorem pwn_andE {a b : Expr} {rest : List Expr} {tA tB : TT} {pos : Pos} (ha : PTn n X a tA) (hb : PWn n X (.BoolOp .And (b :: rest) pos) tB) : PWn n X (.BoolOp .And (a :: b :: rest) pos) (tAnd tA tB) := by
  intro whole pins s σ H Q hn I h
  refine isTrue_and (thnN hn (ha pins s σ H _ hn I h) fun c s1 hn1 ⟨H1, I1, q1⟩ => ?_)
  cases c with
  | true => exact hb whole pins s1 σ H1 Q hn1 I1 q1
  | false => exact ⟨H1, I1, q1⟩
theorem pen_bm0E {T id : String} {nm : Str} {r : V → List V → Hp → VK → Prop} {o : Expr} {to : TE} {apos cpos : Pos} (pa : PlainAttrs T) (slot : Slot T nm id) (hty : typeOf (.builtin id) = pure (.type "method_descriptor")) (hm : MtR X id r) (ho : PEn n X o to)
    (hbase : attributeBase o nm X.env (eval o X.env) = eval o X.env := by rfl) (hline : (apos.endLine == cpos.line) = true := by rfl) : PEn n X (.Call (.Attribute o nm apos) [] [] cpos) (tBM0 X.K T r to) := by
  intro pins s σ H Q hn I h
  refine wpAny_Call_method0_late hbase hline (thn (ho pins s σ H _ hn I h) fun v s1 ⟨x, H1, I1, r1, ty, q1⟩ => ?_)
  obtain ⟨h1, h2⟩ := tyV_is I1 r1 ty
  exact ⟨T, id, pa, slot, hty, h1, h2, Calls.callWith_builtin rfl (PySem.evalArgs_none (hm pins s1 σ H1 x [] v [] Q I1 r1 .nil q1))⟩
theorem op_eqDK {K : PySem.W.Frag} (hK : X.K = K) (hu : X.A.units + 64 < cLine) : OpR X (compareOp .Eq) (rEqD K) := by
  subst hK
  exact op_eqD hu
end
end TQ
namespace TU
open PySem L2 TM TK TB
open PySem.Spec PyProof.Rows TH
section
variable {P : Program} {w : World} {K : PySem.W.Frag} {mg : Str → Option Value} {base : Heap} {fT : Addr} {fdT : FuncData}
def spAf5 (K : PySem.W.Frag) : Sp := fun vs H Q _ => ∃ (a h w : Nat) (t : List Nat) (g : Grid), vs = [.ref a, .str (S t)] ∧ H a = some (.lst (rowV g)) ∧ Rect h w g ∧ 1 ≤ h ∧ h ≤ 8 ∧ 1 ≤ w ∧ w ≤ 8 ∧ (∀ c ∈ t, isT c = true) ∧ ∀ H' b, Same H H' → H' b = some (.lst (rowV (tilts h w t g))) → Q (.ref b) H'
theorem ok_af5 {f : Addr} {fd : FuncData} (F : Fun K "_law_after" "_law_after" sLawAfter f fd) (GT : FnOk P w K mg base CX0 1 fT fdT ["_law_rows_here", "_law_tilt"] (spTl K)) (kT : PySem.W.keepIn K (.ref fT) = true) (bT : Binds K fdT ["_law_rows_here", "_law_tilt"] []) (mT : mg "_law_tilted" = some (.ref fT)) :
    FnOk P w K mg base CX0 2 f fd ["_law_rows_here", "_law_text_here"] (spAf5 K) := by
  refine F.ok scAf (fun vs H Q E h => ?_) (fun cdv A outer s H vs Q E hr h => ?_)
  · obtain ⟨a, h, w, t, g, rfl, _⟩ := h
    rfl
  · obtain ⟨a, h, w, t, g, rfl, hS, R, h1, h8, w1, w8, ht, k⟩ := h
    have nd := scAf.nd
    refine ⟨_, pss_cons (ps_for PassesOwn.never rfl (pi_str (pv 1)) (pg_name (i := 2) nd rfl (.inl rfl)) (pss_one (ps_set (i := 0) nd rfl (.inl rfl) (pe_call GT hr rfl mT kT bT .nil pass0 (pa_cons (pv 0) (pa_cons (pv 2) pa_nil))))))
      (pss_one (ps_ret (pv 0))), ?_⟩
    refine ⟨_, rfl, S t, rfl, for_it (walk_str (z := S t)) (fun i σ H1 => ∃ b v, σ = [some (.ref b), some (.str (S t)), v] ∧ Same H H1 ∧ H1 b = some (.lst (rowV (tilts h w (t.take i) g))))
      ⟨a, none, rfl, Same.refl H, hS⟩ (fun _ _ _ _ _ => True.intro) ?_ ?_⟩
    · rintro i x σ H1 H2 hi ⟨b, v, rfl, sm, hb⟩ ⟨rfl, c, hc, rfl⟩
      rw [S_at] at hc
      have et : tilts h w (t.take (i + 1)) g = TM.tilt h w (tilts h w (t.take i) g) c := by
        rw [List.take_add_one, hc]
        exact tilts_snoc _ _
      refine ⟨_, rfl, _, rfl, b, c, h, w, _, rfl, SqL.of hb, tilts_rect _ R, h1, h8, w1, w8, ht c (List.mem_of_getElem? hc), fun H3 b3 sm3 _ hb3 => ?_⟩
      rw [et]
      exact ⟨b3, _, rfl, sm.trans sm3, hb3⟩
    · rintro σ H1 ⟨b, v, rfl, sm, hb⟩
      rw [S_size, List.take_length] at hb
      exact ⟨_, rfl, k _ b sm hb⟩
end
end TU
end
section
set_option Elab.async false
set_option maxRecDepth 100000
set_option linter.all false
namespace TR
open PySem PySem.Spec PyProof.Rows L2 TM TX TK TB TP TH TU TW
section
variable {h w : Nat} {t : List Nat} {g : Grid}
/-- the rounds behind the first that come again -/
def agn (h w : Nat) (t : List Nat) (g : Grid) (j : Nat) : List Nat := (List.range j).filter fun x => decide (rounds h w t (x + 2) g = rounds h w t 1 g)
theorem agn_snoc (j : Nat) : agn h w t g (j + 1) = agn h w t g j ++ (if rounds h w t (j + 2) g = rounds h w t 1 g then [j] else []) := by
  unfold agn
  rw [List.range_succ, List.filter_append]
  congr 1
  by_cases q : rounds h w t (j + 2) g = rounds h w t 1 g
  · rw [if_pos q, List.filter_cons_of_pos (by simpa using q)]
    rfl
  · rw [if_neg q, List.filter_cons_of_neg (by simpa using q)]
    rfl
theorem back_at (hV : VG h w g) : rounds h w t (1 + backN (cirs h w t g)) g = rounds h w t 1 g := by
  have := back_after_same (t := t) hV 0
  rw [Nat.zero_add] at this
  exact this
theorem agn_head (hV : VG h w g) {x : Nat} {r : List Nat} (e : agn h w t g 13 = x :: r) : x + 1 = backN (cirs h w t g) := by
  have h1 : (agn h w t g 13).head? = some x := by rw [e]; rfl
  unfold agn at h1
  rw [List.head?_filter, List.find?_range_eq_some] at h1
  obtain ⟨p1, p2, p3⟩ := h1
  have p1 := of_decide_eq_true p1
  have b1 := (backN_ok (t := t) hV).1
  have d := back_least (t := t) hV (m := x + 1) (by rw [show 1 + (x + 1) = x + 2 by omega]; exact p1)
  have le := Nat.le_of_dvd (by omega) d
  rcases Nat.lt_or_ge (backN (cirs h w t g)) (x + 1) with z | z
  · exfalso
    have := p3 (backN (cirs h w t g) - 1) (by omega)
    have h2 := back_at (t := t) hV
    rw [show 1 + backN (cirs h w t g) = backN (cirs h w t g) - 1 + 2 by omega] at h2
    rw [decide_eq_true h2] at this
    cases this
  · omega
theorem agn_none (hV : VG h w g) (e : agn h w t g 13 = []) : 14 ≤ backN (cirs h w t g) := by
  have b1 := (backN_ok (t := t) hV).1
  rcases Nat.lt_or_ge (backN (cirs h w t g)) 14 with z | z
  · exfalso
    have h2 := back_at (t := t) hV
    rw [show 1 + backN (cirs h w t g) = backN (cirs h w t g) - 1 + 2 by omega] at h2
    have hm : backN (cirs h w t g) - 1 ∈ agn h w t g 13 := List.mem_filter.mpr ⟨List.mem_range.mpr (by omega), decide_eq_true h2⟩
    rw [e] at hm
    cases hm
  · exact z
theorem again_any (hV : VG h w g) : decide (rounds h w t (backN (cirs h w t g)) g = g) = (List.range (backN (cirs h w t g))).any fun j => decide (rounds h w t (j + 1) g = g) := by
  have b1 := (backN_ok (t := t) hV).1
  by_cases q : rounds h w t (backN (cirs h w t g)) g = g
  · rw [decide_eq_true q]
    symm
    refine List.any_eq_true.mpr ⟨backN (cirs h w t g) - 1, List.mem_range.mpr (by omega), ?_⟩
    rw [show backN (cirs h w t g) - 1 + 1 = backN (cirs h w t g) by omega]
    exact decide_eq_true q
  · rw [decide_eq_false q]
    symm
    refine List.any_eq_false.mpr fun j hj z => q ?_
    have z := of_decide_eq_true z
    have h1 := back_after_same (t := t) hV j
    rw [Nat.add_comm, rounds_add, z] at h1
    exact h1
end
theorem rows_shaped {n m : Nat} {g : Grid} (G : VG n m g) : SeqAt.shaped (.list (rowD g)) = true := by
  show (PyData.canLayAll0 (rowD g) && decide (PyData.depthAll (rowD g) + 1 ≤ 64)) = true
  rw [row_lay g G.ok, row_depth]
  rfl
theorem grids_lay {n m : Nat} : ∀ L : List Grid, (∀ g ∈ L, VG n m g) → PyData.canLayAll0 (L.map fun g => PyData.list (rowD g)) = true
  | [], _ => rfl
  | g :: L, h => by
    show (PyData.canLayAll0 (rowD g) && PyData.canLayAll0 (L.map fun g => PyData.list (rowD g))) = true
    rw [row_lay g (h g List.mem_cons_self).ok, grids_lay L fun x hx => h x (List.mem_cons_of_mem _ hx)]
    rfl
theorem grids_depth : ∀ L : List Grid, PyData.depthAll (L.map fun g => PyData.list (rowD g)) ≤ 1
  | [] => Nat.zero_le _
  | g :: L => by
    show max (PyData.depthAll (rowD g) + 1) (PyData.depthAll (L.map fun g => PyData.list (rowD g))) ≤ 1
    rw [row_depth g]
    exact Nat.max_le.mpr ⟨Nat.le_refl _, grids_depth L⟩
theorem grids_shaped {n m : Nat} {L : List Grid} (h : ∀ g ∈ L, VG n m g) : SeqAt.shaped (.list (L.map fun g => PyData.list (rowD g))) = true := by
  have h1 := grids_depth L
  show (PyData.canLayAll0 (L.map fun g => PyData.list (rowD g)) && decide (PyData.depthAll (L.map fun g => PyData.list (rowD g)) + 1 ≤ 64)) = true
  rw [grids_lay L h, Bool.true_and]
  exact decide_eq_true (by omega)
theorem eqvR : ∀ g g' : Grid, PyData.eqvAll (rowD g) (rowD g') = decide (g = g')
  | [], [] => rfl
  | [], _ :: _ => by simp [PyData.eqvAll]
  | _ :: _, [] => by simp [PyData.eqvAll]
  | x :: g, y :: g' => by
    have e : PyData.eqv (.str (S x)) (.str (S y)) = decide (x = y) := by
      show (S x == S y) = _
      rw [Bool.eq_iff_iff]
      simp [beq_iff_eq]
    show PyData.eqvAll (PyData.str (S x) :: rowD g) (PyData.str (S y) :: rowD g') = _
    rw [PyData.eqvAll, e, eqvR g g']
    rw [Bool.eq_iff_iff]
    simp
theorem eqvL (g g' : Grid) : PyData.eqv (.list (rowD g)) (.list (rowD g')) = decide (g = g') := eqvR g g'
theorem alk_pl {K : PySem.W.Frag} {H : Hp} {n w k : Nat} {x y : V} (hx : Dp K H x (plD w k)) (hy : Dp K H y (plD w k)) : TA.Alk K H (n + 1) x y := by
  unfold plD at hx hy
  cases hx with
  | tup h1 h2 =>
    cases hy with
    | tup h3 h4 =>
      cases h2 with
      | cons a1 b1 =>
        cases h4 with
        | cons a2 b2 =>
          cases a1
          cases a2
          cases b1 with
          | cons a1 b1 =>
            cases b2 with
            | cons a2 b2 =>
              cases a1
              cases a2
              cases b1
              cases b2
              refine .seq (by show 2 ≤ 1000; decide) (.tup h1) (.tup h3) rfl fun i x y hx hy => ?_
              match i with
              | 0 => cases hx; cases hy; exact .int _
              | 1 => cases hx; cases hy; exact .int _
              | i + 2 => simp at hx
theorem alk_dP {K : PySem.W.Frag} {H : Hp} {n w : Nat} {pa pb : Nat → Nat} {m : Nat} {x y : V} (hx : Dp K H x (dP w pa pb m)) (hy : Dp K H y (dP w pa pb m)) : TA.Alk K H (n + 2) x y := by
  unfold dP at hx hy
  generalize e1 : plD w (pa m) = d1 at hx hy
  generalize e2 : plD w (pb m) = d2 at hx hy
  cases hx with
  | tup h1 h2 =>
    cases hy with
    | tup h3 h4 =>
      cases h2 with
      | cons a1 b1 =>
        cases h4 with
        | cons a2 b2 =>
          cases b1 with
          | cons c1 b1 =>
            cases b2 with
            | cons c2 b2 =>
              cases b1
              cases b2
              subst e1 e2
              refine .seq (by show 2 ≤ 1000; decide) (.tup h1) (.tup h3) rfl fun i x y hx hy => ?_
              match i with
              | 0 => cases hx; cases hy; exact alk_pl a1 a2
              | 1 => cases hx; cases hy; exact alk_pl c1 c2
              | i + 2 => simp at hx
theorem dp_get {K : PySem.W.Frag} {H : Hp} : ∀ {ys : List V} {ds : List PyData} {i : Nat} {y : V}, DpAll K H ys ds → ys[i]? = some y → ∃ d, ds[i]? = some d ∧ Dp K H y d
  | [], _, _, _, _, h => by cases h
  | y :: ys, _, i, _, h, hy => by
    cases h with
    | cons h1 h2 =>
      match i with
      | 0 => cases hy; exact ⟨_, rfl, h1⟩
      | i + 1 => exact dp_get (i := i) h2 hy
theorem alk_pairs {K : PySem.W.Frag} {H : Hp} {n w : Nat} {pa pb : Nat → Nat} {a b : Addr} {xs ys : List V} {ms : List Nat} (hl : xs.length ≤ 1000) (ha : SqL K H a xs) (hb : SqL K H b ys) (hx : DpAll K H xs (ms.map (dP w pa pb))) (hy : DpAll K H ys (ms.map (dP w pa pb))) : TA.Alk K H (n + 3) (.ref a) (.ref b) := by
  refine .seq hl (.lst ha) (.lst hb) ((dp_len hx).trans (dp_len hy).symm) fun i x y h1 h2 => ?_
  obtain ⟨d1, e1, f1⟩ := dp_get hx h1
  obtain ⟨d2, e2, f2⟩ := dp_get hy h2
  rw [e1] at e2
  cases e2
  rw [List.getElem?_map] at e1
  obtain ⟨m, _, rfl⟩ := Option.map_eq_some_iff.mp e1
  exact alk_dP f1 f2
theorem alk_strs {K : PySem.W.Frag} {H : Hp} {n : Nat} {a b : Addr} {cs : List (List Nat)} (hl : cs.length ≤ 1000) (ha : SqL K H a (cs.map strL)) (hb : SqL K H b (cs.map strL)) : TA.Alk K H (n + 1) (.ref a) (.ref b) := by
  refine .seq (by rw [List.length_map]; exact hl) (.lst ha) (.lst hb) rfl fun i x y h1 h2 => ?_
  rw [h1] at h2
  cases h2
  obtain ⟨o, _, rfl⟩ := at_map h1
  exact .str _
theorem sort_snd {ys : List V} {ds : List PyData} (hl : ys.length = ds.length) : ((ys.zip ds).mergeSort (PySem.W.dataLe false (·.2))).map (·.2) = ds.mergeSort (PySem.W.dataLe false id) := by
  have h := List.map_mergeSort (l := ys.zip ds) (r := PySem.W.dataLe false (·.2)) (s := PySem.W.dataLe false id) (f := fun p : V × PyData => p.2) fun a _ b _ => rfl
  rw [h, List.map_snd_zip (by omega)]
end TR
end
section
set_option Elab.async false
set_option maxRecDepth 100000
set_option linter.all false
namespace TR
open PySem PySem.Spec PyProof.Rows L2 LamX TM TX TK TB TP TH TU TW TQ
abbrev NLr : List Str := ["_law_row", "_law_rows_here", "_law_text_here", "_law_played", "_law_turn", "_law_places_here", "_law_later", "_law_name", "_law_due", "_law_times", "_law_again", "_law_rounds", "_law_bad", "_law_tray", "_law_word", "_law_k"]
theorem scLr : FnScope NLr ["_law_row", "_law_rows_here", "_law_text_here"] (defScope sLawAreRounds) := ⟨rfl, rfl, rfl, by decide +kernel, rfl, by decide +kernel, by decide +kernel⟩
/-- what `_law_are_rounds` uses -/
structure LrF (P : Program) (w : World) (K : PySem.W.Frag) (mg : Str → Option Value) (base : Heap) (n : Nat) (C D CU CN : Addr) (ce : Nat → Addr) (cT : Addr) (T : List (Addr × Str)) (cW pW : Addr) : Prop where
  txt : TxtW K mg
  al : TA.TxtA K mg
  srt : mg "sorted" = none
  dct : mg "dict" = none
  cw : ClsW K mg C
  ct : ClsT K mg D
  te : TA.TxtE K mg ce cT
  cu : ce 2 = CU
  cn : ce 4 = CN
  fR : ∃ g fd, Fun K "_law_raised" "_law_raised" sLawRaised g fd ∧ Binds K fd ["_law_work"] [] ∧ mg "_law_raised" = some (.ref g)
  tb : LamX.TabB base mg cW pW
  tm : (pW, ("_law_are_rounds.<locals>.<lambda>" : Str)) ∈ T
  tu : ∀ p ∈ T, p.1 = pW → p.2 = ("_law_are_rounds.<locals>.<lambda>" : Str)
  fTk : ∃ g fd, (∀ a ns, FnOk P w K mg base CX0 1 g fd ["_law_row", "_law_many"] (spTk K a ns)) ∧ PySem.W.keepIn K (.ref g) = true ∧ Binds K fd ["_law_row", "_law_many"] [] ∧ mg "_law_taken" = some (.ref g)
  fAf : ∃ g fd, FnOk P w K mg base CX0 2 g fd ["_law_rows_here", "_law_text_here"] (spAf5 K) ∧ PySem.W.keepIn K (.ref g) = true ∧ Binds K fd ["_law_rows_here", "_law_text_here"] [] ∧ mg "_law_after" = some (.ref g)
  fPs : ∃ g fd, FnOk P w K mg base CX0 1 g fd ["_law_rows_here"] (spPs K) ∧ PySem.W.keepIn K (.ref g) = true ∧ Binds K fd ["_law_rows_here"] [] ∧ mg "_law_places" = some (.ref g)
  fCs : ∃ g fd, FnOk P w K mg base CX0 2 g fd ["_law_one", "_law_two"] (spCs K) ∧ PySem.W.keepIn K (.ref g) = true ∧ Binds K fd ["_law_one", "_law_two"] [] ∧ mg "_law_circles" = some (.ref g)
  fAl : ∃ g fd, FnOk P w K mg base CX0 5 g fd ["_law_one", "_law_due"] (TA.spAl K 4) ∧ PySem.W.keepIn K (.ref g) = true ∧ Binds K fd ["_law_one", "_law_due"] [] ∧ mg "_law_alike" = some (.ref g)
  mw : ∃ g fd, Mk K C g ∧ FnOk P w K mg base CX0 3 g fd ["self", "text"] (spWi C) ∧ Binds K fd ["self", "text"] []
  ot : ∃ mc pO gO, ClX.CRead K D mc ∧ ClX.CMet K D mc "of_text" pO gO ∧ FnR P w K mg base CX0 5 gO (spOt K D)
  pRo : ∃ p g fd, PropOf K D "rows" p g ∧ FnOk P w K mg base CX0 1 g fd ["self"] (getSp D "_rows") ∧ Binds K fd ["self"] []
  fAr : ∃ g fd, FnRn n P w K mg base CX0 7 g (spAr K C D) ∧ FnOk P w K mg base (L2.CX P w) 3 g fd ["tray", "word", "times"] (spArX K CN) ∧ PySem.W.keepIn K (.ref g) = true ∧ Binds K fd ["tray", "word", "times"] [] ∧ mg "after_rounds" = some (.ref g)
  fMa : ∃ g fd, FnRn n P w K mg base CX0 8 g (spMa K C D) ∧ FnOk P w K mg base (L2.CX P w) 5 g fd ["tray", "marble", "word", "times"] (spMaX K D CU CN) ∧ PySem.W.keepIn K (.ref g) = true ∧ Binds K fd ["tray", "marble", "word", "times"] [] ∧ mg "marble_after" = some (.ref g)
  fCi : ∃ g, FnRn n P w K mg base CX0 6 g (spCi K C D) ∧ PySem.W.keepIn K (.ref g) = true ∧ mg "circles" = some (.ref g)
  fEx : ∃ g, FnRn n P w K mg base CX0 6 g (spEx K C D) ∧ PySem.W.keepIn K (.ref g) = true ∧ mg "exchange" = some (.ref g)
  fBk : ∃ g, FnRn n P w K mg base CX0 7 g (spBk K C D) ∧ PySem.W.keepIn K (.ref g) = true ∧ mg "back_after" = some (.ref g)
  fIb : ∃ g, FnRn n P w K mg base CX0 8 g (spIb K C D) ∧ PySem.W.keepIn K (.ref g) = true ∧ mg "is_back" = some (.ref g)
theorem tabs_butE {T : List (Addr × Str)} {H H' : Hp} {r : Addr} {xs : List V} (h : Tabs T H) (hr : H r = some (.lst xs)) (b : But r H H') : Tabs T H' := fun p hp => by
  obtain ⟨ps, h1, h2, h3⟩ := h p hp
  refine ⟨ps, b _ _ h1 fun e => ?_, h2, fun pos cv hc => ?_⟩
  · rw [e, hr] at h1
    cases h1
  · obtain ⟨c, e, hc2⟩ := h3 pos cv hc
    refine ⟨c, e, b _ _ hc2 fun z => ?_⟩
    rw [z, hr] at hc2
    have hc3 : HO.lst xs = HO.ext _ := Option.some.inj hc2
    cases hc3
theorem row_extE {K : PySem.W.Frag} {a r : Addr} {ns : List Int} {H H' : Hp} (R : RowAt K a ns H r) (e : ExtN H H') : RowAt K a ns H' r := by
  obtain ⟨i, d, u, h, hi, q⟩ := R
  refine ⟨i, d, u, e _ _ h (fun ps z => by cases z), hi, ?_⟩
  rcases q with (q | ⟨o, q⟩) | q
  · exact .inl (.inl (e _ _ q fun ps z => by cases z))
  · exact .inl (.inr ⟨o, e _ _ q fun ps z => by cases z⟩)
  · exact .inr q
theorem last_any {α : Type} {xs : List α} {i : Nat} {v : α} (hl : xs.length = i + 1) (h : xs[i]? = some v) : atI xs (-1 : Int) = some v := by
  unfold atI ixN
  rw [if_neg (by decide), hl, if_pos (by omega)]
  show xs[((((i + 1 : Nat) : Int)) + -1).toNat]? = some v
  rw [show ((((i + 1 : Nat) : Int)) + -1).toNat = i by omega]
  exact h
theorem rows_apart {K : PySem.W.Frag} {H : Hp} {a r l : Addr} {ns : List Int} {g : Grid} (hl : H l = some (.lst (rowV g))) (R : RowAt K a ns H r) : l ≠ r := fun z => by
  obtain ⟨_, _, _, e, _⟩ := R
  rw [z, e] at hl
  have z2 := congrArg (fun o => match o with | some (HO.lst (V.ref _ :: _)) => true | _ => false) hl
  cases g with
  | nil => cases z2
  | cons x G => cases z2
theorem sqt_butE {K : PySem.W.Frag} {p r : Addr} {H H' : Hp} {xs ys : List V} (h : SqT K H p ys) (hr : H r = some (.lst xs)) (b : But r H H') : SqT K H' p ys := by
  rcases h with (h | ⟨u, h⟩) | h
  · exact .inl (.inl (b _ _ h fun e => by rw [e, hr] at h; cases h))
  · exact .inl (.inr ⟨u, b _ _ h fun e => by rw [e, hr] at h; cases h⟩)
  · exact .inr h
theorem tray_butE {K : PySem.W.Frag} {D p r : Addr} {H H' : Hp} {g : Grid} {xs : List V} (h : TrayAt K D H p g) (hr : H r = some (.lst xs)) (b : But r H H') : TrayAt K D H' p g := by
  obtain ⟨dx, a, h1, h2⟩ := h
  exact ⟨dx, a, b _ _ h1 fun e => (by rw [e, hr] at h1; cases h1), sqt_butE h2 hr b⟩
theorem word_butE {C p r : Addr} {H H' : Hp} {t : List Nat} {xs : List V} (h : WordAt C H p t) (hr : H r = some (.lst xs)) (b : But r H H') : WordAt C H' p t := by
  obtain ⟨dx, h1⟩ := h
  exact ⟨dx, b _ _ h1 fun e => by rw [e, hr] at h1; cases h1⟩
theorem tray_extE {K : PySem.W.Frag} {D p : Addr} {H H' : Hp} {g : Grid} (h : TrayAt K D H p g) (e : ExtN H H') : TrayAt K D H' p g := by
  obtain ⟨dx, a, h, t⟩ := h
  refine ⟨dx, a, e _ _ h fun ps z => (by cases z), ?_⟩
  rcases t with (h | ⟨o, h⟩) | h
  · exact .inl (.inl (e _ _ h fun ps z => by cases z))
  · exact .inl (.inr ⟨o, e _ _ h fun ps z => by cases z⟩)
  · exact .inr h
theorem word_extE {C p : Addr} {H H' : Hp} {t : List Nat} (h : WordAt C H p t) (e : ExtN H H') : WordAt C H' p t := by
  obtain ⟨dx, h⟩ := h
  exact ⟨dx, e _ _ h fun ps z => by cases z⟩
theorem md_ext {H H' : Hp} {e : Addr} {w : Nat} {pos : Nat → Nat} {M : List Nat} {qa : Nat → Addr} (h : MdAt H e w pos M qa) (x : ExtN H H') : MdAt H' e w pos M qa := ⟨x _ _ h.1 fun ps z => (by cases z), fun m hm => x _ _ (h.2 m hm) fun ps z => by cases z⟩
theorem md_but {H H' : Hp} {e r : Addr} {w : Nat} {pos : Nat → Nat} {M : List Nat} {qa : Nat → Addr} {xs : List V} (h : MdAt H e w pos M qa) (hr : H r = some (.lst xs)) (b : But r H H') : MdAt H' e w pos M qa :=
  ⟨b _ _ h.1 fun z => (by have := h.1; rw [z, hr] at this; cases this), fun m hm => b _ _ (h.2 m hm) fun z => by have := h.2 m hm; rw [z, hr] at this; cases this⟩
/-- new pairs, one for each of M -/
def QrAt (H : Hp) (D : Addr) (M : List Nat) (zf qa qb : Nat → Addr) : Prop := H D = some (.lst (M.map fun m => V.ref (zf m))) ∧ ∀ m ∈ M, H (zf m) = some (.tup [.ref (qa m), .ref (qb m)])
theorem QrAt.same {H H' : Hp} {D : Addr} {M : List Nat} {zf qa qb : Nat → Addr} (h : QrAt H D M zf qa qb) (s : Same H H') : QrAt H' D M zf qa qb := ⟨s _ _ h.1, fun m hm => s _ _ (h.2 m hm)⟩
theorem qr_step {H1 H7 : Hp} {D T i c : Nat} {M : List Nat} {zf qa qb : Nat → Addr} (ndM : M.Nodup) (hc : M[i]? = some c) (hD : H1 D = none) (P : QrAt H7 D (M.take i) zf qa qb) (s : Same H1 H7) (hT : H7 T = some (.tup [.ref (qa c), .ref (qb c)])) :
    ∃ zf', Same H1 (upd H7 D (.lst ((M.take i).map (fun m => V.ref (zf m)) ++ [V.ref T]))) ∧ QrAt (upd H7 D (.lst ((M.take i).map (fun m => V.ref (zf m)) ++ [V.ref T]))) D (M.take (i + 1)) zf' qa qb := by
  have take1 : M.take (i + 1) = M.take i ++ [c] := by rw [List.take_add_one, hc]; rfl
  have cnew : c ∉ M.take i := fun hm => by
    obtain ⟨j, hj⟩ := List.mem_iff_getElem?.mp hm
    rw [List.getElem?_take] at hj
    split at hj
    · rename_i hji
      have nd := List.pairwise_iff_getElem.mp ndM
      obtain ⟨l1, z1⟩ := List.getElem?_eq_some_iff.mp hj
      obtain ⟨l2, z2⟩ := List.getElem?_eq_some_iff.mp hc
      exact nd j i l1 l2 hji (z1.trans z2.symm)
    · cases hj
  obtain ⟨pn, hp1, hp2⟩ : ∃ pn : Nat → Addr, pn c = T ∧ ∀ m, m ≠ c → pn m = zf m := ⟨fun m => if m = c then T else zf m, if_pos rfl, fun m hm => if_neg hm⟩
  have hqD : ∀ {b : Addr} {xs : List V}, H7 b = some (.tup xs) → b ≠ D := fun e z => by
    rw [z, P.1] at e
    cases e
  refine ⟨pn, same_put s hD, ?_, fun m hm => ?_⟩
  · rw [upd_same, take1, List.map_append]
    congr 3
    · refine List.map_congr_left fun m hm => ?_
      rw [hp2 m (fun z => cnew (by rw [← z]; exact hm))]
    · simp [hp1]
  · rw [take1] at hm
    rcases List.mem_append.mp hm with hm | hm
    · have ne : m ≠ c := fun z => cnew (by rw [← z]; exact hm)
      have g1 := P.2 m hm
      rw [hp2 m ne, upd_ne (hqD g1)]
      exact g1
    · rw [List.mem_singleton.mp hm, hp1, upd_ne (hqD hT)]
      exact hT
theorem lock_same {H H' : Hp} {d : Addr} {u : HO} {od : Obj} (e : H d = some u) (s : Same (upd H d (.frz od u)) H') : Same H (upd H' d u) := fun b o h => by
  by_cases q : b = d
  · subst q
    rw [upd_same, ← e]
    exact h
  · rw [upd_ne q]
    exact s b o (by rw [upd_ne q]; exact h)
theorem md_get {H : Hp} {e : Addr} {M : List Nat} {qa : Nat → Addr} {m : Nat} (h : Rd H e (.dK (mkv M qa))) (hm : m ∈ M) : DGet H e (sg m) (some (V.ref (qa m))) := by
  have e2 : valV (mkv M qa) (Sum.inr (S [m])) = some (V.ref (qa m)) := valV_at (f := fun m => (Sum.inr (S [m]) : Key)) (v := fun m => V.ref (qa m)) hm fun x _ z => key_inj z
  exact .inl ⟨mkv M qa, Sum.inr (S [m]), h, rfl, e2.symm⟩
/-- pairs of places of M, the keys' places all different -/
theorem keys_nd {w : Nat} {A M : List Nat} (ndM : M.Nodup) (hM : ∀ m ∈ M, A[A.idxOf m]? = some m) : (M.map fun m => plK w (A.idxOf m)).Nodup := by
  refine List.pairwise_map.mpr (List.Pairwise.imp_of_mem (fun {x y} hx hy ne z => ne ?_) ndM)
  have e : A.idxOf x = A.idxOf y := plK_inj z
  have a1 := hM x hx
  have a2 := hM y hy
  rw [e, a2] at a1
  exact (Option.some.inj a1).symm
mutual
theorem dp_same {K : PySem.W.Frag} {H H' : Hp} (s : Same H H') : ∀ (d : PyData) (v : V), Dp K H v d → Dp K H' v d
  | .none, _, h => by
    cases h
    exact .non
  | .bool b, _, h => by
    cases h
    exact .bl b
  | .int i, _, h => by
    cases h
    exact .int i
  | .str x, _, h => by
    cases h
    exact .str x
  | .list ds, _, h => by
    cases h with
    | lst hs ha => exact .lst (s.seq hs) (dpAll_same s ds _ ha)
  | .tuple ds, _, h => by
    cases h with
    | tup hs ha => exact .tup (s.tup hs) (dpAll_same s ds _ ha)
  | .dict _, _, h => by cases h
theorem dpAll_same {K : PySem.W.Frag} {H H' : Hp} (s : Same H H') : ∀ (ds : List PyData) (vs : List V), DpAll K H vs ds → DpAll K H' vs ds
  | [], _, h => by
    cases h
    exact .nil
  | d :: ds, _, h => by
    cases h with
    | cons h1 h2 => exact .cons (dp_same s d _ h1) (dpAll_same s ds _ h2)
end
theorem it_same {K : PySem.W.Frag} {H H' : Hp} {w : Nat} {pa pb : Nat → Nat} {zs : List (Addr × Nat)} (s : Same H H') (h : ItAt K H w pa pb zs) : ItAt K H' w pa pb zs := dpAll_same s _ _ h
theorem cirs_few {h w : Nat} {t : List Nat} {g : Grid} (hV : VG h w g) : (cirs h w t g).length ≤ 26 := by
  have h26 := cirs_26 (t := t) hV
  have one := cir_one (φ := TM.nxt (tilts h w t g).flatten (tilts h w t (tilts h w t g)).flatten) (srt (mb (tilts h w t g).flatten)) []
  have h1 := (sum_ones ((cirs h w t g).map List.length) fun x hx => by
    obtain ⟨o, ho, rfl⟩ := List.mem_map.mp hx
    exact one o ho).2
  rw [List.length_map] at h1
  omega
/-- what stands behind the rounds played -/
structure R5 (K : PySem.W.Frag) (C D : Addr) (T : List (Addr × Str)) (a : Addr) (ns : List Int) (r l p q pl d1 h w : Nat) (g : Grid) (t : List Nat) (ls : List Addr) (qa : Nat → Addr) (H : Hp) : Prop where
  rw : RowAt K a ns H r
  tb : Tabs T H
  ll : H l = some (.lst (rowV g))
  tr : TrayAt K D H p g
  wd : WordAt C H q t
  pl : H pl = some (.lst (ls.map V.ref))
  pk : ∀ k, k < 15 → ∃ b, ls[k]? = some b ∧ H b = some (.lst (rowV (rounds h w t k g)))
  m1 : MdAt H d1 w (fun m => (rounds h w t 1 g).flatten.idxOf m) (mb (rounds h w t 1 g).flatten) qa
section
variable {K : PySem.W.Frag} {C D a r l p q pl d1 h w : Nat} {T : List (Addr × Str)} {ns : List Int} {g : Grid} {t : List Nat} {ls : List Addr} {qa : Nat → Addr} {H H' : Hp}
theorem R5.same (I : R5 K C D T a ns r l p q pl d1 h w g t ls qa H) (s : Same H H') : R5 K C D T a ns r l p q pl d1 h w g t ls qa H' :=
  ⟨I.rw.same s, I.tb.ext s, s _ _ I.ll, I.tr.same s, I.wd.same s, s _ _ I.pl, fun k hk => (I.pk k hk).imp fun b z => ⟨z.1, s _ _ z.2⟩, I.m1.same s⟩
theorem R5.ext (I : R5 K C D T a ns r l p q pl d1 h w g t ls qa H) (e : ExtN H H') (tb : Tabs T H') : R5 K C D T a ns r l p q pl d1 h w g t ls qa H' :=
  ⟨row_extE I.rw e, tb, e _ _ I.ll fun ps z => (by cases z), tray_extE I.tr e, word_extE I.wd e, e _ _ I.pl fun ps z => (by cases z), fun k hk => (I.pk k hk).imp fun b z => ⟨z.1, e _ _ z.2 fun ps z => by cases z⟩, md_ext I.m1 e⟩
theorem R5.but (I : R5 K C D T a ns r l p q pl d1 h w g t ls qa H) (l15 : ls.length = 15) (b : But r H H') (R : RowAt K a ns H' r) : R5 K C D T a ns r l p q pl d1 h w g t ls qa H' := by
  obtain ⟨_, _, _, hr, _⟩ := id I.rw
  have pr : pl ≠ r := fun z => by
    have := I.pl
    rw [z, hr] at this
    have := congrArg (fun o => match o with | some (HO.lst xs) => xs.length | _ => 0) this
    simp [l15] at this
  exact ⟨R, tabs_butE I.tb hr b, b _ _ I.ll (rows_apart I.ll I.rw), tray_butE I.tr hr b, word_butE I.wd hr b, b _ _ I.pl pr, fun k hk => (I.pk k hk).imp fun x z => ⟨z.1, b _ _ z.2 (rows_apart z.2 I.rw)⟩, md_but I.m1 hr b⟩
end
end TR
end
section
set_option Elab.async false
set_option maxRecDepth 100000
set_option linter.all false
namespace TR
open PySem PySem.Spec PyProof.Rows L2 LamX TM TX TK TB TP TH TU TW TQ
abbrev st5 (r l pl d1 d2 due p q : Addr) (t : List Nat) (v4 v7 v9 v10 v11 v12 v15 : Option V) : L2.St := [some (.ref r), some (.ref l), some (.str (S t)), some (.ref pl), v4, some (.ref d1), some (.ref d2), v7, some (.ref due), v9, v10, v11, v12, some (.ref p), some (.ref q), v15]
def agV (l : List Nat) : List V := l.map fun x => V.int ((x + 2 : Nat) : Int)
def agD (l : List Nat) : List PyData := l.map fun x => PyData.int ((x + 2 : Nat) : Int)
theorem agV_len (l : List Nat) : (agV l).length = l.length := List.length_map _
theorem agV_snoc (l : List Nat) (j : Nat) : agV (l ++ [j]) = agV l ++ [V.int ((j + 2 : Nat) : Int)] := by simp [agV]
theorem agn_le (h w : Nat) (t : List Nat) (g : Grid) (j : Nat) : (agn h w t g j).length ≤ j := by
  have := List.length_filter_le (fun x => decide (rounds h w t (x + 2) g = rounds h w t 1 g)) (List.range j)
  rw [List.length_range] at this
  exact this
theorem ag_dp {K : PySem.W.Frag} {H : Hp} : ∀ l : List Nat, DpAll K H (agV l) (agD l)
  | [] => .nil
  | _ :: l => .cons (.int _) (ag_dp l)
theorem ag_depth : ∀ l : List Nat, PyData.depthAll (agD l) = 0
  | [] => rfl
  | x :: l => by
    show max (PyData.depth (.int _)) (PyData.depthAll (agD l)) = 0
    rw [ag_depth l]
    rfl
theorem ag_lay : ∀ l : List Nat, PyData.canLayAll0 (agD l) = true
  | [] => rfl
  | x :: l => by
    show (PyData.canLay0 (.int ((x + 2 : Nat) : Int)) && PyData.canLayAll0 (agD l)) = true
    rw [ag_lay l]
    rfl
theorem ag_shaped (l : List Nat) : SeqAt.shaped (.list (agD l)) = true := by
  show (PyData.canLayAll0 (agD l) && decide (PyData.depthAll (agD l) + 1 ≤ 64)) = true
  rw [ag_lay, ag_depth]
  rfl
theorem dpAll_of {K : PySem.W.Frag} {H : Hp} : ∀ {ys : List V} {ds : List PyData}, ys.length = ds.length → (∀ (i : Nat) (y : V) (d : PyData), ys[i]? = some y → ds[i]? = some d → Dp K H y d) → DpAll K H ys ds
  | [], [], _, _ => .nil
  | y :: ys, d :: ds, hl, h => .cons (h 0 y d rfl rfl) (dpAll_of (by simpa using hl) fun i y d hy hd => h (i + 1) y d (by simpa using hy) (by simpa using hd))
  | [], _ :: _, hl, _ => by simp at hl
  | _ :: _, [], hl, _ => by simp at hl
theorem cutV_tk (t : List V) (d : Nat) : cutV t none (some (d : Int)) = t.take d := by
  unfold cutV
  rw [show HT.sIx t.length 0 none = 0 from rfl, HT.sIx_nat, Nat.sub_zero, List.drop_zero]
  rcases Nat.le_total d t.length with h | h
  · rw [Nat.min_eq_left h]
  · rw [Nat.min_eq_right h, List.take_length, List.take_of_length_le h]
theorem cut_1 {ys : List V} {n : Nat} (h : n + 1 ≤ ys.length) : cutV ys (some 1) (some ((n : Int) + 1)) = (ys.drop 1).take n := by
  rw [show (n : Int) + 1 = ((n + 1 : Nat) : Int) by omega, show (1 : Int) = ((1 : Nat) : Int) from rfl]
  unfold cutV
  rw [HT.sIx_nat, HT.sIx_nat, Nat.min_eq_left (by omega : 1 ≤ ys.length), Nat.min_eq_left h, Nat.add_sub_cancel]
section
variable {P : Program} {w_ : World} {K : PySem.W.Frag} {mg : Str → Option Value} {base : Heap} {n : Nat} {C D CU CN cT cW pW : Addr} {ce : Nat → Addr} {T : List (Addr × Str)}
def spLr (K : PySem.W.Frag) (T : List (Addr × Str)) (a : Addr) (ns : List Int) : Sp := fun vs H Q _ => ∃ (r l h w : Nat) (g : Grid) (t : List Nat), vs = [.ref r, .ref l, .str (S t)] ∧ RowAt K a ns H r ∧ VG h w g ∧ (∀ c ∈ mb g.flatten, c < 122) ∧ H l = some (.lst (rowV g)) ∧ Good t ∧ Tabs T H ∧ ∀ H', RowAt K a ns H' r → Tabs T H' → Q (.bl true) H'
theorem un65 {A : Around} {k : Nat} (hr : Room k A) : A.units + 65 < cLine := by have := hr.un; omega
theorem un2 {A : Around} {k : Nat} (hr : Room k A) : A.units + 2 < cLine := by have := hr.un; omega
set_option maxHeartbeats 8000000 in
theorem ok_lr {f : Addr} {oc kV doc pm ct : Value} {od an : Option Addr} {osl : Array (Option Value)} (lk : K.lookup f = some ⟨oc, od, .func (PySem.W.fnOf "_law_are_rounds" "_law_are_rounds" (defArgs sLawAreRounds) (defBody sLawAreRounds) (defScope sLawAreRounds) .none kV doc pm an (.ref cW) ct), osl⟩) (hcd : PySem.W.codeIn K (.ref cW) "_law_are_rounds" = true)
    (b : Binds K (PySem.W.fnOf "_law_are_rounds" "_law_are_rounds" (defArgs sLawAreRounds) (defBody sLawAreRounds) (defScope sLawAreRounds) .none kV doc pm an (.ref cW) ct) ["_law_row", "_law_rows_here", "_law_text_here"] []) (L : LrF P w_ K mg base n C D CU CN ce cT T cW pW) (a : Addr) (ns : List Int) :
    FnRn n P w_ K mg base CX0 9 f (spLr K T a ns) := by
  obtain ⟨gR, fdR, FR, bR, mR⟩ := L.fR
  obtain ⟨gTk, fdTk, GTk, kTk, bTk, mTk⟩ := L.fTk
  obtain ⟨gAf, fdAf, GAf, kAf, bAf, mAf⟩ := L.fAf
  obtain ⟨gPs, fdPs, GPs, kPs, bPs, mPs⟩ := L.fPs
  obtain ⟨gCs, fdCs, GCs, kCs, bCs, mCs⟩ := L.fCs
  obtain ⟨gAl, fdAl, GAl, kAl, bAl, mAl⟩ := L.fAl
  obtain ⟨gWi, fdWi, MW, GWi, bWi⟩ := L.mw
  obtain ⟨mc, pO, gO, CR_, CM, GO⟩ := L.ot
  obtain ⟨pRo, gRo, fdRo, PRo, GRo, bRo⟩ := L.pRo
  obtain ⟨gAr, fdAr, GAr, GArX, kAr, bAr, mAr⟩ := L.fAr
  obtain ⟨gMa, fdMa, GMa, GMaX, kMa, bMa, mMa⟩ := L.fMa
  obtain ⟨gCi, GCi, kCi, mCi⟩ := L.fCi
  obtain ⟨gEx, GEx, kEx, mEx⟩ := L.fEx
  obtain ⟨gBk, GBk, kBk, mBk⟩ := L.fBk
  obtain ⟨gIb, GIb, kIb, mIb⟩ := L.fIb
  have CW := L.cw
  have CT := L.ct
  have T_ := L.txt
  have nd := scLr.nd
  refine fn_nE lk hcd b scLr (fun vs H Q E h => ?_) fun A outer s H vs Q E hr h => ?_
  · obtain ⟨r, l, h, w, g, t, rfl, _⟩ := h
    rfl
  · obtain ⟨r, l, h, w, g, t, rfl, R0, hV, h122, hl, hT, T0, k⟩ := h
    have r1 : Room 1 _ := hr.mono (by decide)
    have r2 : Room 2 _ := hr.mono (by decide)
    have r4 : Room 4 _ := hr.mono (by decide)
    have r5 : Room 5 _ := hr.mono (by decide)
    have r6 : Room 6 _ := hr.mono (by decide)
    have r7 : Room 7 _ := hr.mono (by decide)
    have hu65 := un65 hr
    refine ⟨_, pssn_cut (PS.up (ps_asg (pe_tup (pa_cons (ClX.pe_cmeth (pe_glob (v := .ref D) rfl CT.mgC rfl) CR_ CM GO r5 pass0 (pa_cons (pe_join pe_str (pv 1)) pa_nil)) (pa_cons (pe_make MW GWi r4 rfl CW.mgC bWi .nil pass0 (pa_cons (pv 2) pa_nil)) (pa_cons (pe_lst (pa_cons (pv 1) pa_nil)) pa_nil))))
        (pg_tup rfl (pgs_cons (pg_name (i := 13) nd rfl (.inr rfl)) (pgs_cons (pg_name (i := 14) nd rfl (.inr rfl)) (pgs_cons (pg_name (i := 3) nd rfl (.inr rfl)) pgs_nil))))))
      (pssn_cut (PS.up (ps_for PassesOwn.never rfl (pi_range1 (by rfl) L.al.range (pa_cons pe_int pa_nil)) (pg_name (i := 4) nd rfl (.inl rfl)) (pss_one (ps_expr (pe_bm PySem.F.plainAttrs_list PySem.F.slot_list_append PySem.F.type_list_append mt_append (pv 3) (pa_cons (pe_call GAf r2 rfl mAf kAf bAf .nil pass0 (pa_cons (pe_ix ix_list (pv 3) (pe_un un_neg pe_int) (fun _ _ => rfl)) (pa_cons (pv 2) pa_nil))) pa_nil))))))
      (pssn_cut (PS.up (ps_set (i := 5) nd rfl (.inr rfl) (pe_call GPs r1 rfl mPs kPs bPs .nil pass0 (pa_cons (pe_ix ix_list (pv 3) pe_int (fun _ _ => rfl)) pa_nil))))
      (pssn_cut (PS.up (ps_set (i := 6) nd rfl (.inr rfl) (pe_call GPs r1 rfl mPs kPs bPs .nil pass0 (pa_cons (pe_ix ix_list (pv 3) pe_int (fun _ _ => rfl)) pa_nil))))
      (pssn_cut (PS.up (ps_set (i := 8) nd rfl (.inl rfl) (pe_lst (pa_cons (pe_call GCs r2 rfl mCs kCs bCs .nil pass0 (pa_cons (pe_ix ix_list (pv 3) pe_int (fun _ _ => rfl)) (pa_cons (pe_ix ix_list (pv 3) pe_int (fun _ _ => rfl)) pa_nil)))
          (pa_cons (pe_callTy (cr_listIt rfl) (by rfl) L.al.lst (by decide +kernel) (pa_cons (pe_bm0 PySem.F.plainAttrs_dict PySem.F.slot_dict_items PySem.F.type_dict_items DX.mt_itemsT (pe_callTy (call_dictPT rfl (un2 hr)) (by rfl) L.dct (by decide +kernel)
            (pa_cons (pe_lock (pe_lc (own := [("_law_name", 7)]) (g := gName 7) (tt := tYes) rfl nd (pi_keys (pv 5)) (blkOk_by (N := NLr) (sc := defScope sLawAreRounds) (by decide +kernel)) (fun _ _ _ _ _ => pg_name (i := 7) nd rfl (.inl rfl)) (fun _ _ _ _ _ => pts_nil)
              (fun _ _ _ _ _ => pe_tup (pa_cons (pe_dget (hu_of hr) (pv 5) (pv 7) (fun _ _ => rfl)) (pa_cons (pe_dget (hu_of hr) (pv 6) (pv 7) (fun _ _ => rfl)) pa_nil))))) pa_nil))) pa_nil)) pa_nil)))))
      (pssn_cut (psn_if (ptn_not (ptn_val (pen_call (fnOk_n GAl bAl) r5 rfl mAl kAl pass0 (pan_cons (pen_lst (pan_cons (pen_call GCi r6 rfl mCi kCi pass0 (pan_cons (PE.up (pv 13)) (pan_cons (PE.up (pv 14)) pan_nil)))
          (pan_cons (pen_callB (cr_sortedIt rfl hr.units) (by rfl) L.srt (by decide +kernel) (pan_cons (pen_bm0E PySem.F.plainAttrs_dict PySem.F.slot_dict_items PySem.F.type_dict_items DX.mt_itemsT (pen_call GEx r6 rfl mEx kEx pass0 (pan_cons (PE.up (pv 13)) (pan_cons (PE.up (pv 14)) pan_nil)))) pan_nil)) pan_nil)))
          (pan_cons (PE.up (pe_lst (pa_cons (pe_ix ix_list (pv 8) pe_int (fun _ _ => rfl)) (pa_cons (pe_callB (cr_sortedDt hr.units) (by rfl) L.srt (by decide +kernel) (pa_cons (pe_ix ix_list (pv 8) pe_int (fun _ _ => rfl)) pa_nil)) pa_nil)))) pan_nil))))) (PSs.up pss_never) (PSs.up pss_nil))
      (pssn_cut (psn_for PassesOwn.never rfl (pi_range1 (by rfl) L.al.range (pa_cons pe_int pa_nil)) (pg_name (i := 4) nd rfl (.inl rfl))
        (pssn_cut (PS.up (ps_set (i := 9) nd rfl (.inl rfl) (pe_call (GTk a ns) r1 rfl mTk kTk bTk .nil pass0 (pa_cons (pv 0) (pa_cons pe_int pa_nil)))))
        (pssn_cut (psn_if (ptn_cmpR (op_neD hr.units) (pen_prop (pen_call GAr r7 rfl mAr kAr pass0 (pan_cons (PE.up (pv 13)) (pan_cons (PE.up (pv 14)) (pan_cons (PE.up (pv 9)) pan_nil)))) CT.cl PRo GRo r2 bRo .nil pass0 rfl) (PE.up (pe_callTy call_tuple_of (by rfl) L.al.tup (by decide +kernel) (pa_cons (pe_ix ix_list (pv 3) (pv 9) (fun _ _ => rfl)) pa_nil))) (nomark _)) (PSs.up pss_never) (PSs.up pss_nil))
        (pssn_one (psn_for PassesOwn.never rfl (pi_list (pe_slice sl_list (pe_callTy (call_listD rfl) (by rfl) L.al.lst (by decide +kernel) (pa_cons (pv 5) pa_nil)) po_none (po_some pe_int))) (pg_name (i := 7) nd rfl (.inr rfl))
          (pssn_one (psn_if (ptn_cmpR (op_neD hr.units) (pen_call GMa hr rfl mMa kMa pass0 (pan_cons (PE.up (pv 13)) (pan_cons (PE.up (pv 7)) (pan_cons (PE.up (pv 14)) (pan_cons (PE.up (pv 9)) pan_nil))))) (PE.up (pe_dget (hu_of hr) (pe_call GPs r1 rfl mPs kPs bPs .nil pass0 (pa_cons (pe_ix ix_list (pv 3) (pv 9) (fun _ _ => rfl)) pa_nil)) (pv 7) (fun _ _ => rfl))) (nomark _)) (PSs.up pss_never) (PSs.up pss_nil))))))))
      (pssn_cut (PS.up (ps_setLc (i := 10) (own := [("_law_k", 15)]) (g := gName 15) rfl nd rfl rfl (sw_true rfl rfl rfl (by decide +kernel)) (pi_range2 (by rfl) L.al.range (pa_cons pe_int (pa_cons pe_int pa_nil))) (blkOk_by (N := NLr) (sc := defScope sLawAreRounds) (by decide +kernel)) (fun _ _ _ _ _ => pg_name (i := 15) nd rfl (.inl rfl))
          (fun _ _ _ _ _ => pts_one (pt_cmpR (op_eqDK (K := K) rfl hr.units) (pe_ix (TA.ix_listK (K := K) rfl) (pv 3) (pv 15) (fun _ _ => rfl)) (pe_ix (TA.ix_listK (K := K) rfl) (pv 3) pe_int (fun _ _ => rfl)) (nomark _))) (fun _ _ _ _ _ => pv 15)))
      (pssn_cut (psn_set (i := 11) nd rfl (.inl rfl) (pen_call GBk r7 rfl mBk kBk pass0 (pan_cons (PE.up (pv 13)) (pan_cons (PE.up (pv 14)) pan_nil))))
      (pssn_cut (PS.up (ps_if (PW.pt (pw_or (PW.pt (pw_and (pt_cmpR (op_neD hr.units) (pv 10) (pe_lst pa_nil) (nomark _)) (pw_and1 (pt_cmpR op_ne (pv 11) (pe_op op_sub (pe_ix ix_list (pv 10) pe_int (fun _ _ => rfl)) pe_int) (nomark _))))) (pw_or1 (PW.pt (pw_and (pt_cmpR (op_eqD hr.units) (pv 10) (pe_lst pa_nil) (nomark _)) (pw_and1 (pt_cmpR op_lt (pv 11) pe_int (nomark _)))))))) pss_never pss_nil))
      (pssn_cut (psn_if (PWn.pt (pwn_andE (PT.up (pt_cmpR op_le (pv 11) pe_int (nomark _))) (pwn_andE1 (ptn_cmpR op_ne (pen_call GIb hr rfl mIb kIb pass0 (pan_cons (PE.up (pv 13)) (pan_cons (PE.up (pv 14)) pan_nil))) (PE.up (pe_cmpR (op_inD hu65) (pv 1) (pe_slice sl_list (pv 3) (po_some pe_int) (po_some (pe_op op_add (pv 11) pe_int))) (by rfl))) (nomark _))))) (PSs.up pss_never) (PSs.up pss_nil))
      (pssn_cut (PS.up (ps_for PassesOwn.never rfl (pi_tup (pe_tup (pa_cons (pe_op op_sub pe_int pe_int) (pa_cons (pe_op op_add (pe_op op_pow pe_int pe_int) pe_int) (pa_cons pe_non (pa_cons pe_bl pa_nil)))))) (pg_name (i := 12) nd rfl (.inr rfl))
          (C8.pss_cut (ps_if (pt_cmpR (op_neD hr.units) (TA.pe_told FR bR mR L.te (by rfl) L.tb rfl L.tm L.tu (k := 6) hr (show LamS (defScope sLawAreRounds) _ from lamS_by (by decide +kernel)) rfl (fun _ _ _ _ _ => rfl)
              (fun A outer s H E f c' hr' => pe_call GArX (hr'.mono (by decide)) rfl mAr kAr bAr .nil (passX (takes_of rfl rfl rfl rfl)) (pa_cons (pv 13) (pa_cons (pv 14) (pa_cons (pv 12) pa_nil))))) (pe_tup (pa_cons pe_str pa_nil)) (nomark _)) pss_never pss_nil)
          (pss_one (ps_for PassesOwn.never rfl (pi_list (pe_slice sl_list (pe_callTy (call_listD rfl) (by rfl) L.al.lst (by decide +kernel) (pa_cons (pv 5) pa_nil)) po_none (po_some pe_int))) (pg_name (i := 7) nd rfl (.inr rfl))
            (pss_one (ps_if (pt_cmpR (op_neD hr.units) (TA.pe_told FR bR mR L.te (by rfl) L.tb rfl L.tm L.tu (k := 6) hr (show LamS (defScope sLawAreRounds) _ from lamS_by (by decide +kernel)) rfl (fun _ _ _ _ _ => rfl)
              (fun A outer s H E f c' hr' => pe_call GMaX (hr'.mono (by decide)) rfl mMa kMa bMa .nil (passX (takes_of rfl rfl rfl rfl)) (pa_cons (pv 13) (pa_cons (pv 7) (pa_cons (pv 14) (pa_cons (pv 12) pa_nil)))))) (pe_tup (pa_cons pe_str pa_nil)) (nomark _)) pss_never pss_nil)))))))
      (pssn_cut (PS.up (ps_for PassesOwn.never rfl (pi_tup (pe_tup (pa_cons pe_str (pa_cons pe_str (pa_cons pe_non pa_nil))))) (pg_name (i := 12) nd rfl (.inr rfl))
          (pss_one (ps_if (pt_cmpR (op_neD hr.units) (TA.pe_told FR bR mR L.te (by rfl) L.tb rfl L.tm L.tu (k := 6) hr (show LamS (defScope sLawAreRounds) _ from lamS_by (by decide +kernel)) rfl (fun _ _ _ _ _ => rfl)
              (fun A outer s H E f c' hr' => pe_call GMaX (hr'.mono (by decide)) rfl mMa kMa bMa .nil (passX (takes_of rfl rfl rfl rfl)) (pa_cons (pv 13) (pa_cons (pv 12) (pa_cons (pv 14) (pa_cons pe_non pa_nil)))))) (pe_tup (pa_cons pe_str (pa_cons (pv 12) pa_nil))) (nomark _)) pss_never pss_nil))))
      (pssn_one (PS.up (ps_ret pe_bl))))))))))))))), ?_⟩

    have hh1 := hV.n1
    have hh8 := hV.n8
    have hw1 := hV.m1
    have hw8 := hV.m8
    have Vr : ∀ k, VG h w (rounds h w t k g) := fun k => VG.rounds k hV
    -- a tray, a word, the rounds
    refine ⟨fun σ H1 => ∃ p q pl, σ = [some (.ref r), some (.ref l), some (.str (S t)), some (.ref pl), none, none, none, none, none, none, none, none, none, some (.ref p), some (.ref q), none] ∧ ∃ H0, H0 pl = none ∧ Same H H0 ∧ TrayAt K D H0 p g ∧ WordAt C H0 q t ∧ Same H0 H1 ∧ H1 pl = some (.lst [.ref l]), ?_, ?_⟩
    · have h1 := row_sum 8 g fun r hr => hV.row hr
      have h2 := hV.len
      refine ⟨rfl, ⟨_, rfl⟩, _, rfl, _, l, g.map S, rfl, rfl, .inl ?_, ?_, h, w, g, ?_, hV, fun H1 p s1 ht => ?_⟩
      · rw [List.map_map]
        exact SqL.of hl
      · rw [List.length_map]
        show _ + _ * 1 ≤ 16777216
        omega
      · show [V.ref D, V.str (Txt.join (S [10]) (g.map S))] = _
        rw [join_S]
      refine ⟨_, rfl, fun x dx nx ndx nex => ⟨x, dx, t, rfl, upd_same, hT, fun H2 hw' kp => ⟨rfl, ?_⟩⟩⟩
      have s2 := Same.made nx ndx kp
      refine ⟨_, rfl, (by show 1 ≤ sizeLine; decide), fun pl hpl => ?_⟩
      have s3 := same_new (o := .lst [V.ref l]) hpl
      have e3 : upd H2 pl (.lst [V.ref l]) pl = some (.lst [V.ref l]) := upd_same
      refine ⟨(by show 3 ≤ sizeLine; decide), fun tp htp => ?_⟩
      have s4 := same_new (o := .tup [V.ref p, V.ref x, V.ref pl]) htp
      have e4 : upd (upd H2 pl (.lst [V.ref l])) tp (.tup [V.ref p, V.ref x, V.ref pl]) tp = some (.tup [V.ref p, V.ref x, V.ref pl]) := upd_same
      exact ⟨tp, _, rfl, SqT.of e4, rfl, _, _, rfl, _, _, rfl, _, _, rfl, rfl, p, x, pl, rfl, H2, hpl, s1.trans s2, ht.same s2, hw', s3.trans s4, s4 _ _ e3⟩
    rintro σ H1 ⟨p, q, pl, rfl, H0, npl, s0, tr0, wd0, s01, hpl1⟩
    have pl_ne : ∀ {b : Addr} {o : HO}, H0 b = some o → b ≠ pl := fun {b o} e z => by rw [z, npl] at e; cases e
    have hl0 := s0 _ _ hl
    refine ⟨fun σ H2 => ∃ (ls : List Addr) (v4 : Option V), σ = [some (.ref r), some (.ref l), some (.str (S t)), some (.ref pl), v4, none, none, none, none, none, none, none, none, some (.ref p), some (.ref q), none] ∧ Same H0 H2 ∧ ls.length = 15 ∧ H2 pl = some (.lst (ls.map V.ref)) ∧ ∀ k, k < 15 → ∃ b, ls[k]? = some b ∧ H2 b = some (.lst (rowV (rounds h w t k g))), ?_, ?_⟩
    · refine ⟨14, rfl, by decide, by decide, for_range (lo := 0) (n := 14) (fun i σ H2 => ∃ (ls : List Addr) (v4 : Option V), σ = [some (.ref r), some (.ref l), some (.str (S t)), some (.ref pl), v4, none, none, none, none, none, none, none, none, some (.ref p), some (.ref q), none] ∧ Same H0 H2 ∧ ls.length = i + 1 ∧ H2 pl = some (.lst (ls.map V.ref)) ∧ ∀ k, k < i + 1 → ∃ b, ls[k]? = some b ∧ b ≠ pl ∧ H2 b = some (.lst (rowV (rounds h w t k g))))
        ⟨[l], none, rfl, s01, rfl, hpl1, fun k hk => ⟨l, by rw [show k = 0 by omega]; rfl, pl_ne hl0, by rw [show k = 0 by omega]; exact s01 _ _ hl0⟩⟩ ?_ fun σ H2 ⟨ls, v4, e, s, l15, hp, hk⟩ => ⟨ls, v4, e, s, l15, hp, fun k hk2 => (hk k hk2).imp fun b z => ⟨z.1, z.2.2⟩⟩⟩
      rintro i σ H2 hi ⟨ls, v4, rfl, s2, l2, hp2, hk2⟩
      obtain ⟨b, hb, nb, hHb⟩ := hk2 i (by omega)
      have last : atI (ls.map V.ref) (-1) = some (V.ref b) := last_any (by rw [List.length_map, l2]) (by rw [List.getElem?_map, hb]; rfl)
      refine ⟨_, rfl, .inl ⟨rfl, _, .inl (.inl hp2)⟩, ?_⟩
      refine ⟨_, rfl, _, rfl, pl, _, _, _, rfl, rfl, SqL.of hp2, last, _, rfl, b, h, w, t, _, rfl, hHb, (Vr i).rc, hh1, hh8, hw1, hw8, hT.2, fun H3 b3 s3 hb3 => ?_⟩
      refine ⟨pl, _, _, rfl, rfl, s3 _ _ hp2, ?_, ?_⟩
      · rw [List.length_map, l2]
        show i + 1 < 16777216
        omega
      have nb3 : b3 ≠ pl := fun z => by
        have e := s3 _ _ hp2
        rw [← z, hb3] at e
        have e2 := congrArg (fun o => match o with | some (HO.lst (V.ref _ :: _)) => true | _ => false) e
        cases ls with
        | nil => simp at l2
        | cons x r =>
          generalize tilts h w t (rounds h w t i g) = G at e2
          cases G with
          | nil => cases e2
          | cons y G => cases e2
      refine ⟨ls ++ [b3], _, rfl, ?_, by rw [List.length_append, l2]; rfl, ?_, fun k hk => ?_⟩
      · intro x o e
        rw [upd_ne (pl_ne e)]
        exact s3 _ _ (s2 _ _ e)
      · rw [upd_same, List.map_append]
        rfl
      · rcases Nat.lt_or_ge k (i + 1) with z | z
        · obtain ⟨x, hx, nx, hHx⟩ := hk2 k z
          exact ⟨x, by rw [List.getElem?_append_left (by omega)]; exact hx, nx, by rw [upd_ne nx]; exact s3 _ _ hHx⟩
        · have : k = i + 1 := by omega
          subst this
          exact ⟨b3, by rw [List.getElem?_append_right (by omega), l2, Nat.sub_self]; rfl, nb3, by rw [upd_ne nb3]; exact hb3⟩
    rintro σ H2 ⟨ls, v4, rfl, s02, l15, hp2, hk2⟩
    clear hpl1 s01 H1
    have get : ∀ k : Nat, k < 15 → ∃ b, atI (ls.map V.ref) (k : Int) = some (V.ref b) ∧ ls[k]? = some b ∧ H2 b = some (.lst (rowV (rounds h w t k g))) := fun k hk => by
      obtain ⟨b, h1, h2⟩ := hk2 k hk
      exact ⟨b, atI_nat (by rw [List.getElem?_map, h1]; rfl), h1, h2⟩
    -- places of the first and the second round
    refine ⟨fun σ H3 => ∃ d1 qa1, σ = [some (.ref r), some (.ref l), some (.str (S t)), some (.ref pl), v4, some (.ref d1), none, none, none, none, none, none, none, some (.ref p), some (.ref q), none] ∧ Same H2 H3 ∧ H2 d1 = none ∧ MdAt H3 d1 w (fun m => (rounds h w t 1 g).flatten.idxOf m) (mb (rounds h w t 1 g).flatten) qa1, ?_, ?_⟩
    · obtain ⟨b, a1, a2, a3⟩ := get 1 (by decide)
      exact ⟨_, rfl, pl, _, _, _, rfl, rfl, SqL.of hp2, a1, b, h, w, _, rfl, Vr 1, a3, fun H3 e qa s3 he hM => ⟨e, qa, rfl, s3, he, hM⟩⟩
    rintro σ H3 ⟨d1, qa1, rfl, s3, nd1, M1⟩
    refine ⟨fun σ H4 => ∃ d2 qa2, σ = [some (.ref r), some (.ref l), some (.str (S t)), some (.ref pl), v4, some (.ref d1), some (.ref d2), none, none, none, none, none, none, some (.ref p), some (.ref q), none] ∧ Same H3 H4 ∧ H3 d2 = none ∧ MdAt H4 d2 w (fun m => (rounds h w t 2 g).flatten.idxOf m) (mb (rounds h w t 2 g).flatten) qa2, ?_, ?_⟩
    · obtain ⟨b, a1, a2, a3⟩ := get 2 (by decide)
      exact ⟨_, rfl, pl, _, _, _, rfl, rfl, SqL.of (s3 _ _ hp2), a1, b, h, w, _, rfl, Vr 2, s3 _ _ a3, fun H4 e qa s4 he hM => ⟨e, qa, rfl, s4, he, hM⟩⟩
    rintro σ H4 ⟨d2, qa2, rfl, s4, nd2, M2⟩
    -- what is due
    have mbp : ∀ j, (mb (rounds h w t j g).flatten).Perm (mb g.flatten) := fun j => mb_rounds hV j
    generalize hM : mb (rounds h w t 1 g).flatten = M at M1
    have ndM : M.Nodup := by rw [← hM]; exact (Vr 1).nd
    have M26 : M.length ≤ 26 := by rw [← hM]; exact mb_26 (Vr 1)
    have M2in : ∀ m ∈ M, m ∈ mb (rounds h w t 2 g).flatten := fun m hm => (mbp 2).mem_iff.mpr ((mbp 1).mem_iff.mp (by rw [hM]; exact hm))
    have idx1 : ∀ m ∈ M, (rounds h w t 1 g).flatten[(rounds h w t 1 g).flatten.idxOf m]? = some m := fun m hm => (idx_at (mem_mb.mp (by rw [hM]; exact hm)).1).2
    obtain ⟨f0, TW0, _⟩ := two_of (t := t) hV
    refine ⟨fun σ H5 => ∃ due lc lp zs, σ = [some (.ref r), some (.ref l), some (.str (S t)), some (.ref pl), v4, some (.ref d1), some (.ref d2), none, some (.ref due), none, none, none, none, some (.ref p), some (.ref q), none] ∧ Same H4 H5 ∧ H5 due = some (.lst [.ref lc, .ref lp]) ∧ H5 lc = some (.lst ((cirs h w t g).map strL)) ∧
        zs.map (·.2) = M ∧ ItAt K H5 w (fun m => (rounds h w t 1 g).flatten.idxOf m) (fun m => (rounds h w t 2 g).flatten.idxOf m) zs ∧ H5 lp = some (.lst (zs.map fun z => V.ref z.1)), ?_, ?_⟩
    · obtain ⟨b1, a1, _, a3⟩ := get 1 (by decide)
      obtain ⟨b2, c1, _, c3⟩ := get 2 (by decide)
      have s24 := s3.trans s4
      refine ⟨_, rfl, pl, _, _, _, rfl, rfl, SqL.of (s24 _ _ hp2), a1, _, rfl, pl, _, _, _, rfl, rfl, SqL.of (s24 _ _ hp2), c1, b1, b2, h, w, rounds h w t 1 g, rounds h w t 2 g, f0, rfl, Vr 1, Vr 2, TW0, s24 _ _ a3, s24 _ _ c3, fun H5 lc s5 nlc hlc => ?_⟩
      have M15 := (M1.same s4).same s5
      have M25 := M2.same s5
      have d12 : d2 ≠ d1 := fun z => by
        have := M1.1
        rw [← z, nd2] at this
        cases this
      have ne12 : d2 ≠ d1 := d12
      refine ⟨d1, _, M15.1, True.intro, fun od => ⟨_, rfl, d1, od, rfl, .inl ⟨_, upd_same, fun Dn hDn => lc_it walk_keys (fun i H6 => ∃ zf, Same (upd H5 d1 (.frz od (.dK (mkv M qa1)))) H6 ∧ QrAt H6 Dn (M.take i) zf qa1 qa2)
        ⟨fun _ => 0, same_new hDn, by rw [List.take_zero]; exact upd_same, fun m hm => by simp at hm⟩ (fun i H _ ⟨_, s, _⟩ => s _ _ upd_same) ?_ ?_⟩⟩⟩
      · rintro i x H6 H7 hi ⟨zf, s6, hQ⟩ ⟨rfl, kk, vv, hk, rfl⟩
        unfold mkv at hk
        rw [List.getElem?_map] at hk
        obtain ⟨m, hm, em⟩ := Option.map_eq_some_iff.mp hk
        cases em
        have hmM := List.mem_of_getElem? hm
        refine ⟨rfl, _, rfl, _, rfl, d1, _, rfl, md_get (.inr ⟨od, s6 _ _ upd_same⟩) hmM, _, rfl, _, rfl, d2, _, rfl, md_get (.inl (s6 _ _ (by rw [upd_ne ne12]; exact M25.1))) (M2in m hmM), (by show 2 ≤ sizeLine; decide), fun z hz => ?_⟩
        have s7 := same_new (o := .tup [V.ref (qa1 m), V.ref (qa2 m)]) hz
        have e7 : upd H7 z (.tup [V.ref (qa1 m), V.ref (qa2 m)]) z = some (.tup [V.ref (qa1 m), V.ref (qa2 m)]) := upd_same
        have hQ7 := hQ.same s7
        obtain ⟨zf', z1, z2⟩ := qr_step ndM hm hDn hQ7 (s6.trans s7) e7
        refine ⟨_, hQ7.1, ?_, zf', z1, z2⟩
        rw [List.length_map, List.length_take]
        show _ < 16777216
        omega
      rintro H6 ⟨zf, s6, hQ⟩
      unfold mkv at hQ
      rw [List.length_map, List.take_length] at hQ
      have fz : H6 d1 = some (.frz od (.dK (mkv M qa1))) := s6 _ _ upd_same
      refine ⟨fz, ?_⟩
      have s57 := lock_same M15.1 s6
      have hQ7 : QrAt (upd H6 d1 (.dK (mkv M qa1))) Dn M zf qa1 qa2 := by
        refine ⟨?_, fun m hm => ?_⟩
        · rw [upd_ne (fun z => by have := hQ.1; rw [z, fz] at this; cases this)]
          exact hQ.1
        · rw [upd_ne (fun z => by have := hQ.2 m hm; rw [z, fz] at this; cases this)]
          exact hQ.2 m hm
      generalize upd H6 d1 (.dK (mkv M qa1)) = H7 at s57 hQ7
      have M17 := M15.same s57
      have M27 := M25.same s57
      refine ⟨Dn, M.map (fun m => (zf m, plK w ((rounds h w t 1 g).flatten.idxOf m), qa1 m, V.ref (qa2 m))), rfl, ?_, ?_, ?_, fun dd hdd => ?_⟩
      · rw [List.map_map]
        exact SqL.of hQ7.1
      · intro x hx
        obtain ⟨m, hm, rfl⟩ := List.mem_map.mp hx
        exact ⟨SqT.of (hQ7.2 m hm), M17.2 m hm⟩
      · rw [List.map_map]
        exact keys_nd ndM idx1
      have s8 := same_new (o := .dT ((M.map (fun m => (zf m, plK w ((rounds h w t 1 g).flatten.idxOf m), qa1 m, V.ref (qa2 m)))).map fun t => (t.2.1, t.2.2.2))) hdd
      have e8 : upd H7 dd (.dT ((M.map (fun m => (zf m, plK w ((rounds h w t 1 g).flatten.idxOf m), qa1 m, V.ref (qa2 m)))).map fun t => (t.2.1, t.2.2.2))) dd = some (.dT (M.map fun m => (plK w ((rounds h w t 1 g).flatten.idxOf m), V.ref (qa2 m)))) := by
        rw [upd_same, List.map_map]
        rfl
      generalize upd H7 dd (.dT ((M.map (fun m => (zf m, plK w ((rounds h w t 1 g).flatten.idxOf m), qa1 m, V.ref (qa2 m)))).map fun t => (t.2.1, t.2.2.2))) = H8 at s8 e8
      have M28 := M27.same s8
      refine ⟨.inr (.inr (.inl ⟨rfl, .inr ⟨_, e8⟩⟩)), dd, _, rfl, rfl, e8, fun vv hvv => ?_⟩
      have s9 := same_new (o := DX.itemsO vv dd) hvv
      have e9 : upd H8 vv (DX.itemsO vv dd) vv = some (DX.itemsO vv dd) := upd_same
      generalize upd H8 vv (DX.itemsO vv dd) = H9 at s9 e9
      refine ⟨vv, dd, w, (fun m => (rounds h w t 1 g).flatten.idxOf m), (fun m => (rounds h w t 2 g).flatten.idxOf m), M, qa2, rfl, e9, ⟨s9 _ _ e8, fun m hm => s9 _ _ (M28.2 m (M2in m hm))⟩, by omega, fun H10 lp zs s10 nlp ez it hlp => ?_⟩
      refine ⟨(by show 2 ≤ sizeLine; decide), fun due hdue => ?_⟩
      have s11 := same_new (o := .lst [V.ref lc, V.ref lp]) hdue
      have s511 := (((s57.trans s8).trans s9).trans s10).trans s11
      exact ⟨due, lc, lp, zs, rfl, s5.trans s511, upd_same, s511 _ _ hlc, ez, it_same s11 it, s11 _ _ hlp⟩
    rintro σ H5 ⟨due, lc, lp, zs, rfl, s5, hdue, hlc, ez, it, hlp⟩
    have I5 : R5 K C D T a ns r l p q pl d1 h w g t ls qa1 H5 := by
      have e25 := (s3.trans s4).trans s5
      have e05 := s02.trans e25
      have eH := s0.trans e05
      exact ⟨R0.same eH, T0.ext eH, eH _ _ hl, tr0.same e05, wd0.same e05, e25 _ _ hp2, fun k hk => (hk2 k hk).imp fun b z => ⟨z.1, e25 _ _ z.2⟩, by rw [hM]; exact (M1.same s4).same s5⟩
    clear M1 M2 hp2 hk2 get s5 s4 s3 s02 nd1 nd2
    -- circles and the exchange
    refine ⟨fun σ H6 => σ = [some (.ref r), some (.ref l), some (.str (S t)), some (.ref pl), v4, some (.ref d1), some (.ref d2), none, some (.ref due), none, none, none, none, some (.ref p), some (.ref q), none] ∧ R5 K C D T a ns r l p q pl d1 h w g t ls qa1 H6, ?_, ?_⟩
    · refine ⟨_, rfl, _, rfl, p, q, h, w, g, t, rfl, I5.tr, hV, I5.wd, fun H6 ci s6 nci hci => ?_⟩
      have I6 := I5.same s6
      refine ⟨_, rfl, _, rfl, p, q, h, w, g, t, rfl, I6.tr, hV, I6.wd, fun H7 ex qe s7 nex hEx => ?_⟩
      refine ⟨.inr (.inr (.inl ⟨rfl, .inr ⟨_, hEx.1⟩⟩)), ex, _, rfl, rfl, hEx.1, fun v hv => ?_⟩
      have s8 := same_new (o := DX.itemsO v ex) hv
      have e8 : upd H7 v (DX.itemsO v ex) v = some (DX.itemsO v ex) := upd_same
      generalize upd H7 v (DX.itemsO v ex) = H8 at s8 e8
      have hEx8 := hEx.same s8
      have sr26 : (srt (mb (rounds h w t 1 g).flatten)).length ≤ 26 := by rw [(srt_perm _).length_eq]; exact mb_26 (Vr 1)
      refine ⟨v, ex, w, (fun m => (rounds h w t 1 g).flatten.idxOf m), (fun m => (rounds h w t 2 g).flatten.idxOf m), srt (mb (rounds h w t 1 g).flatten), qe, rfl, e8, hEx8, Nat.le_trans sr26 (by decide), fun H9 l2 zs2 s9 nl2 ez2 it2 hl2 => ?_⟩
      refine ⟨(by show 2 ≤ sizeLine; decide), fun q1 hq1 => ?_⟩
      have s10 := same_new (o := .lst [V.ref ci, V.ref l2]) hq1
      have e10 : upd H9 q1 (.lst [V.ref ci, V.ref l2]) q1 = some (.lst [V.ref ci, V.ref l2]) := upd_same
      generalize upd H9 q1 (.lst [V.ref ci, V.ref l2]) = H10 at s10 e10
      have s510 := (((s6.trans s7).trans s8).trans s9).trans s10
      have hdue10 := s510 _ _ hdue
      have itA := it_same s510 it
      have hlpA := s510 _ _ hlp
      have zl : zs.length = M.length := by rw [← ez, List.length_map]
      have eds : (zs.map fun z => dP w (fun m => (rounds h w t 1 g).flatten.idxOf m) (fun m => (rounds h w t 2 g).flatten.idxOf m) z.2) = M.map (dP w (fun m => (rounds h w t 1 g).flatten.idxOf m) (fun m => (rounds h w t 2 g).flatten.idxOf m)) := by
        rw [← ez, List.map_map]
        rfl
      refine ⟨_, rfl, due, _, _, _, rfl, rfl, SqL.of hdue10, (show atI [V.ref lc, V.ref lp] ((0 : Nat) : Int) = some (V.ref lc) from atI_nat rfl), _, rfl, due, _, _, _, rfl, rfl, SqL.of hdue10, (show atI [V.ref lc, V.ref lp] ((1 : Nat) : Int) = some (V.ref lp) from atI_nat rfl), lp, _, _, rfl, SqL.of hlpA, itA, ?_, ?_, ?_, fun zs3 p3 dp3 np3 => ?_⟩
      · rw [eds]
        exact dP_alike _ _ _ _
      · rw [eds]
        exact dP_sortable _ _ _ _
      · intro d hd
        rw [eds] at hd
        obtain ⟨m, _, rfl⟩ := List.mem_map.mp hd
        show max (max 0 (max 0 0) + 1) (max (max 0 (max 0 0) + 1) 0) + 1 ≤ 50
        decide
      have s11 := same_new (o := .lst zs3) np3
      have e11 : upd H10 p3 (.lst zs3) p3 = some (.lst zs3) := upd_same
      rw [sort_snd (by rw [List.length_map, List.length_map]), eds] at dp3
      generalize upd H10 p3 (.lst zs3) = H11 at s11 e11
      refine ⟨(by show 2 ≤ sizeLine; decide), fun q2 hq2 => ?_⟩
      have s12 := same_new (o := .lst [V.ref lc, V.ref p3]) hq2
      have e12 : upd H11 q2 (.lst [V.ref lc, V.ref p3]) q2 = some (.lst [V.ref lc, V.ref p3]) := upd_same
      generalize upd H11 q2 (.lst [V.ref lc, V.ref p3]) = H12 at s12 e12
      have s1012 := s11.trans s12
      have s512 := s510.trans s1012
      refine ⟨_, _, rfl, .seq (by show 2 ≤ 1000; decide) (.lst (SqL.of (s1012 _ _ e10))) (.lst (SqL.of e12)) rfl (fun i x y hx hy => ?_), fun H13 s13 => ⟨true, rfl, iteF ⟨rfl, (I5.same s512).same s13⟩⟩⟩
      match i with
      | 0 =>
        cases hx
        cases hy
        exact alk_strs (cs := cirs h w t g) (n := 2) (Nat.le_trans (cirs_few hV) (by decide)) (SqL.of ((((((s7.trans s8).trans s9).trans s10).trans s1012)) _ _ hci)) (SqL.of (s512 _ _ hlc))
      | 1 =>
        cases hx
        cases hy
        have e2 : (zs2.map fun z => dP w (fun m => (rounds h w t 1 g).flatten.idxOf m) (fun m => (rounds h w t 2 g).flatten.idxOf m) z.2) = (zs2.map (·.2)).map (dP w (fun m => (rounds h w t 1 g).flatten.idxOf m) (fun m => (rounds h w t 2 g).flatten.idxOf m)) := by
          rw [List.map_map]
          rfl
        have srtd := sort_same (((srt_perm (mb (rounds h w t 1 g).flatten)).map (dP w (fun m => (rounds h w t 1 g).flatten.idxOf m) (fun m => (rounds h w t 2 g).flatten.idxOf m)))) (q4_dP _ _ _ _)
        have it3 := it_same (s10.trans s1012) it2
        unfold ItAt at it3
        rw [e2] at it3
        refine alk_pairs (n := 0) ?_ (SqL.of ((s10.trans s1012) _ _ hl2)) (SqL.of (s12 _ _ e11)) it3 ?_
        · have h1 := congrArg List.length ez2
          rw [List.length_map, List.length_mergeSort, List.length_map] at h1
          rw [List.length_map]
          omega
        · rw [← e2, ez2, srtd, hM]
          exact dpAll_same s1012 _ _ dp3
      | i + 2 => simp at hx
    rintro σ H6 ⟨rfl, I6⟩
    clear I5 it hlp hlc hdue ez H5
    have rn : ∀ {H : Hp}, R5 K C D T a ns r l p q pl d1 h w g t ls qa1 H → ∀ k : Nat, k < 15 → ∃ b, atI (ls.map V.ref) (k : Int) = some (V.ref b) ∧ ls[k]? = some b ∧ H b = some (.lst (rowV (rounds h w t k g))) := fun I k hk => by
      obtain ⟨b, h1, h2⟩ := I.pk k hk
      exact ⟨b, atI_nat (by rw [List.getElem?_map, h1]; rfl), h1, h2⟩
    have hk18 : ∀ {k : Nat}, k < 15 → k ≤ 10 ^ 18 := fun hk => Nat.le_trans (Nat.le_of_lt hk) (by decide)
    have hmg : ∀ {m : Nat}, m ∈ mb (rounds h w t 1 g).flatten → m ∈ mb g.flatten := fun hm => (mbp 1).mem_iff.mp hm
    have hkeys : ∀ (n : Nat) (x : V), x ∈ cutV ((mkv (mb (rounds h w t 1 g).flatten) qa1).map fun kv => L2.kV kv.1) none (some (n : Int)) → ∃ m ∈ mb (rounds h w t 1 g).flatten, x = sg m := fun n x hx => by
      rw [cutV_tk] at hx
      obtain ⟨kv, hkv, rfl⟩ := List.mem_map.mp (List.mem_of_mem_take hx)
      obtain ⟨m, hm, rfl⟩ := List.mem_map.mp hkv
      exact ⟨m, hm, rfl⟩
    -- four numbers of rounds
    refine ⟨fun σ H7 => ∃ v4 v7 v9, σ = st5 r l pl d1 d2 due p q t v4 v7 v9 none none none none ∧ R5 K C D T a ns r l p q pl d1 h w g t ls qa1 H7, ?_, ?_⟩
    · refine ⟨4, rfl, by decide, by decide, for_range (lo := 0) (n := 4) (fun i σ H7 => ∃ v4 v7 v9, σ = st5 r l pl d1 d2 due p q t v4 v7 v9 none none none none ∧ R5 K C D T a ns r l p q pl d1 h w g t ls qa1 H7) ⟨_, _, _, rfl, I6⟩ ?_ fun σ H7 h7 => h7⟩
      rintro i σ H7 hi ⟨v4, v7, v9, rfl, I7⟩
      refine ⟨fun σ H8 => ∃ k : Nat, k < 15 ∧ σ = st5 r l pl d1 d2 due p q t (some (.int (0 + (i : Int)))) v7 (some (.int (k : Nat))) none none none none ∧ R5 K C D T a ns r l p q pl d1 h w g t ls qa1 H8, ?_, ?_⟩
      · exact ⟨_, rfl, r, 15, rfl, I7.rw, by decide, by decide, fun H8 k hk R8 b8 => ⟨k, by omega, rfl, I7.but l15 b8 R8⟩⟩
      rintro σ H8 ⟨k, hk, rfl, I8⟩
      refine ⟨fun σ H9 => σ = st5 r l pl d1 d2 due p q t (some (.int (0 + (i : Int)))) v7 (some (.int (k : Nat))) none none none none ∧ R5 K C D T a ns r l p q pl d1 h w g t ls qa1 H9, ?_, ?_⟩
      · refine ⟨_, rfl, _, rfl, _, rfl, p, q, h, w, k, g, t, rfl, I8.tr, hV, I8.wd, hk18 hk, fun H9 r2 s9 tr9 => ?_⟩
        obtain ⟨dx, ax, e1, e2⟩ := tr9
        have I9 := I8.same s9
        obtain ⟨b, a1, a2, a3⟩ := rn I9 k hk
        refine ⟨r2, dx, _, rfl, e1, r2, dx, _, _, rfl, e1, rfl, _, rfl, _, rfl, pl, _, _, _, rfl, rfl, SqL.of I9.pl, a1, b, _, rfl, .inl ⟨SqL.of a3, fun x hx => ?_⟩⟩
        have s10 := same_new (o := .tup (rowV (rounds h w t k g))) hx
        refine ⟨_, _, .tup (s10.tup e2) (row_all _), .tup (SqT.of upd_same) (row_all _), row_shaped (Vr k), row_shaped (Vr k), _, rfl, ?_⟩
        rw [row_same (Vr k)]
        exact iteF ⟨rfl, I9.same s10⟩
      rintro σ H9 ⟨rfl, I9⟩
      refine ⟨_, rfl, d1, _, rfl, .inl I9.m1.1, fun p1 hp1 => ⟨_, rfl, p1, _, rfl, SqL.of upd_same, fun p2 hp2 => ?_⟩⟩
      have s1 := same_new (o := .lst ((mkv (mb (rounds h w t 1 g).flatten) qa1).map fun kv => L2.kV kv.1)) hp1
      have s2 := same_new (o := .lst (cutV ((mkv (mb (rounds h w t 1 g).flatten) qa1).map fun kv => L2.kV kv.1) none (some 3))) hp2
      refine ⟨p2, rfl, ⟨_, SqL.of upd_same⟩, for_list (K := K) (a := p2) (xs := cutV ((mkv (mb (rounds h w t 1 g).flatten) qa1).map fun kv => L2.kV kv.1) none (some 3)) (fun n σ H10 => ∃ v7, σ = st5 r l pl d1 d2 due p q t (some (.int (0 + (i : Int)))) v7 (some (.int (k : Nat))) none none none none ∧ R5 K C D T a ns r l p q pl d1 h w g t ls qa1 H10 ∧ H10 p2 = some (.lst (cutV ((mkv (mb (rounds h w t 1 g).flatten) qa1).map fun kv => L2.kV kv.1) none (some 3))))
        ⟨_, rfl, (I9.same s1).same s2, upd_same⟩ (fun _ _ _ _ ⟨_, _, _, h3⟩ => SqL.of h3) ?_ fun σ H10 ⟨v7, e, I, _⟩ => ⟨_, _, _, e, I⟩⟩
      rintro n x σ H10 hx ⟨v7', rfl, I10, X0⟩
      obtain ⟨m, hm, rfl⟩ := hkeys 3 x (List.mem_of_getElem? hx)
      have hmk : m ∈ mb (rounds h w t k g).flatten := (mbp k).mem_iff.mpr (hmg hm)
      refine ⟨_, rfl, _, rfl, _, rfl, _, rfl, p, q, m, h, w, k, g, t, rfl, I10.tr, hV, I10.wd, hmg hm, hk18 hk, fun H11 r2 s11 nr2 pl2 => ?_⟩
      have I11 := I10.same s11
      obtain ⟨b, a1, a2, a3⟩ := rn I11 k hk
      refine ⟨_, rfl, _, rfl, pl, _, _, _, rfl, rfl, SqL.of I11.pl, a1, b, h, w, _, rfl, Vr k, a3, fun H12 e qe s12 ne hM12 => ?_⟩
      refine ⟨_, rfl, e, _, rfl, md_get (.inl hM12.1) hmk, plD w ((rounds h w t k g).flatten.idxOf m), plD w ((rounds h w t k g).flatten.idxOf m), .tup (SqT.of (s12 _ _ pl2)) (.cons (.int _) (.cons (.int _) .nil)), .tup (SqT.of (hM12.2 m hmk)) (.cons (.int _) (.cons (.int _) .nil)), rfl, rfl, _, rfl, ?_⟩
      rw [show PyData.eqv (plD w ((rounds h w t k g).flatten.idxOf m)) (plD w ((rounds h w t k g).flatten.idxOf m)) = true from SeqAt.eqv_refl _ rfl]
      exact iteF ⟨_, rfl, I11.same s12, s12 _ _ (s11 _ _ X0)⟩
    rintro σ H7 ⟨v4', v7, v9, rfl, I7⟩
    clear I6 H6
    -- rounds that come again
    refine ⟨fun σ H8 => ∃ A, σ = st5 r l pl d1 d2 due p q t v4' v7 v9 (some (.ref A)) none none none ∧ R5 K C D T a ns r l p q pl d1 h w g t ls qa1 H8 ∧ H8 A = some (.lst (agV (agn h w t g 13))), ?_, ?_⟩
    · refine ⟨2, 15, rfl, by decide, fun A hA => lc_range (lo := 2) (n := 13) (fun j H8 => Same H7 H8 ∧ H8 A = some (.lst (agV (agn h w t g j)))) ⟨same_new hA, upd_same⟩ ?_ ?_⟩
      · rintro j H8 hj ⟨sm, hA8⟩
        have I8 := I7.same sm
        obtain ⟨b, a1, a2, a3⟩ := rn I8 (j + 2) (by omega)
        obtain ⟨c, c1, c2, c3⟩ := rn I8 1 (by decide)
        have ej : (2 : Int) + (j : Int) = ((j + 2 : Nat) : Int) := by omega
        rw [ej]
        refine ⟨rfl, _, rfl, _, rfl, pl, _, _, _, rfl, rfl, SqL.of I8.pl, a1, _, rfl, pl, _, _, _, rfl, rfl, SqL.of I8.pl, c1, .list (rowD _), .list (rowD _), .lst (SqL.of a3) (row_all _), .lst (SqL.of c3) (row_all _), rows_shaped (Vr _), rows_shaped (Vr _), _, rfl, ?_⟩
        rw [eqvL, agn_snoc]
        by_cases z : rounds h w t (j + 2) g = rounds h w t 1 g
        · rw [decide_eq_true z, if_pos z]
          refine iteT ⟨_, rfl, _, hA8, ?_, same_put sm hA, ?_⟩
          · have := agn_le h w t g j
            rw [agV_len]
            show _ < 16777216
            omega
          · rw [upd_same, agV_snoc]
        · rw [decide_eq_false z, if_neg z, List.append_nil]
          exact iteF ⟨sm, hA8⟩
      · rintro H8 ⟨sm, hA8⟩
        exact ⟨A, rfl, I7.same sm, hA8⟩
    rintro σ H8 ⟨A_, rfl, I8, hA8⟩
    clear I7 H7
    -- back after
    refine ⟨fun σ H9 => σ = st5 r l pl d1 d2 due p q t v4' v7 v9 (some (.ref A_)) (some (.int ((backN (cirs h w t g) : Nat) : Int))) none none ∧ R5 K C D T a ns r l p q pl d1 h w g t ls qa1 H9 ∧ H9 A_ = some (.lst (agV (agn h w t g 13))), ?_, ?_⟩
    · exact ⟨_, rfl, _, rfl, p, q, h, w, g, t, rfl, I8.tr, hV, I8.wd, fun H9 s9 => ⟨rfl, I8.same s9, s9 _ _ hA8⟩⟩
    rintro σ H9 ⟨rfl, I9, hA9⟩
    clear I8 hA8 H8
    have b1 := (backN_ok (t := t) hV).1
    refine ⟨fun σ H10 => σ = st5 r l pl d1 d2 due p q t v4' v7 v9 (some (.ref A_)) (some (.int ((backN (cirs h w t g) : Nat) : Int))) none none ∧ R5 K C D T a ns r l p q pl d1 h w g t ls qa1 H10, ?_, ?_⟩
    · refine ⟨_, rfl, (by show 0 ≤ sizeLine; decide), fun z hz => ?_⟩
      have s1 := same_new (o := .lst []) hz
      refine ⟨_, _, .lst (SqL.of (s1 _ _ hA9)) (ag_dp _), .lst (SqL.of upd_same) .nil, ag_shaped _, rfl, _, rfl, ?_⟩
      cases ea : agn h w t g 13 with
      | nil =>
        rw [ea] at hA9
        have h14 := agn_none hV ea
        refine iteF (iteF ⟨_, rfl, (by show 0 ≤ sizeLine; decide), fun z2 hz2 => ?_⟩)
        have s2 := same_new (o := .lst []) hz2
        refine ⟨_, _, .lst (SqL.of (s2 _ _ (s1 _ _ hA9))) (ag_dp _), .lst (SqL.of upd_same) .nil, ag_shaped _, rfl, _, rfl, ?_⟩
        refine iteT ⟨_, rfl, _, _, rfl, rfl, _, rfl, ?_⟩
        rw [decide_eq_false (p := ((backN (cirs h w t g) : Nat) : Int) < 14) (by omega)]
        exact iteF ⟨rfl, (I9.same s1).same s2⟩
      | cons x rest =>
        rw [ea] at hA9
        have hx := agn_head hV ea
        have ne : PyData.eqv (.list (agD (x :: rest))) (.list []) = false := by simp [agD, PyData.eqv, PyData.eqvAll]
        rw [ne]
        refine iteT ⟨_, rfl, _, rfl, A_, _, _, _, rfl, rfl, SqL.of (s1 _ _ hA9), (show atI (agV (x :: rest)) ((0 : Nat) : Int) = some (V.int ((x + 2 : Nat) : Int)) from atI_nat rfl), _, _, rfl, rfl, rfl, _, rfl, ?_⟩
        rw [show (!decide (V.int ((backN (cirs h w t g) : Nat) : Int) = V.int (((x + 2 : Nat) : Int) - 1))) = false by rw [← hx]; simp; omega]
        refine iteF ⟨_, rfl, (by show 0 ≤ sizeLine; decide), fun z2 hz2 => ?_⟩
        have s2 := same_new (o := .lst []) hz2
        refine ⟨_, _, .lst (SqL.of (s2 _ _ (s1 _ _ hA9))) (ag_dp _), .lst (SqL.of upd_same) .nil, ag_shaped _, rfl, _, rfl, ?_⟩
        rw [ne]
        exact iteF (iteF ⟨rfl, (I9.same s1).same s2⟩)
    rintro σ H10 ⟨rfl, I10⟩
    clear I9 hA9 H9
    -- back where they were
    refine ⟨fun σ H11 => σ = st5 r l pl d1 d2 due p q t v4' v7 v9 (some (.ref A_)) (some (.int ((backN (cirs h w t g) : Nat) : Int))) none none ∧ R5 K C D T a ns r l p q pl d1 h w g t ls qa1 H11, ?_, ?_⟩
    · refine ⟨_, rfl, _, _, rfl, rfl, _, rfl, ?_⟩
      by_cases hB : backN (cirs h w t g) ≤ 13
      · rw [decide_eq_true (p := ((backN (cirs h w t g) : Nat) : Int) ≤ 13) (by omega)]
        refine iteT ⟨_, rfl, _, rfl, p, q, h, w, g, t, rfl, I10.tr, hV, I10.wd, fun H11 s11 => ?_⟩
        have I11 := I10.same s11
        refine ⟨_, rfl, _, rfl, _, rfl, _, rfl, _, _, rfl, rfl, _, rfl, pl, _, rfl, SqL.of I11.pl, fun x hx => ?_⟩
        have s12 := same_new (o := .lst (cutV (ls.map V.ref) (some 1) (some (((backN (cirs h w t g) : Nat) : Int) + 1)))) hx
        have I12 := I11.same s12
        refine ⟨.list (rowD g), ((List.range (backN (cirs h w t g))).map fun j => rounds h w t (j + 1) g).map fun g => PyData.list (rowD g), .lst (SqL.of I12.ll) (row_all g), .lst (SqL.of upd_same) (dpAll_of ?_ fun i y d hy hd => ?_), rows_shaped hV, grids_shaped (n := h) (m := w) fun g hg => ?_, rfl, _, rfl, ?_⟩
        · rw [cut_1 (by rw [List.length_map, l15]; omega), List.length_take, List.length_drop, List.length_map, List.length_map, List.length_map, List.length_range, l15]
          omega
        · rw [cut_1 (by rw [List.length_map, l15]; omega)] at hy
          rw [List.getElem?_map, List.getElem?_map] at hd
          obtain ⟨g', hg', rfl⟩ := Option.map_eq_some_iff.mp hd
          obtain ⟨j, hj, rfl⟩ := Option.map_eq_some_iff.mp hg'
          obtain ⟨jl, je⟩ := List.getElem?_eq_some_iff.mp hj
          rw [List.getElem_range] at je
          subst je
          rw [List.length_range] at jl
          rw [List.getElem?_take, if_pos jl, List.getElem?_drop] at hy
          obtain ⟨b, b1, b2, b3⟩ := rn I12 (i + 1) (by omega)
          rw [List.getElem?_map, Nat.add_comm, b2] at hy
          cases hy
          exact .lst (SqL.of b3) (row_all _)
        · obtain ⟨j, _, rfl⟩ := List.mem_map.mp hg
          exact Vr _
        have e : ((((List.range (backN (cirs h w t g))).map fun j => rounds h w t (j + 1) g).map fun g => PyData.list (rowD g)).any fun z => PyData.eqv z (.list (rowD g))) = decide (rounds h w t (backN (cirs h w t g)) g = g) := by
          rw [again_any hV, List.any_map, List.any_map]
          congr 1
          funext j
          exact eqvL _ _
        rw [e, show (!decide (V.bl (decide (rounds h w t (backN (cirs h w t g)) g = g)) = V.bl (decide (rounds h w t (backN (cirs h w t g)) g = g)))) = false by simp]
        exact iteF ⟨rfl, I12⟩
      · rw [decide_eq_false (p := ((backN (cirs h w t g) : Nat) : Int) ≤ 13) (by omega)]
        exact iteF (iteF ⟨rfl, I10⟩)
    rintro σ H11 ⟨rfl, I11⟩
    clear I10 H10
    -- no numbers
    have nmE : ∀ {H : Hp} {a b : Addr}, H a = some (.tup [V.str "number"]) → H b = some (.tup [V.str "number"]) → ∀ {Q : VK}, Q (.bl false) H → rNeD K (.ref a) (.ref b) H Q := fun {H a b} ha hb {Q} q => by
      refine ⟨.tuple [.str "number"], .tuple [.str "number"], .tup (SqT.of ha) (.cons (.str _) .nil), .tup (SqT.of hb) (.cons (.str _) .nil), by decide +kernel, by decide +kernel, ?_⟩
      rw [show PyData.eqv (.tuple [.str "number"]) (.tuple [.str "number"]) = true from SeqAt.eqv_refl _ (by decide +kernel)]
      exact q
    refine ⟨fun σ H12 => ∃ v7 v12, σ = st5 r l pl d1 d2 due p q t v4' v7 v9 (some (.ref A_)) (some (.int ((backN (cirs h w t g) : Nat) : Int))) v12 none ∧ R5 K C D T a ns r l p q pl d1 h w g t ls qa1 H12, ?_, ?_⟩
    · refine ⟨_, _, rfl, rfl, _, _, rfl, rfl, ⟨by decide, by decide, by decide⟩, _, _, rfl, rfl, by show 4 ≤ sizeLine; decide, fun q0 hq0 => ?_⟩
      have s0 := same_new (o := .tup [V.int (0 - 1), V.int ((10 : Int) ^ (18 : Int).toNat + 1), .non, .bl true]) hq0
      refine ⟨q0, rfl, ⟨_, SqT.of upd_same⟩, for_tup (K := K) (a := q0) (xs := [V.int (0 - 1), V.int ((10 : Int) ^ (18 : Int).toNat + 1), .non, .bl true]) (fun n σ H12 => ∃ v7 v12, σ = st5 r l pl d1 d2 due p q t v4' v7 v9 (some (.ref A_)) (some (.int ((backN (cirs h w t g) : Nat) : Int))) v12 none ∧ R5 K C D T a ns r l p q pl d1 h w g t ls qa1 H12 ∧ H12 q0 = some (.tup [V.int (0 - 1), V.int ((10 : Int) ^ (18 : Int).toNat + 1), .non, .bl true]))
        ⟨_, _, rfl, I11.same s0, upd_same⟩ (fun _ _ _ _ ⟨_, _, _, _, h6⟩ => SqT.of h6) ?_ fun σ H8 ⟨v7, v12, e, h8, _⟩ => ⟨v7, v12, e, h8⟩⟩
      rintro n x σ H12 hx ⟨v7', v12, rfl, I12, X0⟩
      have hB : ∃ ty bb bi, (∀ H', TA.Kn K H' x ty bb bi) ∧ TA.isN x ((10 ^ 18 : Nat) : Int) = false := by
        match n with
        | 0 => cases hx; exact ⟨_, _, _, fun _ => TA.kn_int _, by decide +kernel⟩
        | 1 => cases hx; exact ⟨_, _, _, fun _ => TA.kn_int _, by decide +kernel⟩
        | 2 => cases hx; exact ⟨_, _, _, fun _ => TA.kn_non, by decide +kernel⟩
        | 3 => cases hx; exact ⟨_, _, _, fun _ => TA.kn_bl _, by decide +kernel⟩
        | n + 4 => simp at hx
      obtain ⟨ty, bb, bi, kn, hno⟩ := hB
      refine ⟨fun σ H13 => σ = st5 r l pl d1 d2 due p q t v4' v7' v9 (some (.ref A_)) (some (.int ((backN (cirs h w t g) : Nat) : Int))) (some x) none ∧ R5 K C D T a ns r l p q pl d1 h w g t ls qa1 H13 ∧ H13 q0 = some (.tup [V.int (0 - 1), V.int ((10 : Int) ^ (18 : Int).toNat + 1), .non, .bl true]), ?_, ?_⟩
      · refine ⟨I12.tb, fun Ha ea Ta => ?_⟩
        have Ia := I12.ext ea Ta
        have Xa := ea _ _ X0 (fun ps z => by cases z)
        refine ⟨_, rfl, _, rfl, _, rfl, V.ref p, V.ref q, x, ty, bb, bi, rfl, kn Ha, hno, 4, [], [.str "number"], by decide, congrArg Value.ref L.cn.symm, (fun _ z => nomatch z), (fun z => absurd z (by decide)), rfl, fun H13 q1 s13 hq1 => ?_⟩
        refine ⟨by show 1 ≤ sizeLine; decide, fun q2 hq2 => ?_⟩
        have s14 := same_new (o := .tup [V.str "number"]) hq2
        have s1314 := (show Same Ha H13 from s13).trans s14
        exact nmE (s14 _ _ hq1) upd_same ⟨_, rfl, iteF ⟨rfl, Ia.same s1314, s1314 _ _ Xa⟩⟩
      rintro σ H13 ⟨rfl, I13, X13⟩
      refine ⟨_, rfl, d1, _, rfl, .inl I13.m1.1, fun p1 hp1 => ⟨_, rfl, p1, _, rfl, SqL.of upd_same, fun p2 hp2 => ?_⟩⟩
      have s1 := same_new (o := .lst ((mkv (mb (rounds h w t 1 g).flatten) qa1).map fun kv => L2.kV kv.1)) hp1
      have s2 := same_new (o := .lst (cutV ((mkv (mb (rounds h w t 1 g).flatten) qa1).map fun kv => L2.kV kv.1) none (some 1))) hp2
      refine ⟨p2, rfl, ⟨_, SqL.of upd_same⟩, for_list (K := K) (a := p2) (xs := cutV ((mkv (mb (rounds h w t 1 g).flatten) qa1).map fun kv => L2.kV kv.1) none (some 1)) (fun n σ H14 => ∃ v7, σ = st5 r l pl d1 d2 due p q t v4' v7 v9 (some (.ref A_)) (some (.int ((backN (cirs h w t g) : Nat) : Int))) (some x) none ∧ R5 K C D T a ns r l p q pl d1 h w g t ls qa1 H14 ∧ H14 q0 = some (.tup [V.int (0 - 1), V.int ((10 : Int) ^ (18 : Int).toNat + 1), .non, .bl true]) ∧ H14 p2 = some (.lst (cutV ((mkv (mb (rounds h w t 1 g).flatten) qa1).map fun kv => L2.kV kv.1) none (some 1))))
        ⟨_, rfl, (I13.same s1).same s2, s2 _ _ (s1 _ _ X13), upd_same⟩ (fun _ _ _ _ ⟨_, _, _, _, h3⟩ => SqL.of h3) ?_ fun σ H10 ⟨v7, e, I, x0, _⟩ => ⟨_, _, e, I, x0⟩⟩
      rintro n y σ H14 hy ⟨v7'', rfl, I14, X14, Y14⟩
      obtain ⟨m, hm, rfl⟩ := hkeys 1 y (List.mem_of_getElem? hy)
      refine ⟨I14.tb, fun Ha ea Ta => ?_⟩
      have Ia := I14.ext ea Ta
      have Xa := ea _ _ X14 (fun ps z => by cases z)
      have Ya := ea _ _ Y14 (fun ps z => by cases z)
      refine ⟨_, rfl, _, rfl, _, rfl, _, rfl, p, sg m, V.ref q, x, h, w, g, rfl, Ia.tr, hV, .inl ⟨m, rfl, hmg hm, ty, bb, bi, fun H' _ => kn H', hno, fun H15 s15 => ⟨4, [], [.str "number"], by decide, congrArg Value.ref L.cn.symm, (fun _ z => nomatch z), (fun z => absurd z (by decide)), rfl, fun H16 q1 s16 hq1 => ?_⟩⟩⟩
      refine ⟨by show 1 ≤ sizeLine; decide, fun q2 hq2 => ?_⟩
      have s17 := same_new (o := .tup [V.str "number"]) hq2
      have sA := (s15.trans (show Same H15 H16 from s16)).trans s17
      exact nmE (s17 _ _ hq1) upd_same ⟨_, rfl, iteF ⟨_, rfl, Ia.same sA, sA _ _ Xa, sA _ _ Ya⟩⟩
    rintro σ H12 ⟨v7', v12, rfl, I12⟩
    clear I11 H11
    -- no marbles
    have hB : ∀ x ∈ ([V.str "z", .str ".", .non] : List V), ∃ d : PyData, (∀ H, Dp K H x d) ∧ PyData.canLay0 (.tuple [.str "nomarble", d]) = true ∧ SeqAt.shaped (.tuple [.str "nomarble", d]) = true ∧ ((∃ u : List Nat, x = .str (S u) ∧ u.length ≤ 1000 ∧ has g u = false) ∨ ∀ H, NoText K H x) := by
      intro x hx
      simp only [List.mem_cons, List.not_mem_nil, or_false] at hx
      rcases hx with rfl | rfl | rfl
      · refine ⟨.str "z", fun H => .str _, by decide +kernel, by decide +kernel, .inl ⟨[122], rfl, by decide, ?_⟩⟩
        show (decide (1 = 1) && decide (122 ∈ mb g.flatten)) = false
        rw [decide_eq_false (p := 122 ∈ mb g.flatten) (fun z => absurd (h122 _ z) (by decide)), Bool.and_false]
      · refine ⟨.str ".", fun H => .str _, by decide +kernel, by decide +kernel, .inl ⟨[46], rfl, by decide, ?_⟩⟩
        show (decide (1 = 1) && decide (46 ∈ mb g.flatten)) = false
        rw [decide_eq_false (p := 46 ∈ mb g.flatten) (fun z => by have := (List.mem_filter.mp z).2; simp at this), Bool.and_false]
      · exact ⟨.none, fun H => .non, by decide +kernel, by decide +kernel, .inr fun H => ⟨"NoneType", .base .non, by decide +kernel⟩⟩
    refine ⟨fun σ H13 => R5 K C D T a ns r l p q pl d1 h w g t ls qa1 H13, ?_, fun σ H13 I13 => k _ I13.rw I13.tb⟩
    refine ⟨by show 3 ≤ sizeLine; decide, fun q0 hq0 => ?_⟩
    generalize hbs : ([V.str "z", .str ".", .non] : List V) = bs at hB hq0
    have s0 := same_new (o := .tup bs) hq0
    refine ⟨q0, rfl, ⟨_, SqT.of upd_same⟩, for_tup (K := K) (a := q0) (xs := bs) (fun n σ H13 => ∃ v12, σ = st5 r l pl d1 d2 due p q t v4' v7' v9 (some (.ref A_)) (some (.int ((backN (cirs h w t g) : Nat) : Int))) v12 none ∧ R5 K C D T a ns r l p q pl d1 h w g t ls qa1 H13 ∧ H13 q0 = some (.tup bs))
      ⟨_, rfl, I12.same s0, upd_same⟩ (fun _ _ _ _ ⟨_, _, _, h6⟩ => SqT.of h6) ?_ fun σ H8 ⟨v12, e, h8, _⟩ => h8⟩
    rintro n x σ H13 hx ⟨v12', rfl, I13, X0⟩
    obtain ⟨d, hd, hlay, hsh, hno⟩ := hB x (List.mem_of_getElem? hx)
    refine ⟨I13.tb, fun Ha ea Ta => ?_⟩
    have Ia := I13.ext ea Ta
    have Xa := ea _ _ X0 (fun ps z => by cases z)
    have hno2 : ((∃ u : List Nat, x = .str (S u) ∧ u.length ≤ 1000 ∧ has g u = false) ∨ NoText K Ha x) := hno.imp id fun z => z Ha
    refine ⟨_, rfl, _, rfl, _, rfl, p, x, V.ref q, V.non, h, w, g, rfl, Ia.tr, hV, .inr ⟨hno2, fun H14 d2 s14 nd2 hd2 => ⟨2, _, [.str "nomarble", x], by decide, congrArg Value.ref L.cu.symm, (fun d3 z => by cases z; exact hd2), (fun _ z => nomatch z), rfl, fun H15 q1 s15 hq1 => ?_⟩⟩⟩
    refine ⟨_, rfl, by show 2 ≤ sizeLine; decide, fun q2 hq2 => ?_⟩
    have s16 := same_new (o := .tup [V.str "nomarble", x]) hq2
    have sA := (s14.trans (show Same H14 H15 from s15)).trans s16
    refine ⟨.tuple [.str "nomarble", d], .tuple [.str "nomarble", d], .tup (SqT.of (s16 _ _ hq1)) (.cons (.str _) (.cons (hd _) .nil)), .tup (SqT.of upd_same) (.cons (.str _) (.cons (hd _) .nil)), hsh, hsh, _, rfl, ?_⟩
    rw [show PyData.eqv (.tuple [.str "nomarble", d]) (.tuple [.str "nomarble", d]) = true from SeqAt.eqv_refl _ hlay]
    exact iteF ⟨_, rfl, Ia.same sA, sA _ _ Xa⟩
end
end TR
end
section
set_option Elab.async false
set_option maxRecDepth 100000
set_option linter.all false
namespace TR
open PySem PySem.Spec PyProof.Rows L2 LamX TM TX TK TB TP TH TU TW TQ
section
variable {P : Program} {w : World} {K : PySem.W.Frag} {mg : Str → Option Value} {base : Heap} {n : Nat} {T : List (Addr × Str)} {fTx fRw fBy fLr : Addr} {fdTx fdRw fdBy : FuncData}
abbrev NLw5 : List Str := ["_law_script", "_law_row", "_law_turn", "_law_rows_here", "_law_text_here"]
theorem scLw5 : FnScope NLw5 ["_law_script"] (defScope sLaw) := ⟨rfl, rfl, rfl, by decide +kernel, rfl, by decide +kernel, by decide +kernel⟩
def spLaw5 (K : PySem.W.Frag) (T : List (Addr × Str)) : Sp := fun vs H Q _ => ∃ (a : Addr) (ns : List Int), vs = [.ref a] ∧ SqL K H a (ns.map V.int) ∧ Tabs T H ∧ ∀ H', Q (.bl true) H'
theorem ok_law5 {f : Addr} {fd : FuncData} (F : Fun K "law" "law" sLaw f fd) (b : Binds K fd ["_law_script"] []) (hrange : mg "range" = none)
    (GTx : ∀ a ns, FnOk P w K mg base CX0 2 fTx fdTx ["_law_row", "_law_most"] (spTx K a ns)) (kTx : PySem.W.keepIn K (.ref fTx) = true) (bTx : Binds K fdTx ["_law_row", "_law_most"] []) (mTx : mg "_law_text" = some (.ref fTx))
    (GRw : ∀ a ns, FnOk P w K mg base CX0 2 fRw fdRw ["_law_row", "_law_most"] (spRwN K a ns)) (kRw : PySem.W.keepIn K (.ref fRw) = true) (bRw : Binds K fdRw ["_law_row", "_law_most"] []) (mRw : mg "_law_rows" = some (.ref fRw))
    (GBy : ∀ a ns, FnOk P w K mg base CX0 3 fBy fdBy ["_law_row"] (spBy K a ns)) (kBy : PySem.W.keepIn K (.ref fBy) = true) (bBy : Binds K fdBy ["_law_row"] []) (mBy : mg "_law_busy" = some (.ref fBy))
    (GLr : ∀ a ns, FnRn n P w K mg base CX0 9 fLr (spLr K T a ns)) (kLr : PySem.W.keepIn K (.ref fLr) = true) (mLr : mg "_law_are_rounds" = some (.ref fLr)) :
    FnRn n P w K mg base CX0 10 f (spLaw5 K T) := by
  refine fn_n F b scLw5 (fun vs H Q E h => ?_) fun cdv A outer s H vs Q E hr h => ?_
  · obtain ⟨a, ns, rfl, _⟩ := h
    rfl
  · obtain ⟨a, ns, rfl, hS, hT, k⟩ := h
    have nd := scLw5.nd
    have r2 : Room 2 _ := hr.mono (by decide)
    have r3 : Room 3 _ := hr.mono (by decide)
    refine ⟨_, pssn_cut (PS.up (ps_set (i := 1) nd rfl (.inl rfl) (pe_lst (pa_cons (pv 0) (pa_cons pe_int (pa_cons pe_int (pa_cons pe_int pa_nil)))))))
      (pssn_cut (psn_if (ptn_not (ptn_val (pen_call (GLr a ns) hr rfl mLr kLr pass0 (pan_cons (PE.up (pv 1)) (pan_cons (PE.up (pe_call (GRw a ns) r2 rfl mRw kRw bRw .nil pass0 (pa_cons (pv 1) (pa_cons pe_int pa_nil)))) (pan_cons (PE.up (pe_call (GTx a ns) r2 rfl mTx kTx bTx .nil pass0 (pa_cons (pv 1) (pa_cons pe_int pa_nil)))) pan_nil)))))) (PSs.up pss_never) (PSs.up pss_nil))
      (pssn_cons (psn_for PassesOwn.never rfl (pi_range1 (by rfl) hrange (pa_cons pe_int pa_nil)) (pg_name (i := 2) nd rfl (.inl rfl))
        (pssn_cut (PS.up (ps_asg (pe_call (GBy a ns) r3 rfl mBy kBy bBy .nil pass0 (pa_cons (pv 1) pa_nil)) (pg_tup (by rfl) (pgs_cons (pg_name (i := 3) nd rfl (.inl rfl)) (pgs_cons (pg_name (i := 4) nd rfl (.inl rfl)) pgs_nil)))))
        (pssn_one (psn_if (ptn_not (ptn_val (pen_call (GLr a ns) hr rfl mLr kLr pass0 (pan_cons (PE.up (pv 1)) (pan_cons (PE.up (pv 3)) (pan_cons (PE.up (pv 4)) pan_nil)))))) (PSs.up pss_never) (PSs.up pss_nil)))))
      (pssn_one (PS.up (ps_ret pe_bl))))), ?_⟩
    refine ⟨fun σ H1 => ∃ r, σ = [some (.ref a), some (.ref r), none, none, none] ∧ RowAt K a ns H1 r ∧ Tabs T H1, ?_, ?_⟩
    · refine ⟨_, rfl, by show 4 ≤ sizeLine; decide, fun r hn => ?_⟩
      exact ⟨r, rfl, ⟨0, 0, 0, upd_same, by decide, (TA.same_new hn).seq hS⟩, hT.ext (TA.same_new hn)⟩
    rintro σ H1 ⟨r, rfl, R1, T1⟩
    have tabs_row : ∀ {H1 H2 : Hp}, RowAt K a ns H1 r → Tabs T H1 → But r H1 H2 → Tabs T H2 := fun R h b => by
      obtain ⟨_, _, _, h1, _⟩ := R
      exact tabs_butE h h1 b
    refine ⟨fun σ H2 => σ = [some (.ref a), some (.ref r), none, none, none] ∧ RowAt K a ns H2 r ∧ Tabs T H2, ?_, ?_⟩
    · refine ⟨_, rfl, _, rfl, r, 12, rfl, R1, by decide, fun H2 l h w g hV hc hl R2 b2 => ?_⟩
      have lr := rows_apart hl R2
      have T2 := tabs_row R1 T1 b2
      refine ⟨_, rfl, r, 6, rfl, R2, by decide, fun H3 t gt lt R3 b3 => ?_⟩
      refine ⟨r, l, h, w, g, t, rfl, R3, hV, (fun c z => Nat.lt_of_lt_of_le (hc c z) (by decide)), b3 _ _ hl lr, gt, tabs_row R2 T2 b3, fun H4 R4 T4 => ?_⟩
      exact ⟨true, rfl, iteF ⟨rfl, R4, T4⟩⟩
    rintro σ H2 ⟨rfl, R2, T2⟩
    refine ⟨2, rfl, by decide, by decide, for_range (lo := 0) (n := 2) (fun i σ H3 => ∃ v2 v3 v4, σ = [some (.ref a), some (.ref r), v2, v3, v4] ∧ RowAt K a ns H3 r ∧ Tabs T H3) ⟨_, _, _, rfl, R2, T2⟩ ?_ fun σ H3 _ => k H3⟩
    rintro i σ H3 hi ⟨v2, v3, v4, rfl, R3, T3⟩
    refine ⟨fun σ H4 => ∃ l h w g t, σ = [some (.ref a), some (.ref r), some (.int (0 + (i : Int))), some (.ref l), some (.str (S t))] ∧ VG h w g ∧ (∀ c ∈ mb g.flatten, c < 122) ∧ H4 l = some (.lst (rowV g)) ∧ Good t ∧ RowAt K a ns H4 r ∧ Tabs T H4, ?_, ?_⟩
    · refine ⟨_, rfl, r, rfl, R3, fun H4 p l h w g t hV hc hl gt lt hp R4 lr b4 => ?_⟩
      exact ⟨p, _, rfl, SqT.of hp, rfl, _, _, rfl, _, _, rfl, rfl, l, h, w, g, t, rfl, hV, hc, hl, gt, R4, tabs_row R3 T3 b4⟩
    rintro σ H4 ⟨l, h, w, g, t, rfl, hV, hc, hl, gt, R4, T4⟩
    refine ⟨_, rfl, _, rfl, _, rfl, r, l, h, w, g, t, rfl, R4, hV, hc, hl, gt, T4, fun H5 R5 T5 => ?_⟩
    exact ⟨true, rfl, iteF ⟨_, _, _, rfl, R5, T5⟩⟩
end
end TR
end
section
set_option Elab.async false
set_option maxRecDepth 100000
set_option linter.all false
namespace TK
open PySem PySem.W PySem.W.X PySem.Spec PyProof.Rows L2 TH
theorem via {α : Type} {f : Frag → α} {K K' : Frag} {hp : Heap} {v : α} (_X : K.In hp) (h : f K = v) (e : f K' = f K) : f K' = v := e.trans h
theorem lessT_none {K : Frag} {ts : List Addr} {a : Addr} (h : ts.contains a = true) : (lessT K ts).lookup a = none := by
  have h : a ∈ ts := by simpa using h
  unfold lessT
  induction K with
  | nil => rfl
  | cons x L ih =>
    by_cases z : x.1 ∈ ts
    · rw [List.filter_cons_of_neg (by simp [z])]
      exact ih
    · rw [List.filter_cons_of_pos (by simp [z])]
      have ne : ¬ a = x.1 := fun y => z (by rw [← y]; exact h)
      rw [show x = (x.1, x.2) from rfl, List.lookup_cons, show (a == x.1) = false from by simpa using ne]
      exact ih
theorem tabs_nil {h : Heap} {K' : Frag} : ∀ p ∈ ([] : List (Addr × Addr)), h.get? p.2 = some { cls := .none, data := .fields #[] } ∧ K'.lookup p.2 = none ∧ CodeHd h p.1 p.2 := fun p hp => nomatch hp
theorem tabs_cons {K : Frag} {h : Heap} {ts : List Addr} {n q : Str} {f cd P : Addr} {st : Stmt} {cs : List (Addr × Addr)} {oc kV doc pm ct : Value} {od an od2 : Option Addr} {osl sl2 : Array (Option Value)} {vs : Array Value} (X : K.In h)
    (a : nsIn K mainGlobals n = some (some (.ref f))) (l : K.lookup f = some ⟨oc, od, .func (fnOf n q (defArgs st) (defBody st) (defScope st) .none kV doc pm an (.ref cd) ct), osl⟩)
    (v : K.lookup cd = some ⟨.type "code", od2, .fields vs, sl2⟩) (pp : vs[11]? = some (.ref P)) (z : K.lookup P = some { cls := .none, data := .fields #[] }) (H : codeHdIn K cd P = true) (t : ts.contains P = true)
    (r : ∀ p ∈ cs, h.get? p.2 = some { cls := .none, data := .fields #[] } ∧ (lessT K ts).lookup p.2 = none ∧ CodeHd h p.1 p.2) :
    ∀ p ∈ (cd, P) :: cs, h.get? p.2 = some { cls := .none, data := .fields #[] } ∧ (lessT K ts).lookup p.2 = none ∧ CodeHd h p.1 p.2 := fun p hp => by
  rcases List.mem_cons.mp hp with rfl | hp
  · exact ⟨X _ _ z, lessT_none t, codeHd_of_K X H⟩
  · exact r p hp
end TK
end
section
set_option Elab.async false
set_option maxRecDepth 100000
set_option linter.all false
namespace TK
open PySem PySem.Spec PyProof.Rows L2 LamX TX TA
def ceF (a0 a1 a2 a3 a4 a5 : Addr) : Nat → Addr
  | 0 => a0
  | 1 => a1
  | 2 => a2
  | 3 => a3
  | 4 => a4
  | _ => a5
theorem six_two {p : Nat → Nat → Prop} (h0 : ∀ k, k < 6 → p 0 k) (h1 : ∀ k, k < 6 → p 1 k) (h2 : ∀ k, k < 6 → p 2 k) (h3 : ∀ k, k < 6 → p 3 k) (h4 : ∀ k, k < 6 → p 4 k) (h5 : ∀ k, k < 6 → p 5 k) : ∀ j k, j < 6 → k < 6 → p j k := fun j k hj hk => six_all (p := fun j => ∀ k, k < 6 → p j k) h0 h1 h2 h3 h4 h5 j hj k hk
theorem tabs_all {H : Hp} {cs : List (Addr × Addr)} {T : List (Addr × Str)} (qs : List Str) (h : ∀ p ∈ cs, H p.2 = some (.tbl #[])) (e : (cs.map (·.2)).zip qs = T) : Tabs T H := fun p hp => by
  subst e
  have h1 := (List.of_mem_zip (a := p.1) (b := p.2) hp).1
  obtain ⟨c, hc, e⟩ := List.mem_map.mp h1
  rw [← e]
  exact TabS.nil (h c hc)
end TK
end
section
set_option Elab.async false
set_option maxRecDepth 100000
set_option linter.all false
namespace TR
open PySem PySem.Spec PyProof.Rows L2 LamX TM TX TK TB TP TH TU TW TQ
set_option maxHeartbeats 4000000
theorem all_mk {P : Program} {w : World} {K : PySem.W.Frag} {h : Heap} {mg : Str → Option Value} {fa : Addr} {C D fIt fFw fWi fWt qWt fTi fTo qTo fRs fFc fIr fTd fSl fTr qTr fTe fMb qMb fWd qWd fHt qHt fTc fCl fNu fPl fCv fAt fCm fCn fEx fCi fCf fAr fBk fMa fIb fTk fAl fRa fRw fTx fTl fAf fPs fCs fBy fLr fLw e2 fIx2 cc2 cdIx2 N2 e3 e4 eT e0 e1 e5 : Addr} {tAR tAC t0 tLE tMS tMX tMR : Tok} {zAR zAC zEM zLE : Str} {iMS iMX iMR : Int}
    {odIt anIt : Option Addr} {slIt : Array (Option Value)} {ocIt kVIt dcIt pmIt cdIt ctIt : Value} {odFw anFw : Option Addr} {slFw : Array (Option Value)} {ocFw kVFw dcFw pmFw cdFw ctFw : Value} {odWi anWi : Option Addr} {slWi : Array (Option Value)} {ocWi kVWi dcWi pmWi cdWi ctWi : Value} {rWt : List Value} {odWt anWt : Option Addr} {slWt : Array (Option Value)} {ocWt kVWt dcWt pmWt cdWt ctWt : Value} {odTi anTi : Option Addr} {slTi : Array (Option Value)} {ocTi kVTi dcTi pmTi cdTi ctTi : Value} {rTo : List Value} {odTo anTo : Option Addr} {slTo : Array (Option Value)} {ocTo kVTo dcTo pmTo cdTo ctTo : Value} {odRs anRs : Option Addr} {slRs : Array (Option Value)} {ocRs kVRs dcRs pmRs cdRs ctRs : Value} {odFc anFc : Option Addr} {slFc : Array (Option Value)} {ocFc kVFc dcFc pmFc cdFc ctFc : Value} {odIr anIr : Option Addr} {slIr : Array (Option Value)} {ocIr kVIr dcIr pmIr cdIr ctIr : Value} {odTd anTd : Option Addr} {slTd : Array (Option Value)} {ocTd kVTd dcTd pmTd cdTd ctTd : Value} {odSl anSl : Option Addr} {slSl : Array (Option Value)} {ocSl kVSl dcSl pmSl cdSl ctSl : Value} {rTr : List Value} {odTr anTr : Option Addr} {slTr : Array (Option Value)} {ocTr kVTr dcTr pmTr cdTr ctTr : Value} {odTe anTe : Option Addr} {slTe : Array (Option Value)} {ocTe kVTe dcTe pmTe cdTe ctTe : Value} {rMb : List Value} {odMb anMb : Option Addr} {slMb : Array (Option Value)} {ocMb kVMb dcMb pmMb cdMb ctMb : Value} {rWd : List Value} {odWd anWd : Option Addr} {slWd : Array (Option Value)} {ocWd kVWd dcWd pmWd cdWd ctWd : Value} {rHt : List Value} {odHt anHt : Option Addr} {slHt : Array (Option Value)} {ocHt kVHt dcHt pmHt cdHt ctHt : Value} {odTc anTc : Option Addr} {slTc : Array (Option Value)} {ocTc kVTc dcTc pmTc cdTc ctTc : Value} {odCl anCl : Option Addr} {slCl : Array (Option Value)} {ocCl kVCl dcCl pmCl cdCl ctCl : Value} {odNu anNu : Option Addr} {slNu : Array (Option Value)} {ocNu kVNu dcNu pmNu cdNu ctNu : Value} {odPl anPl : Option Addr} {slPl : Array (Option Value)} {ocPl kVPl dcPl pmPl cdPl ctPl : Value} {odCv anCv : Option Addr} {slCv : Array (Option Value)} {ocCv kVCv dcCv pmCv cdCv ctCv : Value} {odAt anAt : Option Addr} {slAt : Array (Option Value)} {ocAt kVAt dcAt pmAt cdAt ctAt : Value} {odCm anCm : Option Addr} {slCm : Array (Option Value)} {ocCm kVCm dcCm pmCm cdCm ctCm : Value} {odCn anCn : Option Addr} {slCn : Array (Option Value)} {ocCn kVCn dcCn pmCn cdCn ctCn : Value} {odEx anEx : Option Addr} {slEx : Array (Option Value)} {ocEx kVEx dcEx pmEx cdEx ctEx : Value} {odCi anCi : Option Addr} {slCi : Array (Option Value)} {ocCi kVCi dcCi pmCi cdCi ctCi : Value} {odCf anCf : Option Addr} {slCf : Array (Option Value)} {ocCf kVCf dcCf pmCf cdCf ctCf : Value} {odAr anAr : Option Addr} {slAr : Array (Option Value)} {ocAr kVAr dcAr pmAr cdAr ctAr : Value} {odBk anBk : Option Addr} {slBk : Array (Option Value)} {ocBk kVBk dcBk pmBk cdBk ctBk : Value} {cdC : ClassData} {odMa anMa : Option Addr} {slMa : Array (Option Value)} {ocMa kVMa dcMa pmMa cdMa ctMa : Value} {odIb anIb : Option Addr} {slIb : Array (Option Value)} {ocIb kVIb dcIb pmIb cdIb ctIb : Value} {odTk anTk : Option Addr} {slTk : Array (Option Value)} {ocTk kVTk dcTk pmTk cdTk ctTk : Value} {odAl anAl : Option Addr} {slAl : Array (Option Value)} {ocAl kVAl dcAl pmAl cdAl ctAl : Value} {odRa anRa : Option Addr} {slRa : Array (Option Value)} {ocRa kVRa dcRa pmRa cdRa ctRa : Value} {odRw anRw : Option Addr} {slRw : Array (Option Value)} {ocRw kVRw dcRw pmRw cdRw ctRw : Value} {odTx anTx : Option Addr} {slTx : Array (Option Value)} {ocTx kVTx dcTx pmTx cdTx ctTx : Value} {odTl anTl : Option Addr} {slTl : Array (Option Value)} {ocTl kVTl dcTl pmTl cdTl ctTl : Value} {odAf anAf : Option Addr} {slAf : Array (Option Value)} {ocAf kVAf dcAf pmAf cdAf ctAf : Value} {odPs anPs : Option Addr} {slPs : Array (Option Value)} {ocPs kVPs dcPs pmPs cdPs ctPs : Value} {odCs anCs : Option Addr} {slCs : Array (Option Value)} {ocCs kVCs dcCs pmCs cdCs ctCs : Value} {odBy anBy : Option Addr} {slBy : Array (Option Value)} {ocBy kVBy dcBy pmBy cdBy ctBy : Value} {odLr anLr : Option Addr} {slLr : Array (Option Value)} {ocLr kVLr dcLr pmLr ctLr : Value} {cdLr PLr : Addr} {odLw anLw : Option Addr} {slLw : Array (Option Value)} {ocLw kVLw dcLw pmLw cdLw ctLw : Value} {tfX2 : Tok} {fileX2 nm2 q2 : Str} {bs2 bm2 sub2 : List Value} {sn2 : List Str} {ab2 : Bool} {col2 : Option Bool} {dd2 : Option Addr} {m02 m12 m22 m32 m52 : Option Value} {odIx2 anIx2 cdd2 cld02 : Option Addr} {slIx2 ccs2 csl02 : Array (Option Value)} {vsx2 : Array Value} {ocIx2 kVIx2 dcIx2 pmIx2 ctIx2 ccl2 cl02 : Value}
    (X : K.In h) (G : h.Ns mainGlobals mg) (hfa : mg "law" = some (.ref fa))
    (aC : PySem.W.nsIn K mainGlobals "Word" = some (some (.ref C)))
    (pgC : PySem.W.plainGet K C Str.empty = true)
    (hdC : PySem.W.hasDictIn K C = true)
    (poC : PySem.W.plainOver K C = true)
    (saC : PySem.W.findIn K (.ref C) "__setattr__" = some (some (.builtin "object.__setattr__")))
    (mkC : PySem.W.makesIn K C = true)
    (kcC : PySem.W.keepIn K (.ref C) = true)
    (rdC : PySem.W.readsIn K C (.type "type") = true)
    (gaC : PySem.W.specialIn K (.ref C) "__getattribute__" = some (some (.builtin "type.__getattribute__")))
    (aD : PySem.W.nsIn K mainGlobals "Tray" = some (some (.ref D)))
    (pgD : PySem.W.plainGet K D Str.empty = true)
    (hdD : PySem.W.hasDictIn K D = true)
    (poD : PySem.W.plainOver K D = true)
    (saD : PySem.W.findIn K (.ref D) "__setattr__" = some (some (.builtin "object.__setattr__")))
    (mkD : PySem.W.makesIn K D = true)
    (kcD : PySem.W.keepIn K (.ref D) = true)
    (rdD : PySem.W.readsIn K D (.type "type") = true)
    (gaD : PySem.W.specialIn K (.ref D) "__getattribute__" = some (some (.builtin "type.__getattribute__")))
    (cAR : PySem.W.nsIn K mainGlobals "ALONG_ROWS" = some (some (.str zAR tAR)))
    (cAC : PySem.W.nsIn K mainGlobals "ALONG_COLUMNS" = some (some (.str zAC tAC)))
    (cEM : PySem.W.nsIn K mainGlobals "EMPTY" = some (some (.str zEM t0)))
    (cLE : PySem.W.nsIn K mainGlobals "LETTERS" = some (some (.str zLE tLE)))
    (cMS : PySem.W.nsIn K mainGlobals "MAX_SIDE" = some (some (.int iMS tMS)))
    (nT : PySem.W.findIn K (.ref C) "_text" = some none)
    (nR : PySem.W.findIn K (.ref D) "_rows" = some none)
    (ih : PySem.W.findIn K (.ref C) "__class__" = some (some (.builtin "object.__class__")))
    (in_ : PySem.W.specialIn K (.builtin "object.__class__") "__get__" = some (some (.builtin "getset_descriptor.__get__")))
    (itk : PySem.W.takesIn K (.builtin "object.__class__") = some true)
    (im : PySem.W.mroIn K C (.type "object") = some true)
    (ihD : PySem.W.findIn K (.ref D) "__class__" = some (some (.builtin "object.__class__")))
    (imD : PySem.W.mroIn K D (.type "object") = some true)
    (mx : PySem.W.findCls K (.ref C) (.type "type") "MAX_TILTS" = some (.val (.int iMX tMX)))
    (b_len : PySem.W.nsIn K mainGlobals "len" = some (none))
    (b_isinstance : PySem.W.nsIn K mainGlobals "isinstance" = some (none))
    (b_str : PySem.W.nsIn K mainGlobals "str" = some (none))
    (b_enumerate : PySem.W.nsIn K mainGlobals "enumerate" = some (none))
    (b_set : PySem.W.nsIn K mainGlobals "set" = some (none))
    (b_zip : PySem.W.nsIn K mainGlobals "zip" = some (none))
    (b_tuple : PySem.W.nsIn K mainGlobals "tuple" = some (none))
    (b_int : PySem.W.nsIn K mainGlobals "int" = some (none))
    (b_range : PySem.W.nsIn K mainGlobals "range" = some (none))
    (b_min : PySem.W.nsIn K mainGlobals "min" = some (none))
    (b_list : PySem.W.nsIn K mainGlobals "list" = some (none))
    (b_bool : PySem.W.nsIn K mainGlobals "bool" = some (none))
    (b_dict : PySem.W.nsIn K mainGlobals "dict" = some (none))
    (b_sorted : PySem.W.nsIn K mainGlobals "sorted" = some (none))
    (b_divmod : PySem.W.nsIn K mainGlobals "divmod" = some (none))
    (b_super : PySem.W.nsIn K mainGlobals "super" = some (none))
    (b_ValueError : PySem.W.nsIn K mainGlobals "ValueError" = some (none))
    (aIt : PySem.W.nsIn K mainGlobals "is_tilt" = some (some (.ref fIt)))
    (lIt : K.lookup fIt = some ⟨ocIt, odIt, .func (PySem.W.fnOf "is_tilt" "is_tilt" (defArgs sIsTilt) (defBody sIsTilt) (defScope sIsTilt) .none kVIt dcIt pmIt anIt cdIt ctIt), slIt⟩)
    (cIt : PySem.W.codeIn K cdIt "is_tilt" = true)
    (kIt : PySem.W.keepIn K (.ref fIt) = true)
    (aFw : PySem.W.nsIn K mainGlobals "_first_wrong_index" = some (some (.ref fFw)))
    (lFw : K.lookup fFw = some ⟨ocFw, odFw, .func (PySem.W.fnOf "_first_wrong_index" "_first_wrong_index" (defArgs sFirstWrongIndex) (defBody sFirstWrongIndex) (defScope sFirstWrongIndex) .none kVFw dcFw pmFw anFw cdFw ctFw), slFw⟩)
    (cFw : PySem.W.codeIn K cdFw "_first_wrong_index" = true)
    (kFw : PySem.W.keepIn K (.ref fFw) = true)
    (aWi : PySem.W.findIn K (.ref C) "__init__" = some (some (.ref fWi)))
    (iWi : PySem.W.isFn K (.ref fWi) = true)
    (lWi : K.lookup fWi = some ⟨ocWi, odWi, .func (PySem.W.fnOf "__init__" "Word.__init__" (defArgs sWordInit) (defBody sWordInit) (defScope sWordInit) .none kVWi dcWi pmWi anWi cdWi ctWi), slWi⟩)
    (cWi : PySem.W.codeIn K cdWi "Word.__init__" = true)
    (kWi : PySem.W.keepIn K (.ref fWi) = true)
    (pWt : PySem.W.findIn K (.ref C) "text" = some (some (.ref qWt)))
    (pgtWt : PySem.W.specialIn K (.ref qWt) "__get__" = some (some (.builtin "property.__get__")))
    (ptkWt : PySem.W.takesIn K (.ref qWt) = some true)
    (aWt : PySem.W.recIn K qWt "property" = some (.ref fWt :: rWt))
    (lWt : K.lookup fWt = some ⟨ocWt, odWt, .func (PySem.W.fnOf "text" "Word.text" (defArgs sWordText) (defBody sWordText) (defScope sWordText) .none kVWt dcWt pmWt anWt cdWt ctWt), slWt⟩)
    (cWt : PySem.W.codeIn K cdWt "Word.text" = true)
    (kWt : PySem.W.keepIn K (.ref fWt) = true)
    (aTi : PySem.W.findIn K (.ref D) "__init__" = some (some (.ref fTi)))
    (iTi : PySem.W.isFn K (.ref fTi) = true)
    (lTi : K.lookup fTi = some ⟨ocTi, odTi, .func (PySem.W.fnOf "__init__" "Tray.__init__" (defArgs sTrayInit) (defBody sTrayInit) (defScope sTrayInit) .none kVTi dcTi pmTi anTi cdTi ctTi), slTi⟩)
    (cTi : PySem.W.codeIn K cdTi "Tray.__init__" = true)
    (kTi : PySem.W.keepIn K (.ref fTi) = true)
    (pTo : PySem.W.findCls K (.ref D) (.type "type") "of_text" = some (.get (.builtin "classmethod.__get__") (.ref qTo) .none (.ref D)))
    (aTo : PySem.W.recIn K qTo "classmethod" = some (.ref fTo :: rTo))
    (fiTo : PySem.W.fnIn K fTo = true)
    (lTo : K.lookup fTo = some ⟨ocTo, odTo, .func (PySem.W.fnOf "of_text" "Tray.of_text" (defArgs sTrayOfText) (defBody sTrayOfText) (defScope sTrayOfText) .none kVTo dcTo pmTo anTo cdTo ctTo), slTo⟩)
    (cTo : PySem.W.codeIn K cdTo "Tray.of_text" = true)
    (kTo : PySem.W.keepIn K (.ref fTo) = true)
    (aRs : PySem.W.findIn K (.ref D) "__rshift__" = some (some (.ref fRs)))
    (iRs : PySem.W.isFn K (.ref fRs) = true)
    (lRs : K.lookup fRs = some ⟨ocRs, odRs, .func (PySem.W.fnOf "__rshift__" "Tray.__rshift__" (defArgs sTrayRshift) (defBody sTrayRshift) (defScope sTrayRshift) .none kVRs dcRs pmRs anRs cdRs ctRs), slRs⟩)
    (cRs : PySem.W.codeIn K cdRs "Tray.__rshift__" = true)
    (kRs : PySem.W.keepIn K (.ref fRs) = true)
    (aFc : PySem.W.nsIn K mainGlobals "_first_wrong_cell" = some (some (.ref fFc)))
    (lFc : K.lookup fFc = some ⟨ocFc, odFc, .func (PySem.W.fnOf "_first_wrong_cell" "_first_wrong_cell" (defArgs sFirstWrongCell) (defBody sFirstWrongCell) (defScope sFirstWrongCell) .none kVFc dcFc pmFc anFc cdFc ctFc), slFc⟩)
    (cFc : PySem.W.codeIn K cdFc "_first_wrong_cell" = true)
    (kFc : PySem.W.keepIn K (.ref fFc) = true)
    (aIr : PySem.W.nsIn K mainGlobals "_is_row" = some (some (.ref fIr)))
    (lIr : K.lookup fIr = some ⟨ocIr, odIr, .func (PySem.W.fnOf "_is_row" "_is_row" (defArgs sIsRow) (defBody sIsRow) (defScope sIsRow) .none kVIr dcIr pmIr anIr cdIr ctIr), slIr⟩)
    (cIr : PySem.W.codeIn K cdIr "_is_row" = true)
    (kIr : PySem.W.keepIn K (.ref fIr) = true)
    (aTd : PySem.W.nsIn K mainGlobals "_tilted" = some (some (.ref fTd)))
    (lTd : K.lookup fTd = some ⟨ocTd, odTd, .func (PySem.W.fnOf "_tilted" "_tilted" (defArgs sTilted) (defBody sTilted) (defScope sTilted) .none kVTd dcTd pmTd anTd cdTd ctTd), slTd⟩)
    (cTd : PySem.W.codeIn K cdTd "_tilted" = true)
    (kTd : PySem.W.keepIn K (.ref fTd) = true)
    (aSl : PySem.W.nsIn K mainGlobals "_slid" = some (some (.ref fSl)))
    (lSl : K.lookup fSl = some ⟨ocSl, odSl, .func (PySem.W.fnOf "_slid" "_slid" (defArgs sSlid) (defBody sSlid) (defScope sSlid) .none kVSl dcSl pmSl anSl cdSl ctSl), slSl⟩)
    (cSl : PySem.W.codeIn K cdSl "_slid" = true)
    (kSl : PySem.W.keepIn K (.ref fSl) = true)
    (pTr : PySem.W.findIn K (.ref D) "rows" = some (some (.ref qTr)))
    (pgtTr : PySem.W.specialIn K (.ref qTr) "__get__" = some (some (.builtin "property.__get__")))
    (ptkTr : PySem.W.takesIn K (.ref qTr) = some true)
    (aTr : PySem.W.recIn K qTr "property" = some (.ref fTr :: rTr))
    (lTr : K.lookup fTr = some ⟨ocTr, odTr, .func (PySem.W.fnOf "rows" "Tray.rows" (defArgs sTrayRows) (defBody sTrayRows) (defScope sTrayRows) .none kVTr dcTr pmTr anTr cdTr ctTr), slTr⟩)
    (cTr : PySem.W.codeIn K cdTr "Tray.rows" = true)
    (kTr : PySem.W.keepIn K (.ref fTr) = true)
    (aTe : PySem.W.findIn K (.ref D) "__eq__" = some (some (.ref fTe)))
    (iTe : PySem.W.isFn K (.ref fTe) = true)
    (lTe : K.lookup fTe = some ⟨ocTe, odTe, .func (PySem.W.fnOf "__eq__" "Tray.__eq__" (defArgs sTrayEq) (defBody sTrayEq) (defScope sTrayEq) .none kVTe dcTe pmTe anTe cdTe ctTe), slTe⟩)
    (cTe : PySem.W.codeIn K cdTe "Tray.__eq__" = true)
    (kTe : PySem.W.keepIn K (.ref fTe) = true)
    (pMb : PySem.W.findIn K (.ref D) "marbles" = some (some (.ref qMb)))
    (pgtMb : PySem.W.specialIn K (.ref qMb) "__get__" = some (some (.builtin "property.__get__")))
    (ptkMb : PySem.W.takesIn K (.ref qMb) = some true)
    (aMb : PySem.W.recIn K qMb "property" = some (.ref fMb :: rMb))
    (lMb : K.lookup fMb = some ⟨ocMb, odMb, .func (PySem.W.fnOf "marbles" "Tray.marbles" (defArgs sTrayMarbles) (defBody sTrayMarbles) (defScope sTrayMarbles) .none kVMb dcMb pmMb anMb cdMb ctMb), slMb⟩)
    (cMb : PySem.W.codeIn K cdMb "Tray.marbles" = true)
    (kMb : PySem.W.keepIn K (.ref fMb) = true)
    (pWd : PySem.W.findIn K (.ref D) "width" = some (some (.ref qWd)))
    (pgtWd : PySem.W.specialIn K (.ref qWd) "__get__" = some (some (.builtin "property.__get__")))
    (ptkWd : PySem.W.takesIn K (.ref qWd) = some true)
    (aWd : PySem.W.recIn K qWd "property" = some (.ref fWd :: rWd))
    (lWd : K.lookup fWd = some ⟨ocWd, odWd, .func (PySem.W.fnOf "width" "Tray.width" (defArgs sTrayWidth) (defBody sTrayWidth) (defScope sTrayWidth) .none kVWd dcWd pmWd anWd cdWd ctWd), slWd⟩)
    (cWd : PySem.W.codeIn K cdWd "Tray.width" = true)
    (kWd : PySem.W.keepIn K (.ref fWd) = true)
    (pHt : PySem.W.findIn K (.ref D) "height" = some (some (.ref qHt)))
    (pgtHt : PySem.W.specialIn K (.ref qHt) "__get__" = some (some (.builtin "property.__get__")))
    (ptkHt : PySem.W.takesIn K (.ref qHt) = some true)
    (aHt : PySem.W.recIn K qHt "property" = some (.ref fHt :: rHt))
    (lHt : K.lookup fHt = some ⟨ocHt, odHt, .func (PySem.W.fnOf "height" "Tray.height" (defArgs sTrayHeight) (defBody sTrayHeight) (defScope sTrayHeight) .none kVHt dcHt pmHt anHt cdHt ctHt), slHt⟩)
    (cHt : PySem.W.codeIn K cdHt "Tray.height" = true)
    (kHt : PySem.W.keepIn K (.ref fHt) = true)
    (aTc : PySem.W.findIn K (.ref D) "__contains__" = some (some (.ref fTc)))
    (iTc : PySem.W.isFn K (.ref fTc) = true)
    (lTc : K.lookup fTc = some ⟨ocTc, odTc, .func (PySem.W.fnOf "__contains__" "Tray.__contains__" (defArgs sTrayContains) (defBody sTrayContains) (defScope sTrayContains) .none kVTc dcTc pmTc anTc cdTc ctTc), slTc⟩)
    (cTc : PySem.W.codeIn K cdTc "Tray.__contains__" = true)
    (kTc : PySem.W.keepIn K (.ref fTc) = true)
    (aCl : PySem.W.findIn K (.ref D) "__call__" = some (some (.ref fCl)))
    (iCl : PySem.W.isFn K (.ref fCl) = true)
    (lCl : K.lookup fCl = some ⟨ocCl, odCl, .func (PySem.W.fnOf "__call__" "Tray.__call__" (defArgs sTrayCall) (defBody sTrayCall) (defScope sTrayCall) .none kVCl dcCl pmCl anCl cdCl ctCl), slCl⟩)
    (cCl : PySem.W.codeIn K cdCl "Tray.__call__" = true)
    (kCl : PySem.W.keepIn K (.ref fCl) = true)
    (fnCl : PySem.W.fnIn K fCl = true)
    (aNu : PySem.W.nsIn K mainGlobals "is_number" = some (some (.ref fNu)))
    (lNu : K.lookup fNu = some ⟨ocNu, odNu, .func (PySem.W.fnOf "is_number" "is_number" (defArgs sIsNumber) (defBody sIsNumber) (defScope sIsNumber) .none kVNu dcNu pmNu anNu cdNu ctNu), slNu⟩)
    (cNu : PySem.W.codeIn K cdNu "is_number" = true)
    (kNu : PySem.W.keepIn K (.ref fNu) = true)
    (aPl : PySem.W.nsIn K mainGlobals "is_place" = some (some (.ref fPl)))
    (lPl : K.lookup fPl = some ⟨ocPl, odPl, .func (PySem.W.fnOf "is_place" "is_place" (defArgs sIsPlace) (defBody sIsPlace) (defScope sIsPlace) .none kVPl dcPl pmPl anPl cdPl ctPl), slPl⟩)
    (cPl : PySem.W.codeIn K cdPl "is_place" = true)
    (kPl : PySem.W.keepIn K (.ref fPl) = true)
    (aCv : PySem.W.nsIn K mainGlobals "check_place" = some (some (.ref fCv)))
    (lCv : K.lookup fCv = some ⟨ocCv, odCv, .func (PySem.W.fnOf "check_place" "check_place" (defArgs sCheckPlace) (defBody sCheckPlace) (defScope sCheckPlace) .none kVCv dcCv pmCv anCv cdCv ctCv), slCv⟩)
    (cCv : PySem.W.codeIn K cdCv "check_place" = true)
    (kCv : PySem.W.keepIn K (.ref fCv) = true)
    (aAt : PySem.W.findIn K (.ref D) "at" = some (some (.ref fAt)))
    (iAt : PySem.W.isFn K (.ref fAt) = true)
    (lAt : K.lookup fAt = some ⟨ocAt, odAt, .func (PySem.W.fnOf "at" "Tray.at" (defArgs sTrayAt) (defBody sTrayAt) (defScope sTrayAt) .none kVAt dcAt pmAt anAt cdAt ctAt), slAt⟩)
    (cAt : PySem.W.codeIn K cdAt "Tray.at" = true)
    (kAt : PySem.W.keepIn K (.ref fAt) = true)
    (aCm : PySem.W.nsIn K mainGlobals "check_marble" = some (some (.ref fCm)))
    (lCm : K.lookup fCm = some ⟨ocCm, odCm, .func (PySem.W.fnOf "check_marble" "check_marble" (defArgs sCheckMarble) (defBody sCheckMarble) (defScope sCheckMarble) .none kVCm dcCm pmCm anCm cdCm ctCm), slCm⟩)
    (cCm : PySem.W.codeIn K cdCm "check_marble" = true)
    (kCm : PySem.W.keepIn K (.ref fCm) = true)
    (aCn : PySem.W.nsIn K mainGlobals "check_number" = some (some (.ref fCn)))
    (lCn : K.lookup fCn = some ⟨ocCn, odCn, .func (PySem.W.fnOf "check_number" "check_number" (defArgs sCheckNumber) (defBody sCheckNumber) (defScope sCheckNumber) .none kVCn dcCn pmCn anCn cdCn ctCn), slCn⟩)
    (cCn : PySem.W.codeIn K cdCn "check_number" = true)
    (kCn : PySem.W.keepIn K (.ref fCn) = true)
    (aEx : PySem.W.nsIn K mainGlobals "exchange" = some (some (.ref fEx)))
    (lEx : K.lookup fEx = some ⟨ocEx, odEx, .func (PySem.W.fnOf "exchange" "exchange" (defArgs sExchange) (defBody sExchange) (defScope sExchange) .none kVEx dcEx pmEx anEx cdEx ctEx), slEx⟩)
    (cEx : PySem.W.codeIn K cdEx "exchange" = true)
    (kEx : PySem.W.keepIn K (.ref fEx) = true)
    (aCi : PySem.W.nsIn K mainGlobals "circles" = some (some (.ref fCi)))
    (lCi : K.lookup fCi = some ⟨ocCi, odCi, .func (PySem.W.fnOf "circles" "circles" (defArgs sCircles) (defBody sCircles) (defScope sCircles) .none kVCi dcCi pmCi anCi cdCi ctCi), slCi⟩)
    (cCi : PySem.W.codeIn K cdCi "circles" = true)
    (kCi : PySem.W.keepIn K (.ref fCi) = true)
    (aCf : PySem.W.nsIn K mainGlobals "_circle_from" = some (some (.ref fCf)))
    (lCf : K.lookup fCf = some ⟨ocCf, odCf, .func (PySem.W.fnOf "_circle_from" "_circle_from" (defArgs sCircleFrom) (defBody sCircleFrom) (defScope sCircleFrom) .none kVCf dcCf pmCf anCf cdCf ctCf), slCf⟩)
    (cCf : PySem.W.codeIn K cdCf "_circle_from" = true)
    (kCf : PySem.W.keepIn K (.ref fCf) = true)
    (aAr : PySem.W.nsIn K mainGlobals "after_rounds" = some (some (.ref fAr)))
    (lAr : K.lookup fAr = some ⟨ocAr, odAr, .func (PySem.W.fnOf "after_rounds" "after_rounds" (defArgs sAfterRounds) (defBody sAfterRounds) (defScope sAfterRounds) .none kVAr dcAr pmAr anAr cdAr ctAr), slAr⟩)
    (cAr : PySem.W.codeIn K cdAr "after_rounds" = true)
    (kAr : PySem.W.keepIn K (.ref fAr) = true)
    (aBk : PySem.W.nsIn K mainGlobals "back_after" = some (some (.ref fBk)))
    (lBk : K.lookup fBk = some ⟨ocBk, odBk, .func (PySem.W.fnOf "back_after" "back_after" (defArgs sBackAfter) (defBody sBackAfter) (defScope sBackAfter) .none kVBk dcBk pmBk anBk cdBk ctBk), slBk⟩)
    (cBk : PySem.W.codeIn K cdBk "back_after" = true)
    (kBk : PySem.W.keepIn K (.ref fBk) = true)
    (cMR : PySem.W.nsIn K mainGlobals "MAX_ROUNDS" = some (some (.int iMR tMR)))
    (lcm : PySem.W.nsIn K mainGlobals "lcm" = some (some (.builtin "math.lcm")))
    (sf : PySem.W.selfFirst K D = true)
    (nc : PySem.W.clsIn K C = some cdC)
    (nm : cdC.mro = [.ref C, .type "object"])
    (n1 : PySem.W.findIn K (.ref C) "__rshift__" = some none)
    (n2 : PySem.W.findIn K (.ref C) "__rrshift__" = some none)
    (n3 : PySem.W.findIn K (.type "object") "__rshift__" = some none)
    (n4 : PySem.W.findIn K (.type "object") "__rrshift__" = some none)
    (aMa : PySem.W.nsIn K mainGlobals "marble_after" = some (some (.ref fMa)))
    (lMa : K.lookup fMa = some ⟨ocMa, odMa, .func (PySem.W.fnOf "marble_after" "marble_after" (defArgs sMarbleAfter) (defBody sMarbleAfter) (defScope sMarbleAfter) .none kVMa dcMa pmMa anMa cdMa ctMa), slMa⟩)
    (cMa : PySem.W.codeIn K cdMa "marble_after" = true)
    (kMa : PySem.W.keepIn K (.ref fMa) = true)
    (aIb : PySem.W.nsIn K mainGlobals "is_back" = some (some (.ref fIb)))
    (lIb : K.lookup fIb = some ⟨ocIb, odIb, .func (PySem.W.fnOf "is_back" "is_back" (defArgs sIsBack) (defBody sIsBack) (defScope sIsBack) .none kVIb dcIb pmIb anIb cdIb ctIb), slIb⟩)
    (cIb : PySem.W.codeIn K cdIb "is_back" = true)
    (kIb : PySem.W.keepIn K (.ref fIb) = true)
    (aTk : PySem.W.nsIn K mainGlobals "_law_taken" = some (some (.ref fTk)))
    (lTk : K.lookup fTk = some ⟨ocTk, odTk, .func (PySem.W.fnOf "_law_taken" "_law_taken" (defArgs sLawTaken) (defBody sLawTaken) (defScope sLawTaken) .none kVTk dcTk pmTk anTk cdTk ctTk), slTk⟩)
    (cTk : PySem.W.codeIn K cdTk "_law_taken" = true)
    (kTk : PySem.W.keepIn K (.ref fTk) = true)
    (aAl : PySem.W.nsIn K mainGlobals "_law_alike" = some (some (.ref fAl)))
    (lAl : K.lookup fAl = some ⟨ocAl, odAl, .func (PySem.W.fnOf "_law_alike" "_law_alike" (defArgs sLawAlike) (defBody sLawAlike) (defScope sLawAlike) .none kVAl dcAl pmAl anAl cdAl ctAl), slAl⟩)
    (cAl : PySem.W.codeIn K cdAl "_law_alike" = true)
    (kAl : PySem.W.keepIn K (.ref fAl) = true)
    (aRa : PySem.W.nsIn K mainGlobals "_law_raised" = some (some (.ref fRa)))
    (lRa : K.lookup fRa = some ⟨ocRa, odRa, .func (PySem.W.fnOf "_law_raised" "_law_raised" (defArgs sLawRaised) (defBody sLawRaised) (defScope sLawRaised) .none kVRa dcRa pmRa anRa cdRa ctRa), slRa⟩)
    (cRa : PySem.W.codeIn K cdRa "_law_raised" = true)
    (kRa : PySem.W.keepIn K (.ref fRa) = true)
    (aRw : PySem.W.nsIn K mainGlobals "_law_rows" = some (some (.ref fRw)))
    (lRw : K.lookup fRw = some ⟨ocRw, odRw, .func (PySem.W.fnOf "_law_rows" "_law_rows" (defArgs sLawRows) (defBody sLawRows) (defScope sLawRows) .none kVRw dcRw pmRw anRw cdRw ctRw), slRw⟩)
    (cRw : PySem.W.codeIn K cdRw "_law_rows" = true)
    (kRw : PySem.W.keepIn K (.ref fRw) = true)
    (aTx : PySem.W.nsIn K mainGlobals "_law_text" = some (some (.ref fTx)))
    (lTx : K.lookup fTx = some ⟨ocTx, odTx, .func (PySem.W.fnOf "_law_text" "_law_text" (defArgs sLawText) (defBody sLawText) (defScope sLawText) .none kVTx dcTx pmTx anTx cdTx ctTx), slTx⟩)
    (cTx : PySem.W.codeIn K cdTx "_law_text" = true)
    (kTx : PySem.W.keepIn K (.ref fTx) = true)
    (aTl : PySem.W.nsIn K mainGlobals "_law_tilted" = some (some (.ref fTl)))
    (lTl : K.lookup fTl = some ⟨ocTl, odTl, .func (PySem.W.fnOf "_law_tilted" "_law_tilted" (defArgs sLawTilted) (defBody sLawTilted) (defScope sLawTilted) .none kVTl dcTl pmTl anTl cdTl ctTl), slTl⟩)
    (cTl : PySem.W.codeIn K cdTl "_law_tilted" = true)
    (kTl : PySem.W.keepIn K (.ref fTl) = true)
    (aAf : PySem.W.nsIn K mainGlobals "_law_after" = some (some (.ref fAf)))
    (lAf : K.lookup fAf = some ⟨ocAf, odAf, .func (PySem.W.fnOf "_law_after" "_law_after" (defArgs sLawAfter) (defBody sLawAfter) (defScope sLawAfter) .none kVAf dcAf pmAf anAf cdAf ctAf), slAf⟩)
    (cAf : PySem.W.codeIn K cdAf "_law_after" = true)
    (kAf : PySem.W.keepIn K (.ref fAf) = true)
    (aPs : PySem.W.nsIn K mainGlobals "_law_places" = some (some (.ref fPs)))
    (lPs : K.lookup fPs = some ⟨ocPs, odPs, .func (PySem.W.fnOf "_law_places" "_law_places" (defArgs sLawPlaces) (defBody sLawPlaces) (defScope sLawPlaces) .none kVPs dcPs pmPs anPs cdPs ctPs), slPs⟩)
    (cPs : PySem.W.codeIn K cdPs "_law_places" = true)
    (kPs : PySem.W.keepIn K (.ref fPs) = true)
    (aCs : PySem.W.nsIn K mainGlobals "_law_circles" = some (some (.ref fCs)))
    (lCs : K.lookup fCs = some ⟨ocCs, odCs, .func (PySem.W.fnOf "_law_circles" "_law_circles" (defArgs sLawCircles) (defBody sLawCircles) (defScope sLawCircles) .none kVCs dcCs pmCs anCs cdCs ctCs), slCs⟩)
    (cCs : PySem.W.codeIn K cdCs "_law_circles" = true)
    (kCs : PySem.W.keepIn K (.ref fCs) = true)
    (aBy : PySem.W.nsIn K mainGlobals "_law_busy" = some (some (.ref fBy)))
    (lBy : K.lookup fBy = some ⟨ocBy, odBy, .func (PySem.W.fnOf "_law_busy" "_law_busy" (defArgs sLawBusy) (defBody sLawBusy) (defScope sLawBusy) .none kVBy dcBy pmBy anBy cdBy ctBy), slBy⟩)
    (cBy : PySem.W.codeIn K cdBy "_law_busy" = true)
    (kBy : PySem.W.keepIn K (.ref fBy) = true)
    (aLr : PySem.W.nsIn K mainGlobals "_law_are_rounds" = some (some (.ref fLr)))
    (lLr : K.lookup fLr = some ⟨ocLr, odLr, .func (PySem.W.fnOf "_law_are_rounds" "_law_are_rounds" (defArgs sLawAreRounds) (defBody sLawAreRounds) (defScope sLawAreRounds) .none kVLr dcLr pmLr anLr (.ref cdLr) ctLr), slLr⟩)
    (cLr : PySem.W.codeIn K (.ref cdLr) "_law_are_rounds" = true)
    (kLr : PySem.W.keepIn K (.ref fLr) = true)
    (aLw : PySem.W.nsIn K mainGlobals "law" = some (some (.ref fLw)))
    (lLw : K.lookup fLw = some ⟨ocLw, odLw, .func (PySem.W.fnOf "law" "law" (defArgs sLaw) (defBody sLaw) (defScope sLaw) .none kVLw dcLw pmLw anLw cdLw ctLw), slLw⟩)
    (cLw : PySem.W.codeIn K cdLw "law" = true)
    (kLw : PySem.W.keepIn K (.ref fLw) = true)
    (ge2 : PySem.W.nsIn K mainGlobals "UnknownMarble" = some (some (.ref e2)))
    (xL2 : K.lookup e2 = some (excClassObj nm2 q2 e2 N2 bs2 bm2 true sn2 sub2 ab2 col2 dd2 m02 m12 m22 m32 m52 "ValueError.__new__"))
    (xb2 : PySem.HandSPX.refsVE bm2 = true)
    (xsa2 : PySem.W.findIn K (.ref e2) "__setattr__" = some (some (.builtin "object.__setattr__")))
    (xex2 : PySem.W.subIn K (.ref e2) (.type "BaseException") = some true)
    (xty2 : PySem.W.typeIn K (.ref e2) = some (.type "type"))
    (xk2 : PySem.W.keepIn K (.ref e2) = true)
    (aIx2 : PySem.W.findIn K (.ref e2) "__init__" = some (some (.ref fIx2)))
    (tIx2 : PySem.W.typeIn K (.ref fIx2) = some (.type "function"))
    (lIx2 : K.lookup fIx2 = some ⟨ocIx2, odIx2, .func (PySem.W.fnX "__init__" "UnknownMarble.__init__" (defArgs sUnknownMarbleInit) (defBody sUnknownMarbleInit) (defScope sUnknownMarbleInit) [("__class__", cc2)] .none kVIx2 dcIx2 pmIx2 anIx2 (.ref cdIx2) ctIx2), slIx2⟩)
    (cIx2 : PySem.W.codeIn K (.ref cdIx2) "UnknownMarble.__init__" = true)
    (kx12 : K.lookup cdIx2 = some ⟨ccl2, cdd2, .fields vsx2, ccs2⟩)
    (kx22 : vsx2[2]? = some (.str fileX2 tfX2))
    (kx32 : ((P.main.file : Str) == fileX2) = true)
    (kx42 : K.lookup cc2 = some ⟨cl02, cld02, .cell (some (.ref e2)), csl02⟩)
    (kx52 : PySem.W.mroIn K e2 (.ref e2) = some true)
    (kx62 : PySem.W.ks_superIn K e2 e2 "__init__" = some (some (.builtin "ValueError.__init__")))
    (kx72 : PySem.W.subIn K (.ref e2) (.type "ValueError") = some true)
    (nI3 : PySem.W.findIn K (.ref e2) "marble" = some none)
    (kx8 : PySem.W.nsIn K cStatics "thirdparty.any" = some none)
    (kx9 : (P.main.scope.names.lookup ("super" : Str)).isSome = false)
    (ge3 : PySem.W.nsIn K mainGlobals "InvalidPlace" = some (some (.ref e3)))
    (q3 : PySem.W.excIn K e3 [.type "ValueError", .type "Exception", .type "BaseException", .type "object"] "ValueError.__new__" = true)
    (k3 : PySem.W.keepIn K (.ref e3) = true)
    (t3 : PySem.W.typeIn K (.ref e3) = some (.type "type"))
    (hs_3 : PySem.W.subIn K (.ref e3) (.type "BaseException") = some true)
    (ge4 : PySem.W.nsIn K mainGlobals "InvalidNumber" = some (some (.ref e4)))
    (q4 : PySem.W.excIn K e4 [.type "ValueError", .type "Exception", .type "BaseException", .type "object"] "ValueError.__new__" = true)
    (k4 : PySem.W.keepIn K (.ref e4) = true)
    (t4 : PySem.W.typeIn K (.ref e4) = some (.type "type"))
    (hs_4 : PySem.W.subIn K (.ref e4) (.type "BaseException") = some true)
    (geT : PySem.W.nsIn K mainGlobals "TrayError" = some (some (.ref eT)))
    (ge0 : PySem.W.nsIn K mainGlobals "InvalidWord" = some (some (.ref e0)))
    (ge1 : PySem.W.nsIn K mainGlobals "InvalidTray" = some (some (.ref e1)))
    (ge5 : PySem.W.nsIn K mainGlobals "SameMarble" = some (some (.ref e5)))
    (nI0 : PySem.W.findIn K (.ref e0) "index" = some none)
    (nI1 : PySem.W.findIn K (.ref e1) "row" = some none)
    (nI2 : PySem.W.findIn K (.ref e1) "column" = some none)
    (hg0 : PySem.W.findIn K (.ref e0) "__getattribute__" = some (some (.builtin "BaseException.__getattribute__")))
    (hk0 : PySem.W.findIn K (.ref e0) "__getattr__" = some none)
    (hs0 : PySem.W.subIn K (.ref e0) (.type "BaseException") = some true)
    (hd0 : PySem.W.hasDictIn K e0 = true)
    (ha0 : PySem.W.findIn K (.ref e0) "__class__" = some (some (.builtin "object.__class__")))
    (hm0 : PySem.W.mroIn K e0 (.type "object") = some true)
    (hv0 : PySem.W.kitOne K (.ref e0) (.type "ValueError") = some true)
    (ht0 : PySem.W.exmOne K (.ref e0) (.ref eT) = some true)
    (o00 : PySem.W.kitOne K (.ref e0) (.ref e0) = some true)
    (o01 : PySem.W.kitOne K (.ref e0) (.ref e1) = some false)
    (o02 : PySem.W.kitOne K (.ref e0) (.ref e2) = some false)
    (o03 : PySem.W.kitOne K (.ref e0) (.ref e3) = some false)
    (o04 : PySem.W.kitOne K (.ref e0) (.ref e4) = some false)
    (o05 : PySem.W.kitOne K (.ref e0) (.ref e5) = some false)
    (hg1 : PySem.W.findIn K (.ref e1) "__getattribute__" = some (some (.builtin "BaseException.__getattribute__")))
    (hk1 : PySem.W.findIn K (.ref e1) "__getattr__" = some none)
    (hs1 : PySem.W.subIn K (.ref e1) (.type "BaseException") = some true)
    (hd1 : PySem.W.hasDictIn K e1 = true)
    (ha1 : PySem.W.findIn K (.ref e1) "__class__" = some (some (.builtin "object.__class__")))
    (hm1 : PySem.W.mroIn K e1 (.type "object") = some true)
    (hv1 : PySem.W.kitOne K (.ref e1) (.type "ValueError") = some true)
    (ht1 : PySem.W.exmOne K (.ref e1) (.ref eT) = some true)
    (o10 : PySem.W.kitOne K (.ref e1) (.ref e0) = some false)
    (o11 : PySem.W.kitOne K (.ref e1) (.ref e1) = some true)
    (o12 : PySem.W.kitOne K (.ref e1) (.ref e2) = some false)
    (o13 : PySem.W.kitOne K (.ref e1) (.ref e3) = some false)
    (o14 : PySem.W.kitOne K (.ref e1) (.ref e4) = some false)
    (o15 : PySem.W.kitOne K (.ref e1) (.ref e5) = some false)
    (hg2 : PySem.W.findIn K (.ref e2) "__getattribute__" = some (some (.builtin "BaseException.__getattribute__")))
    (hk2 : PySem.W.findIn K (.ref e2) "__getattr__" = some none)
    (hs2 : PySem.W.subIn K (.ref e2) (.type "BaseException") = some true)
    (hd2 : PySem.W.hasDictIn K e2 = true)
    (ha2 : PySem.W.findIn K (.ref e2) "__class__" = some (some (.builtin "object.__class__")))
    (hm2 : PySem.W.mroIn K e2 (.type "object") = some true)
    (hv2 : PySem.W.kitOne K (.ref e2) (.type "ValueError") = some true)
    (ht2 : PySem.W.exmOne K (.ref e2) (.ref eT) = some true)
    (o20 : PySem.W.kitOne K (.ref e2) (.ref e0) = some false)
    (o21 : PySem.W.kitOne K (.ref e2) (.ref e1) = some false)
    (o22 : PySem.W.kitOne K (.ref e2) (.ref e2) = some true)
    (o23 : PySem.W.kitOne K (.ref e2) (.ref e3) = some false)
    (o24 : PySem.W.kitOne K (.ref e2) (.ref e4) = some false)
    (o25 : PySem.W.kitOne K (.ref e2) (.ref e5) = some false)
    (hg3 : PySem.W.findIn K (.ref e3) "__getattribute__" = some (some (.builtin "BaseException.__getattribute__")))
    (hk3 : PySem.W.findIn K (.ref e3) "__getattr__" = some none)
    (hs3 : PySem.W.subIn K (.ref e3) (.type "BaseException") = some true)
    (hd3 : PySem.W.hasDictIn K e3 = true)
    (ha3 : PySem.W.findIn K (.ref e3) "__class__" = some (some (.builtin "object.__class__")))
    (hm3 : PySem.W.mroIn K e3 (.type "object") = some true)
    (hv3 : PySem.W.kitOne K (.ref e3) (.type "ValueError") = some true)
    (ht3 : PySem.W.exmOne K (.ref e3) (.ref eT) = some true)
    (o30 : PySem.W.kitOne K (.ref e3) (.ref e0) = some false)
    (o31 : PySem.W.kitOne K (.ref e3) (.ref e1) = some false)
    (o32 : PySem.W.kitOne K (.ref e3) (.ref e2) = some false)
    (o33 : PySem.W.kitOne K (.ref e3) (.ref e3) = some true)
    (o34 : PySem.W.kitOne K (.ref e3) (.ref e4) = some false)
    (o35 : PySem.W.kitOne K (.ref e3) (.ref e5) = some false)
    (hg4 : PySem.W.findIn K (.ref e4) "__getattribute__" = some (some (.builtin "BaseException.__getattribute__")))
    (hk4 : PySem.W.findIn K (.ref e4) "__getattr__" = some none)
    (hs4 : PySem.W.subIn K (.ref e4) (.type "BaseException") = some true)
    (hd4 : PySem.W.hasDictIn K e4 = true)
    (ha4 : PySem.W.findIn K (.ref e4) "__class__" = some (some (.builtin "object.__class__")))
    (hm4 : PySem.W.mroIn K e4 (.type "object") = some true)
    (hv4 : PySem.W.kitOne K (.ref e4) (.type "ValueError") = some true)
    (ht4 : PySem.W.exmOne K (.ref e4) (.ref eT) = some true)
    (o40 : PySem.W.kitOne K (.ref e4) (.ref e0) = some false)
    (o41 : PySem.W.kitOne K (.ref e4) (.ref e1) = some false)
    (o42 : PySem.W.kitOne K (.ref e4) (.ref e2) = some false)
    (o43 : PySem.W.kitOne K (.ref e4) (.ref e3) = some false)
    (o44 : PySem.W.kitOne K (.ref e4) (.ref e4) = some true)
    (o45 : PySem.W.kitOne K (.ref e4) (.ref e5) = some false)
    (hg5 : PySem.W.findIn K (.ref e5) "__getattribute__" = some (some (.builtin "BaseException.__getattribute__")))
    (hk5 : PySem.W.findIn K (.ref e5) "__getattr__" = some none)
    (hs5 : PySem.W.subIn K (.ref e5) (.type "BaseException") = some true)
    (hd5 : PySem.W.hasDictIn K e5 = true)
    (ha5 : PySem.W.findIn K (.ref e5) "__class__" = some (some (.builtin "object.__class__")))
    (hm5 : PySem.W.mroIn K e5 (.type "object") = some true)
    (hv5 : PySem.W.kitOne K (.ref e5) (.type "ValueError") = some true)
    (ht5 : PySem.W.exmOne K (.ref e5) (.ref eT) = some true)
    (o50 : PySem.W.kitOne K (.ref e5) (.ref e0) = some false)
    (o51 : PySem.W.kitOne K (.ref e5) (.ref e1) = some false)
    (o52 : PySem.W.kitOne K (.ref e5) (.ref e2) = some false)
    (o53 : PySem.W.kitOne K (.ref e5) (.ref e3) = some false)
    (o54 : PySem.W.kitOne K (.ref e5) (.ref e4) = some false)
    (o55 : PySem.W.kitOne K (.ref e5) (.ref e5) = some true)
    (eAR : zAR = S [108, 114])
    (eAC : zAC = S [117, 100])
    (eEM : zEM = S [46])
    (eLE : zLE = S letters)
    (eMS : iMS = 8)
    (eMX : iMX = 60)
    (eMR : iMR = ((10 ^ 18 : Nat) : Int))
    (hDC : D ≠ C)
    (h0 : t0 ≠ 0)
    : ∀ base : Heap, K.In base → base.Ns mainGlobals mg → (∀ p ∈ [(cdLr, PLr)], LamX.TabB base mg p.1 p.2) → FnRn (t0 + 1) P w K mg base CX0 10 fa (spLaw5 K [(PLr, "_law_are_rounds.<locals>.<lambda>")]) := by
  intro base _ _ TB
  subst eAR eAC eEM eLE eMS eMX eMR
  have g : ∀ {n : Str} {v : Value}, PySem.W.nsIn K mainGlobals n = some (some v) → mg n = some v := fun e => PySem.W.mg_of X G e
  have g0 : ∀ {n : Str}, PySem.W.nsIn K mainGlobals n = some none → mg n = none := fun e => PySem.W.mg_none_of X G e
  obtain rfl : fLw = fa := by
    have e := hfa.symm.trans (g aLw)
    cases e
    rfl
  have raw0 : ∀ {CX : CXT} {k : Nat} {f : Addr} {fd : FuncData} {ps : List Str} {sp : Sp}, FnOk P w K mg base CX k f fd ps sp → Binds K fd ps [] → FnR P w K mg base CX k f sp := fun F b => (F.raw b .nil).imp fun vs H Q E h => by rw [List.append_nil]; exact h
  have T : TxtW K mg := ⟨g0 b_len, g0 b_isinstance, g0 b_str, g0 b_enumerate, ⟨_, g cAR, _, rfl⟩, ⟨_, g cAC, _, rfl⟩⟩
  have U : TxtT K mg t0 := ⟨g cEM, ⟨_, g cLE, _, rfl⟩, ⟨_, g cMS, _, rfl⟩, g0 b_set, g0 b_zip, g0 b_tuple⟩
  have L : TxtL K mg := ⟨g0 b_int, g0 b_range, g0 b_min⟩
  have clC : Cls K C := ⟨pgC, hdC, poC, saC⟩
  have clD : Cls K D := ⟨pgD, hdD, poD, saD⟩
  have CW : ClsW K mg C := ⟨clC, nT, g aC, .type "type", _, ⟨rdC, gaC⟩, mx, _, rfl⟩
  have CT : ClsT K mg D := ⟨clD, nR, g aD⟩
  have IC : C8.InsC K C := ⟨clC, ih, in_, itk, im, if_pos (by simp)⟩
  have ID : C8.InsC K D := ⟨clD, ihD, in_, itk, imD, if_pos (by simp)⟩
  have FIt := fun_mk (st := sIsTilt) lIt cIt kIt
  have BIt := FIt.binds (ps := ["value"]) fun _ _ _ _ _ _ us hl => match us, hl with | [_], _ => rfl
  have FFw := fun_mk (st := sFirstWrongIndex) lFw cFw kFw
  have BFw := FFw.binds (ps := ["text"]) fun _ _ _ _ _ _ us hl => match us, hl with | [_], _ => rfl
  have FWi := fun_mk (st := sWordInit) lWi cWi kWi
  have BWi := FWi.binds (ps := ["self", "text"]) fun _ _ _ _ _ _ us hl => match us, hl with | [_, _], _ => rfl
  have FWt := fun_mk (st := sWordText) lWt cWt kWt
  have BWt := FWt.binds (ps := ["self"]) fun _ _ _ _ _ _ us hl => match us, hl with | [_], _ => rfl
  have FTo := fun_mk (st := sTrayOfText) lTo cTo kTo
  have BTo := FTo.binds (ps := ["cls", "text"]) fun _ _ _ _ _ _ us hl => match us, hl with | [_, _], _ => rfl
  have FRs := fun_mk (st := sTrayRshift) lRs cRs kRs
  have BRs := FRs.binds (ps := ["self", "other"]) fun _ _ _ _ _ _ us hl => match us, hl with | [_, _], _ => rfl
  have FFc := fun_mk (st := sFirstWrongCell) lFc cFc kFc
  have BFc := FFc.binds (ps := ["rows"]) fun _ _ _ _ _ _ us hl => match us, hl with | [_], _ => rfl
  have FIr := fun_mk (st := sIsRow) lIr cIr kIr
  have BIr := FIr.binds (ps := ["row"]) fun _ _ _ _ _ _ us hl => match us, hl with | [_], _ => rfl
  have FTd := fun_mk (st := sTilted) lTd cTd kTd
  have BTd := FTd.binds (ps := ["rows", "tilt"]) fun _ _ _ _ _ _ us hl => match us, hl with | [_, _], _ => rfl
  have FSl := fun_mk (st := sSlid) lSl cSl kSl
  have BSl := FSl.binds (ps := ["line", "to_beginning"]) fun _ _ _ _ _ _ us hl => match us, hl with | [_, _], _ => rfl
  have FTr := fun_mk (st := sTrayRows) lTr cTr kTr
  have BTr := FTr.binds (ps := ["self"]) fun _ _ _ _ _ _ us hl => match us, hl with | [_], _ => rfl
  have FTe := fun_mk (st := sTrayEq) lTe cTe kTe
  have BTe := FTe.binds (ps := ["self", "other"]) fun _ _ _ _ _ _ us hl => match us, hl with | [_, _], _ => rfl
  have FMb := fun_mk (st := sTrayMarbles) lMb cMb kMb
  have BMb := FMb.binds (ps := ["self"]) fun _ _ _ _ _ _ us hl => match us, hl with | [_], _ => rfl
  have FWd := fun_mk (st := sTrayWidth) lWd cWd kWd
  have BWd := FWd.binds (ps := ["self"]) fun _ _ _ _ _ _ us hl => match us, hl with | [_], _ => rfl
  have FHt := fun_mk (st := sTrayHeight) lHt cHt kHt
  have BHt := FHt.binds (ps := ["self"]) fun _ _ _ _ _ _ us hl => match us, hl with | [_], _ => rfl
  have FTc := fun_mk (st := sTrayContains) lTc cTc kTc
  have BTc := FTc.binds (ps := ["self", "x"]) fun _ _ _ _ _ _ us hl => match us, hl with | [_, _], _ => rfl
  have FCl := fun_mk (st := sTrayCall) lCl cCl kCl
  have BCl := FCl.binds (ps := ["self", "marble"]) fun _ _ _ _ _ _ us hl => match us, hl with | [_, _], _ => rfl
  have FNu := fun_mk (st := sIsNumber) lNu cNu kNu
  have BNu := FNu.binds (ps := ["value", "limit"]) fun _ _ _ _ _ _ us hl => match us, hl with | [_, _], _ => rfl
  have FPl := fun_mk (st := sIsPlace) lPl cPl kPl
  have BPl := FPl.binds (ps := ["value", "height", "width"]) fun _ _ _ _ _ _ us hl => match us, hl with | [_, _, _], _ => rfl
  have FCv := fun_mk (st := sCheckPlace) lCv cCv kCv
  have BCv := FCv.binds (ps := ["tray", "place"]) fun _ _ _ _ _ _ us hl => match us, hl with | [_, _], _ => rfl
  have FAt := fun_mk (st := sTrayAt) lAt cAt kAt
  have BAt := FAt.binds (ps := ["self", "place"]) fun _ _ _ _ _ _ us hl => match us, hl with | [_, _], _ => rfl
  have FCm := fun_mk (st := sCheckMarble) lCm cCm kCm
  have BCm := FCm.binds (ps := ["tray", "marble"]) fun _ _ _ _ _ _ us hl => match us, hl with | [_, _], _ => rfl
  have FCn := fun_mk (st := sCheckNumber) lCn cCn kCn
  have BCn := FCn.binds (ps := ["value", "limit"]) fun _ _ _ _ _ _ us hl => match us, hl with | [_, _], _ => rfl
  have FEx := fun_mk (st := sExchange) lEx cEx kEx
  have BEx := FEx.binds (ps := ["tray", "word"]) fun _ _ _ _ _ _ us hl => match us, hl with | [_, _], _ => rfl
  have FCi := fun_mk (st := sCircles) lCi cCi kCi
  have BCi := FCi.binds (ps := ["tray", "word"]) fun _ _ _ _ _ _ us hl => match us, hl with | [_, _], _ => rfl
  have FCf := fun_mk (st := sCircleFrom) lCf cCf kCf
  have BCf := FCf.binds (ps := ["start", "followers"]) fun _ _ _ _ _ _ us hl => match us, hl with | [_, _], _ => rfl
  have FAr := fun_mk (st := sAfterRounds) lAr cAr kAr
  have BAr := FAr.binds (ps := ["tray", "word", "times"]) fun _ _ _ _ _ _ us hl => match us, hl with | [_, _, _], _ => rfl
  have FBk := fun_mk (st := sBackAfter) lBk cBk kBk
  have BBk := FBk.binds (ps := ["tray", "word"]) fun _ _ _ _ _ _ us hl => match us, hl with | [_, _], _ => rfl
  have FMa := fun_mk (st := sMarbleAfter) lMa cMa kMa
  have BMa := FMa.binds (ps := ["tray", "marble", "word", "times"]) fun _ _ _ _ _ _ us hl => match us, hl with | [_, _, _, _], _ => rfl
  have FIb := fun_mk (st := sIsBack) lIb cIb kIb
  have BIb := FIb.binds (ps := ["tray", "word"]) fun _ _ _ _ _ _ us hl => match us, hl with | [_, _], _ => rfl
  have FTk := fun_mk (st := sLawTaken) lTk cTk kTk
  have BTk := FTk.binds (ps := ["_law_row", "_law_many"]) fun _ _ _ _ _ _ us hl => match us, hl with | [_, _], _ => rfl
  have FAl := fun_mk (st := sLawAlike) lAl cAl kAl
  have BAl := FAl.binds (ps := ["_law_one", "_law_due"]) fun _ _ _ _ _ _ us hl => match us, hl with | [_, _], _ => rfl
  have FRa := fun_mk (st := sLawRaised) lRa cRa kRa
  have BRa := FRa.binds (ps := ["_law_work"]) fun _ _ _ _ _ _ us hl => match us, hl with | [_], _ => rfl
  have FRw := fun_mk (st := sLawRows) lRw cRw kRw
  have BRw := FRw.binds (ps := ["_law_row", "_law_most"]) fun _ _ _ _ _ _ us hl => match us, hl with | [_, _], _ => rfl
  have FTx := fun_mk (st := sLawText) lTx cTx kTx
  have BTx := FTx.binds (ps := ["_law_row", "_law_most"]) fun _ _ _ _ _ _ us hl => match us, hl with | [_, _], _ => rfl
  have FTl := fun_mk (st := sLawTilted) lTl cTl kTl
  have BTl := FTl.binds (ps := ["_law_rows_here", "_law_tilt"]) fun _ _ _ _ _ _ us hl => match us, hl with | [_, _], _ => rfl
  have FAf := fun_mk (st := sLawAfter) lAf cAf kAf
  have BAf := FAf.binds (ps := ["_law_rows_here", "_law_text_here"]) fun _ _ _ _ _ _ us hl => match us, hl with | [_, _], _ => rfl
  have FPs := fun_mk (st := sLawPlaces) lPs cPs kPs
  have BPs := FPs.binds (ps := ["_law_rows_here"]) fun _ _ _ _ _ _ us hl => match us, hl with | [_], _ => rfl
  have FCs := fun_mk (st := sLawCircles) lCs cCs kCs
  have BCs := FCs.binds (ps := ["_law_one", "_law_two"]) fun _ _ _ _ _ _ us hl => match us, hl with | [_, _], _ => rfl
  have FBy := fun_mk (st := sLawBusy) lBy cBy kBy
  have BBy := FBy.binds (ps := ["_law_row"]) fun _ _ _ _ _ _ us hl => match us, hl with | [_], _ => rfl
  have FLr := fun_mk (st := sLawAreRounds) lLr cLr kLr
  have BLr := FLr.binds (ps := ["_law_row", "_law_rows_here", "_law_text_here"]) fun _ _ _ _ _ _ us hl => match us, hl with | [_, _, _], _ => rfl
  have FLw := fun_mk (st := sLaw) lLw cLw kLw
  have BLw := FLw.binds (ps := ["_law_script"]) fun _ _ _ _ _ _ us hl => match us, hl with | [_], _ => rfl
  have FTi := fun_mk (st := sTrayInit) lTi cTi kTi
  have ox2 : OexC K e2 := ⟨⟨nm2, q2, N2, bs2, bm2, sn2, sub2, ab2, col2, dd2, m02, m12, m22, m32, m52, xL2, xb2⟩, xsa2, xex2, xty2, xk2⟩
  have XT2 : ExcT K mg "UnknownMarble" e2 fIx2 := ⟨ox2, g ge2, aIx2, tIx2⟩
  have GIx2 := ok_um (P := P) (w := w) (base := base) (mg := mg) (CX := CX0) lIx2 cIx2 ⟨⟨_, _, _, lIx2⟩, rfl, ⟨_, _, _, _, _, _, kx12, kx22, kx32⟩, ⟨_, _, _, kx42⟩, kx52, kx62, kx72, kx8, kx9⟩ rfl ox2 (g0 b_super) nI3
  have BIx2 : Binds K (PySem.W.fnX "__init__" "UnknownMarble.__init__" (defArgs sUnknownMarbleInit) (defBody sUnknownMarbleInit) (defScope sUnknownMarbleInit) [("__class__", cc2)] .none kVIx2 dcIx2 pmIx2 anIx2 (.ref cdIx2) ctIx2) ["self", "marble"] [] := Binds.all fun us hl => match us, hl with | [_, _], _ => rfl
  have GIt : FnOk P w K mg base CX0 1 fIt _ ["value"] spIt := ok_it FIt T
  have GFw : FnOk P w K mg base CX0 2 fFw _ ["text"] spFwi := ok_fwi FFw T CW FIt BIt (g aIt)
  have GWi : FnOk P w K mg base CX0 3 fWi _ ["self", "text"] (spWi C) := ok_wi FWi CW GFw kFw BFw (g aFw)
  have MC : Mk K C fWi := ⟨mkC, aWi, iWi, kcC⟩
  have scWt : FnScope ["self"] ["self"] (defScope sWordText) := ⟨rfl, rfl, rfl, by decide +kernel, rfl, by decide +kernel, by decide +kernel⟩
  have GWg : FnOk P w K mg base CX0 1 fWt _ ["self"] (getSp C "_text") := fn_getter (k := 0) lWt cWt scWt rfl rfl clC nT
  have PWt : PropOf K C "text" qWt fWt := ⟨pWt, pgtWt, ptkWt, _, aWt⟩
  have GFc : FnOk P w K mg base CX0 2 fFc _ ["rows"] (spFc K) := ok_fc FFc T U FIr BIr (g aIr)
  have GTi := ok_ti (P := P) (w := w) (base := base) FTi CT GFc kFc BFc (g aFc)
  have MD : Mk K D fTi := ⟨mkD, aTi, iTi, kcD⟩
  have GTo : FnOk P w K mg base CX0 5 fTo _ ["cls", "text"] (spOt K D) := ok_ot FTo T MD GTi
  have GSl : FnRn (t0 + 1) P w K mg base CX0 1 fSl spSl := ok_sl FSl T U BSl h0 (Nat.lt_succ_self _)
  have GTd : FnRn (t0 + 1) P w K mg base CX0 2 fTd (spTd K) := ok_td FTd T U BTd GSl kSl (g aSl)
  have eR1 : PySem.dunder Operator.RShift.info.2 = ("__rshift__" : Str) := by decide +kernel
  have eR2 : PySem.dunderR Operator.RShift.info.2 = ("__rrshift__" : Str) := by decide +kernel
  have NO : NoOp K C Operator.RShift.info.2 := ⟨⟨_, nc, nm⟩, by rw [eR1]; exact n1, by rw [eR2]; exact n2, by rw [eR1]; exact n3, by rw [eR2]; exact n4⟩
  have hs : PySem.W.findIn K (.ref D) (PySem.dunder Operator.RShift.info.2) = some (some (.ref fRs)) := by rw [eR1]; exact aRs
  have GRs : FnRn (t0 + 1) P w K mg base CX0 5 fRs (spRs K C D) := ok_rs FRs T CW CT IC BRs PWt GWg BWt GTd kTd (g aTd) MD GTi
  have scTr : FnScope ["self"] ["self"] (defScope sTrayRows) := ⟨rfl, rfl, rfl, by decide +kernel, rfl, by decide +kernel, by decide +kernel⟩
  have GTr : FnOk P w K mg base CX0 1 fTr _ ["self"] (getSp D "_rows") := fn_getter (k := 0) lTr cTr scTr rfl rfl clD nR
  have PTr : PropOf K D "rows" qTr fTr := ⟨pTr, pgtTr, ptkTr, _, aTr⟩
  have GTe : FnOk P w K mg base CX0 1 fTe _ ["self", "other"] (TW.spTe K D) := TW.ok_te FTe T CT ID
  have GTf := raw0 GTe BTe
  have TM_ : TxtM K mg := ⟨⟨_, g cEM, _, rfl⟩, g0 b_sorted, g0 b_len⟩
  have PMb : PropOf K D "marbles" qMb fMb := ⟨pMb, pgtMb, ptkMb, _, aMb⟩
  have PHt : PropOf K D "height" qHt fHt := ⟨pHt, pgtHt, ptkHt, _, aHt⟩
  have PWd : PropOf K D "width" qWd fWd := ⟨pWd, pgtWd, ptkWd, _, aWd⟩
  have GMb : FnOk P w K mg base CX0 1 fMb _ ["self"] (spMb K D) := ok_mb FMb TM_ CT
  have GHt : FnOk P w K mg base CX0 1 fHt _ ["self"] (spHt K D) := ok_ht FHt TM_ CT
  have GWd : FnOk P w K mg base CX0 1 fWd _ ["self"] (spWd K D) := ok_wd FWd TM_ CT
  have GTc : FnOk P w K mg base CX0 3 fTc _ ["self", "x"] (spTc K D) := ok_tc FTc T CT PMb GMb BMb
  have GCl : FnOk P w K mg base (L2.CX P w) 4 fCl _ ["self", "marble"] (spCl K D e2) := ok_cl FCl CT (g0 b_divmod) aTc iTc (raw0 GTc BTc) PWd GWd BWd XT2 GIx2 BIx2
  have CO : StX.CallO K D fCl := ⟨aCl, iCl, fnCl⟩
  have GC := raw0 GCl BCl
  have N : TA.TxtN K mg := ⟨g0 b_isinstance, g0 b_bool, g0 b_int⟩
  have TP_ : TxtP K mg := ⟨g0 b_isinstance, g0 b_tuple, g0 b_len⟩
  have XN3 : TA.ExN K mg "InvalidPlace" e3 := ⟨q3, g ge3, k3, hs_3, t3⟩
  have GNu : FnOk P w K mg base CX0 1 fNu _ ["value", "limit"] (TA.spNum K) := TA.ok_num FNu N
  have GPl : FnOk P w K mg base CX0 2 fPl _ ["value", "height", "width"] (spPl K) := ok_pl FPl TP_ GNu kNu BNu (g aNu)
  have GCv : FnOk P w K mg base (L2.CX P w) 3 fCv _ ["tray", "place"] (spCp K D e3) := ok_cp FCv CT GPl kPl BPl (g aPl) PHt GHt BHt PWd GWd BWd XN3
  have GAt : FnOk P w K mg base (L2.CX P w) 4 fAt _ ["self", "place"] (spAt K D e3) := ok_at FAt TM_ CT GCv kCv BCv (g aCv)
  have TR_ : TxtR K mg := ⟨⟨_, g cEM, _, rfl⟩, ⟨_, g cMR, _, rfl⟩, g0 b_range, g0 b_int, g0 b_len⟩
  have GCn : FnOk P w K mg base CX0 2 fCn _ ["value", "limit"] spCn := ok_cn FCn GNu kNu BNu (g aNu)
  have GEx : FnRn (t0 + 1) P w K mg base CX0 6 fEx (spEx K C D) := ok_ex FEx BEx hDC CT sf NO hs iRs GRs PMb GMb BMb CO GC
  have GCf : FnOk P w K mg base CX0 1 fCf _ ["start", "followers"] (spCf K) := ok_cf FCf
  have GCi : FnRn (t0 + 1) P w K mg base CX0 6 fCi (spCi K C D) := ok_ci FCi BCi (g0 b_set) hDC CT sf NO hs iRs GRs PMb GMb BMb CO GC ⟨aAt, iAt, kAt⟩ GAt BAt GCf kCf BCf (g aCf)
  have GAr : FnRn (t0 + 1) P w K mg base CX0 7 fAr (spAr K C D) := ok_ar FAr BAr TR_ hDC CT sf NO hs iRs GRs PMb GMb BMb PHt GHt BHt PWd GWd BWd CO GC GEx kEx (g aEx) GCf kCf BCf (g aCf) GCn kCn BCn (g aCn) MD GTi
  have GBk : FnRn (t0 + 1) P w K mg base CX0 7 fBk (spBk K C D) := ok_bk FBk BBk (g0 b_len) (g lcm) GCi kCi (g aCi)
  have GTk : ∀ a ns, FnOk P w K mg base CX0 1 fTk _ ["_law_row", "_law_many"] (spTk K a ns) := fun a ns => ok_tk FTk T L
  have GTx : ∀ a ns, FnOk P w K mg base CX0 2 fTx _ ["_law_row", "_law_most"] (spTx K a ns) := fun a ns => ok_tx FTx L (GTk a ns) kTk BTk (g aTk)
  have GRw : ∀ a ns, FnOk P w K mg base CX0 2 fRw _ ["_law_row", "_law_most"] (spRw K a ns) := fun a ns => ok_rw FRw T L (GTk a ns) kTk BTk (g aTk)
  have GRwN : ∀ a ns, FnOk P w K mg base CX0 2 fRw _ ["_law_row", "_law_most"] (spRwN K a ns) := fun a ns => ok_rwN FRw T L (GTk a ns) kTk BTk (g aTk)
  have A : TA.TxtA K mg := by constructor <;> first | exact g0 b_isinstance | exact g0 b_tuple | exact g0 b_list | exact g0 b_bool | exact g0 b_len | exact g0 b_range
  have E : TA.TxtE K mg (TK.ceF e0 e1 e2 e3 e4 e5) eT := { g0 := g ge0, g1 := g ge1, g2 := g ge2, g3 := g ge3, g4 := g ge4, g5 := g ge5, gT := g geT, isi := g0 b_isinstance, ve := g0 b_ValueError, x0 := ⟨hg0, hk0, hs0, hd0⟩, x1 := ⟨hg1, hk1, hs1, hd1⟩, x2 := ⟨hg2, hk2, hs2, hd2⟩, n0 := nI0, n1 := nI1, n2 := nI2, n3 := nI3, xc := TA.six_all ⟨hg0, hk0, hs0, hd0, ha0, in_, itk, hm0⟩ ⟨hg1, hk1, hs1, hd1, ha1, in_, itk, hm1⟩ ⟨hg2, hk2, hs2, hd2, ha2, in_, itk, hm2⟩ ⟨hg3, hk3, hs3, hd3, ha3, in_, itk, hm3⟩ ⟨hg4, hk4, hs4, hd4, ha4, in_, itk, hm4⟩ ⟨hg5, hk5, hs5, hd5, ha5, in_, itk, hm5⟩, one := TK.six_two (TA.six_all o00 o01 o02 o03 o04 o05) (TA.six_all o10 o11 o12 o13 o14 o15) (TA.six_all o20 o21 o22 o23 o24 o25) (TA.six_all o30 o31 o32 o33 o34 o35) (TA.six_all o40 o41 o42 o43 o44 o45) (TA.six_all o50 o51 o52 o53 o54 o55), isv := TA.six_all hv0 hv1 hv2 hv3 hv4 hv5, ism := TA.six_all ht0 ht1 ht2 ht3 ht4 ht5 }
  have XN4 : TA.ExN K mg "InvalidNumber" e4 := ⟨q4, g ge4, k4, hs_4, t4⟩
  have GCm : FnOk P w K mg base CX0 4 fCm _ ["tray", "marble"] (spCm K D) := ok_cm FCm aTc iTc (raw0 GTc BTc)
  have GMa : FnRn (t0 + 1) P w K mg base CX0 8 fMa (spMa K C D) := ok_ma FMa BMa GCm kCm BCm (g aCm) GAr kAr (g aAr) CO GC
  have GIb : FnRn (t0 + 1) P w K mg base CX0 8 fIb (spIb K C D) := ok_ib FIb BIb GAr kAr (g aAr) GBk kBk (g aBk) aTe iTe GTf
  have GCnX : FnOk P w K mg base (L2.CX P w) 2 fCn _ ["value", "limit"] (spCnX K e4) := ok_cnX FCn GNu kNu BNu (g aNu) XN4
  have GCmX : FnOk P w K mg base (L2.CX P w) 4 fCm _ ["tray", "marble"] (spCmX K D e2) := ok_cmX FCm aTc iTc (raw0 GTc BTc) XT2 GIx2 BIx2
  have GArX : FnOk P w K mg base (L2.CX P w) 3 fAr _ ["tray", "word", "times"] (spArX K e4) := ok_arX FAr TR_ GCnX kCn BCn (g aCn)
  have GMaX : FnOk P w K mg base (L2.CX P w) 5 fMa _ ["tray", "marble", "word", "times"] (spMaX K D e2 e4) := ok_maX FMa GCmX kCm BCm (g aCm) GArX kAr BAr (g aAr)
  have TS_ : TxtS K mg := by constructor <;> first | exact g0 b_len | exact g0 b_range | exact g0 b_list
  have GTl := ok_tl (P := P) (w := w) (base := base) FTl TS_
  have GAf : FnOk P w K mg base CX0 2 fAf _ ["_law_rows_here", "_law_text_here"] (spAf5 K) := ok_af5 FAf GTl kTl BTl (g aTl)
  have TQ_ : TxtQ mg := ⟨g0 b_len, g0 b_range⟩
  have GPs : FnOk P w K mg base CX0 1 fPs _ ["_law_rows_here"] (spPs K) := ok_ps FPs TQ_
  have GCs : FnOk P w K mg base CX0 2 fCs _ ["_law_one", "_law_two"] (spCs K) := ok_cs FCs (g0 b_sorted) GPs kPs BPs (g aPs)
  have GBy : ∀ a ns, FnOk P w K mg base CX0 3 fBy _ ["_law_row"] (spBy K a ns) := fun a ns => ok_by FBy T L (GTk a ns) kTk BTk (g aTk)
  have GAl : FnOk P w K mg base CX0 5 fAl _ ["_law_one", "_law_due"] (TA.spAl K 4) := TA.ok_al FAl A BAl (g aAl) 4
  have LF : LrF P w K mg base (t0 + 1) C D e2 e4 (TK.ceF e0 e1 e2 e3 e4 e5) eT [(PLr, "_law_are_rounds.<locals>.<lambda>")] cdLr PLr := { txt := T, al := A, srt := g0 b_sorted, dct := g0 b_dict, cw := CW, ct := CT, te := E, cu := rfl, cn := rfl, fR := ⟨_, _, FRa, BRa, g aRa⟩, tb := TB _ (List.mem_singleton.mpr rfl), tm := List.mem_singleton.mpr rfl, tu := fun p hp _ => by rw [List.mem_singleton.mp hp], fTk := ⟨_, _, GTk, kTk, BTk, g aTk⟩, fAf := ⟨_, _, GAf, kAf, BAf, g aAf⟩, fPs := ⟨_, _, GPs, kPs, BPs, g aPs⟩, fCs := ⟨_, _, GCs, kCs, BCs, g aCs⟩, fAl := ⟨_, _, GAl, kAl, BAl, g aAl⟩, mw := ⟨_, _, MC, GWi, BWi⟩, ot := ⟨_, _, _, ⟨rdD, gaD⟩, ⟨pTo, ⟨_, aTo⟩, fiTo⟩, raw0 GTo BTo⟩, pRo := ⟨_, _, _, PTr, GTr, BTr⟩, fAr := ⟨_, _, GAr, GArX, kAr, BAr, g aAr⟩, fMa := ⟨_, _, GMa, GMaX, kMa, BMa, g aMa⟩, fCi := ⟨_, GCi, kCi, g aCi⟩, fEx := ⟨_, GEx, kEx, g aEx⟩, fBk := ⟨_, GBk, kBk, g aBk⟩, fIb := ⟨_, GIb, kIb, g aIb⟩ }
  have GLr : ∀ a ns, FnRn (t0 + 1) P w K mg base CX0 9 fLr (spLr K [(PLr, "_law_are_rounds.<locals>.<lambda>")] a ns) := fun a ns => ok_lr lLr cLr BLr LF a ns
  exact ok_law5 FLw BLw (g0 b_range) GTx kTx BTx (g aTx) GRwN kRw BRw (g aRw) GBy kBy BBy (g aBy) GLr kLr (g aLr)
end TR
end
set_option Elab.async false
open PySem PySem.W PySem.W.X PySem.W.ZRun PyProof.Rows
set_option maxRecDepth 100000 in
set_option maxHeartbeats 0 in
theorem PySem.Challenge.cw_tiltheap_k05_rounds_of_a_word_holds : PySem.Challenge.rw_tiltheap_k05_rounds_of_a_word.Holds := by
  w_on; o_law; z_head; (case hw => w_witness2)
  k_fill
  intro w s₀ s₁ mg mb G y fa o pm cd doc dV kV ho hd hcd hD hmg hg args vals as L hpre hlay hrd hwl hlo
  z_open y L KX ZH ZN ZT
  have hmg' : mg (PySem.Str.ofString "law") = some (Value.ref fa) := hmg
  clear y ZH ZN hlay hrd hlo hd hcd hD ho hmg
  refine' TK.end_nkT (k := 10) (cs := [(_, _)]) (l := PySem.Challenge.rw_tiltheap_k05_rounds_of_a_word) ⟨rfl, by decide, by decide⟩ (fun a ns H hT hS => ⟨a, ns, rfl, hS, TK.tabs_all ["_law_are_rounds.<locals>.<lambda>"] hT rfl, fun _ => rfl⟩) rfl (TK.lessT_in (ts := [?PPLr]) KX) G.T.g G.T.b G.T.builtins G.T.nolimit hg G.T.bmain (TK.tabs_cons (n := "_law_are_rounds") (q := "_law_are_rounds") (st := TK.sLawAreRounds) (P := ?PPLr) KX ?taLr ?tlLr ?tvLr ?tpLr ?tzLr ?tHLr ?ttLr TK.tabs_nil) L ZT ?hn hpre hwl (TR.all_mk (TK.lessT_in (ts := [?PPLr]) KX) G.T.g hmg' ?aC ?pgC ?hdC ?poC ?saC ?mkC ?kcC ?rdC ?gaC ?aD ?pgD ?hdD ?poD ?saD ?mkD ?kcD ?rdD ?gaD ?cAR ?cAC ?cEM ?cLE ?cMS ?nT ?nR ?ih ?in_ ?itk ?im ?ihD ?imD ?mx ?b_len ?b_isinstance ?b_str ?b_enumerate ?b_set ?b_zip ?b_tuple ?b_int ?b_range ?b_min ?b_list ?b_bool ?b_dict ?b_sorted ?b_divmod ?b_super ?b_ValueError ?aIt ?lIt ?cIt ?kIt ?aFw ?lFw ?cFw ?kFw ?aWi ?iWi ?lWi ?cWi ?kWi ?pWt ?pgtWt ?ptkWt ?aWt ?lWt ?cWt ?kWt ?aTi ?iTi ?lTi ?cTi ?kTi ?pTo ?aTo ?fiTo ?lTo ?cTo ?kTo ?aRs ?iRs ?lRs ?cRs ?kRs ?aFc ?lFc ?cFc ?kFc ?aIr ?lIr ?cIr ?kIr ?aTd ?lTd ?cTd ?kTd ?aSl ?lSl ?cSl ?kSl ?pTr ?pgtTr ?ptkTr ?aTr ?lTr ?cTr ?kTr ?aTe ?iTe ?lTe ?cTe ?kTe ?pMb ?pgtMb ?ptkMb ?aMb ?lMb ?cMb ?kMb ?pWd ?pgtWd ?ptkWd ?aWd ?lWd ?cWd ?kWd ?pHt ?pgtHt ?ptkHt ?aHt ?lHt ?cHt ?kHt ?aTc ?iTc ?lTc ?cTc ?kTc ?aCl ?iCl ?lCl ?cCl ?kCl ?fnCl ?aNu ?lNu ?cNu ?kNu ?aPl ?lPl ?cPl ?kPl ?aCv ?lCv ?cCv ?kCv ?aAt ?iAt ?lAt ?cAt ?kAt ?aCm ?lCm ?cCm ?kCm ?aCn ?lCn ?cCn ?kCn ?aEx ?lEx ?cEx ?kEx ?aCi ?lCi ?cCi ?kCi ?aCf ?lCf ?cCf ?kCf ?aAr ?lAr ?cAr ?kAr ?aBk ?lBk ?cBk ?kBk ?cMR ?lcm ?sf ?nc ?nm ?n1 ?n2 ?n3 ?n4 ?aMa ?lMa ?cMa ?kMa ?aIb ?lIb ?cIb ?kIb ?aTk ?lTk ?cTk ?kTk ?aAl ?lAl ?cAl ?kAl ?aRa ?lRa ?cRa ?kRa ?aRw ?lRw ?cRw ?kRw ?aTx ?lTx ?cTx ?kTx ?aTl ?lTl ?cTl ?kTl ?aAf ?lAf ?cAf ?kAf ?aPs ?lPs ?cPs ?kPs ?aCs ?lCs ?cCs ?kCs ?aBy ?lBy ?cBy ?kBy ?aLr ?lLr ?cLr ?kLr ?aLw ?lLw ?cLw ?kLw ?ge2 ?xL2 ?xb2 ?xsa2 ?xex2 ?xty2 ?xk2 ?aIx2 ?tIx2 ?lIx2 ?cIx2 ?kx12 ?kx22 ?kx32 ?kx42 ?kx52 ?kx62 ?kx72 ?nI3 ?kx8 ?kx9 ?ge3 ?q3 ?k3 ?t3 ?hs_3 ?ge4 ?q4 ?k4 ?t4 ?hs_4 ?geT ?ge0 ?ge1 ?ge5 ?nI0 ?nI1 ?nI2 ?hg0 ?hk0 ?hs0 ?hd0 ?ha0 ?hm0 ?hv0 ?ht0 ?o00 ?o01 ?o02 ?o03 ?o04 ?o05 ?hg1 ?hk1 ?hs1 ?hd1 ?ha1 ?hm1 ?hv1 ?ht1 ?o10 ?o11 ?o12 ?o13 ?o14 ?o15 ?hg2 ?hk2 ?hs2 ?hd2 ?ha2 ?hm2 ?hv2 ?ht2 ?o20 ?o21 ?o22 ?o23 ?o24 ?o25 ?hg3 ?hk3 ?hs3 ?hd3 ?ha3 ?hm3 ?hv3 ?ht3 ?o30 ?o31 ?o32 ?o33 ?o34 ?o35 ?hg4 ?hk4 ?hs4 ?hd4 ?ha4 ?hm4 ?hv4 ?ht4 ?o40 ?o41 ?o42 ?o43 ?o44 ?o45 ?hg5 ?hk5 ?hs5 ?hd5 ?ha5 ?hm5 ?hv5 ?ht5 ?o50 ?o51 ?o52 ?o53 ?o54 ?o55 ?eAR ?eAC ?eEM ?eLE ?eMS ?eMX ?eMR ?hDC ?h0)
  (case taLr => k_is)
  (case tlLr => k_is)
  (case tvLr => k_is)
  (case tpLr => rfl)
  (case tzLr => k_is)
  (case tHLr => kernel_rfl)
  (case ttLr => first | rfl | decide)
  (case aC => exact TK.via KX (f := fun K => PySem.W.nsIn K mainGlobals "Word") (by k_is : PySem.W.nsIn _ mainGlobals "Word" = _) (by kernel_rfl))
  (case pgC => exact TK.via KX (f := fun K => PySem.W.plainGet K _ Str.empty) (by k_is : PySem.W.plainGet _ _ Str.empty = _) (by kernel_rfl))
  (case hdC => exact TK.via KX (f := fun K => PySem.W.hasDictIn K _) (by k_is : PySem.W.hasDictIn _ _ = _) (by kernel_rfl))
  (case poC => exact TK.via KX (f := fun K => PySem.W.plainOver K _) (by k_is : PySem.W.plainOver _ _ = _) (by kernel_rfl))
  (case saC => exact TK.via KX (f := fun K => PySem.W.findIn K (.ref _) "__setattr__") (by k_is : PySem.W.findIn _ (.ref _) "__setattr__" = _) (by kernel_rfl))
  (case mkC => exact TK.via KX (f := fun K => PySem.W.makesIn K _) (by k_is : PySem.W.makesIn _ _ = _) (by kernel_rfl))
  (case kcC => exact TK.via KX (f := fun K => PySem.W.keepIn K (.ref _)) (by k_is : PySem.W.keepIn _ (.ref _) = _) (by kernel_rfl))
  (case rdC => exact TK.via KX (f := fun K => PySem.W.readsIn K _ (.type "type")) (by k_is : PySem.W.readsIn _ _ (.type "type") = _) (by kernel_rfl))
  (case gaC => exact TK.via KX (f := fun K => PySem.W.specialIn K (.ref _) "__getattribute__") (by k_is : PySem.W.specialIn _ (.ref _) "__getattribute__" = _) (by kernel_rfl))
  (case aD => exact TK.via KX (f := fun K => PySem.W.nsIn K mainGlobals "Tray") (by k_is : PySem.W.nsIn _ mainGlobals "Tray" = _) (by kernel_rfl))
  (case pgD => exact TK.via KX (f := fun K => PySem.W.plainGet K _ Str.empty) (by k_is : PySem.W.plainGet _ _ Str.empty = _) (by kernel_rfl))
  (case hdD => exact TK.via KX (f := fun K => PySem.W.hasDictIn K _) (by k_is : PySem.W.hasDictIn _ _ = _) (by kernel_rfl))
  (case poD => exact TK.via KX (f := fun K => PySem.W.plainOver K _) (by k_is : PySem.W.plainOver _ _ = _) (by kernel_rfl))
  (case saD => exact TK.via KX (f := fun K => PySem.W.findIn K (.ref _) "__setattr__") (by k_is : PySem.W.findIn _ (.ref _) "__setattr__" = _) (by kernel_rfl))
  (case mkD => exact TK.via KX (f := fun K => PySem.W.makesIn K _) (by k_is : PySem.W.makesIn _ _ = _) (by kernel_rfl))
  (case kcD => exact TK.via KX (f := fun K => PySem.W.keepIn K (.ref _)) (by k_is : PySem.W.keepIn _ (.ref _) = _) (by kernel_rfl))
  (case rdD => exact TK.via KX (f := fun K => PySem.W.readsIn K _ (.type "type")) (by k_is : PySem.W.readsIn _ _ (.type "type") = _) (by kernel_rfl))
  (case gaD => exact TK.via KX (f := fun K => PySem.W.specialIn K (.ref _) "__getattribute__") (by k_is : PySem.W.specialIn _ (.ref _) "__getattribute__" = _) (by kernel_rfl))
  (case cAR => exact TK.via KX (f := fun K => PySem.W.nsIn K mainGlobals "ALONG_ROWS") (by k_is : PySem.W.nsIn _ mainGlobals "ALONG_ROWS" = _) (by kernel_rfl))
  (case cAC => exact TK.via KX (f := fun K => PySem.W.nsIn K mainGlobals "ALONG_COLUMNS") (by k_is : PySem.W.nsIn _ mainGlobals "ALONG_COLUMNS" = _) (by kernel_rfl))
  (case cEM => exact TK.via KX (f := fun K => PySem.W.nsIn K mainGlobals "EMPTY") (by k_is : PySem.W.nsIn _ mainGlobals "EMPTY" = _) (by kernel_rfl))
  (case cLE => exact TK.via KX (f := fun K => PySem.W.nsIn K mainGlobals "LETTERS") (by k_is : PySem.W.nsIn _ mainGlobals "LETTERS" = _) (by kernel_rfl))
  (case cMS => exact TK.via KX (f := fun K => PySem.W.nsIn K mainGlobals "MAX_SIDE") (by k_is : PySem.W.nsIn _ mainGlobals "MAX_SIDE" = _) (by kernel_rfl))
  (case nT => exact TK.via KX (f := fun K => PySem.W.findIn K (.ref _) "_text") (by k_is : PySem.W.findIn _ (.ref _) "_text" = _) (by kernel_rfl))
  (case nR => exact TK.via KX (f := fun K => PySem.W.findIn K (.ref _) "_rows") (by k_is : PySem.W.findIn _ (.ref _) "_rows" = _) (by kernel_rfl))
  (case ih => exact TK.via KX (f := fun K => PySem.W.findIn K (.ref _) "__class__") (by k_is : PySem.W.findIn _ (.ref _) "__class__" = _) (by kernel_rfl))
  (case in_ => exact TK.via KX (f := fun K => PySem.W.specialIn K (.builtin "object.__class__") "__get__") (by k_is : PySem.W.specialIn _ (.builtin "object.__class__") "__get__" = _) (by kernel_rfl))
  (case itk => exact TK.via KX (f := fun K => PySem.W.takesIn K (.builtin "object.__class__")) (by k_is : PySem.W.takesIn _ (.builtin "object.__class__") = _) (by kernel_rfl))
  (case im => exact TK.via KX (f := fun K => PySem.W.mroIn K _ (.type "object")) (by k_is : PySem.W.mroIn _ _ (.type "object") = _) (by kernel_rfl))
  (case ihD => exact TK.via KX (f := fun K => PySem.W.findIn K (.ref _) "__class__") (by k_is : PySem.W.findIn _ (.ref _) "__class__" = _) (by kernel_rfl))
  (case imD => exact TK.via KX (f := fun K => PySem.W.mroIn K _ (.type "object")) (by k_is : PySem.W.mroIn _ _ (.type "object") = _) (by kernel_rfl))
  (case mx => exact TK.via KX (f := fun K => PySem.W.findCls K (.ref _) (.type "type") "MAX_TILTS") (by k_is : PySem.W.findCls _ (.ref _) (.type "type") "MAX_TILTS" = _) (by kernel_rfl))
  (case b_len => exact TK.via KX (f := fun K => PySem.W.nsIn K mainGlobals "len") (by k_is : PySem.W.nsIn _ mainGlobals "len" = _) (by kernel_rfl))
  (case b_isinstance => exact TK.via KX (f := fun K => PySem.W.nsIn K mainGlobals "isinstance") (by k_is : PySem.W.nsIn _ mainGlobals "isinstance" = _) (by kernel_rfl))
  (case b_str => exact TK.via KX (f := fun K => PySem.W.nsIn K mainGlobals "str") (by k_is : PySem.W.nsIn _ mainGlobals "str" = _) (by kernel_rfl))
  (case b_enumerate => exact TK.via KX (f := fun K => PySem.W.nsIn K mainGlobals "enumerate") (by k_is : PySem.W.nsIn _ mainGlobals "enumerate" = _) (by kernel_rfl))
  (case b_set => exact TK.via KX (f := fun K => PySem.W.nsIn K mainGlobals "set") (by k_is : PySem.W.nsIn _ mainGlobals "set" = _) (by kernel_rfl))
  (case b_zip => exact TK.via KX (f := fun K => PySem.W.nsIn K mainGlobals "zip") (by k_is : PySem.W.nsIn _ mainGlobals "zip" = _) (by kernel_rfl))
  (case b_tuple => exact TK.via KX (f := fun K => PySem.W.nsIn K mainGlobals "tuple") (by k_is : PySem.W.nsIn _ mainGlobals "tuple" = _) (by kernel_rfl))
  (case b_int => exact TK.via KX (f := fun K => PySem.W.nsIn K mainGlobals "int") (by k_is : PySem.W.nsIn _ mainGlobals "int" = _) (by kernel_rfl))
  (case b_range => exact TK.via KX (f := fun K => PySem.W.nsIn K mainGlobals "range") (by k_is : PySem.W.nsIn _ mainGlobals "range" = _) (by kernel_rfl))
  (case b_min => exact TK.via KX (f := fun K => PySem.W.nsIn K mainGlobals "min") (by k_is : PySem.W.nsIn _ mainGlobals "min" = _) (by kernel_rfl))
  (case b_list => exact TK.via KX (f := fun K => PySem.W.nsIn K mainGlobals "list") (by k_is : PySem.W.nsIn _ mainGlobals "list" = _) (by kernel_rfl))
  (case b_bool => exact TK.via KX (f := fun K => PySem.W.nsIn K mainGlobals "bool") (by k_is : PySem.W.nsIn _ mainGlobals "bool" = _) (by kernel_rfl))
  (case b_dict => exact TK.via KX (f := fun K => PySem.W.nsIn K mainGlobals "dict") (by k_is : PySem.W.nsIn _ mainGlobals "dict" = _) (by kernel_rfl))
  (case b_sorted => exact TK.via KX (f := fun K => PySem.W.nsIn K mainGlobals "sorted") (by k_is : PySem.W.nsIn _ mainGlobals "sorted" = _) (by kernel_rfl))
  (case b_divmod => exact TK.via KX (f := fun K => PySem.W.nsIn K mainGlobals "divmod") (by k_is : PySem.W.nsIn _ mainGlobals "divmod" = _) (by kernel_rfl))
  (case b_super => exact TK.via KX (f := fun K => PySem.W.nsIn K mainGlobals "super") (by k_is : PySem.W.nsIn _ mainGlobals "super" = _) (by kernel_rfl))
  (case b_ValueError => exact TK.via KX (f := fun K => PySem.W.nsIn K mainGlobals "ValueError") (by k_is : PySem.W.nsIn _ mainGlobals "ValueError" = _) (by kernel_rfl))
  (case aIt => exact TK.via KX (f := fun K => PySem.W.nsIn K mainGlobals "is_tilt") (by k_is : PySem.W.nsIn _ mainGlobals "is_tilt" = _) (by kernel_rfl))
  (case lIt => exact TK.via KX (f := fun K => K.lookup _) (by k_is : List.lookup _ _ = _) (by kernel_rfl))
  (case cIt => exact TK.via KX (f := fun K => PySem.W.codeIn K _ "is_tilt") (by k_is : PySem.W.codeIn _ _ "is_tilt" = _) (by kernel_rfl))
  (case kIt => exact TK.via KX (f := fun K => PySem.W.keepIn K (.ref _)) (by k_is : PySem.W.keepIn _ (.ref _) = _) (by kernel_rfl))
  (case aFw => exact TK.via KX (f := fun K => PySem.W.nsIn K mainGlobals "_first_wrong_index") (by k_is : PySem.W.nsIn _ mainGlobals "_first_wrong_index" = _) (by kernel_rfl))
  (case lFw => exact TK.via KX (f := fun K => K.lookup _) (by k_is : List.lookup _ _ = _) (by kernel_rfl))
  (case cFw => exact TK.via KX (f := fun K => PySem.W.codeIn K _ "_first_wrong_index") (by k_is : PySem.W.codeIn _ _ "_first_wrong_index" = _) (by kernel_rfl))
  (case kFw => exact TK.via KX (f := fun K => PySem.W.keepIn K (.ref _)) (by k_is : PySem.W.keepIn _ (.ref _) = _) (by kernel_rfl))
  (case aWi => exact TK.via KX (f := fun K => PySem.W.findIn K (.ref _) "__init__") (by k_is : PySem.W.findIn _ (.ref _) "__init__" = _) (by kernel_rfl))
  (case iWi => exact TK.via KX (f := fun K => PySem.W.isFn K (.ref _)) (by k_is : PySem.W.isFn _ (.ref _) = _) (by kernel_rfl))
  (case lWi => exact TK.via KX (f := fun K => K.lookup _) (by k_is : List.lookup _ _ = _) (by kernel_rfl))
  (case cWi => exact TK.via KX (f := fun K => PySem.W.codeIn K _ "Word.__init__") (by k_is : PySem.W.codeIn _ _ "Word.__init__" = _) (by kernel_rfl))
  (case kWi => exact TK.via KX (f := fun K => PySem.W.keepIn K (.ref _)) (by k_is : PySem.W.keepIn _ (.ref _) = _) (by kernel_rfl))
  (case pWt => exact TK.via KX (f := fun K => PySem.W.findIn K (.ref _) "text") (by k_is : PySem.W.findIn _ (.ref _) "text" = _) (by kernel_rfl))
  (case pgtWt => exact TK.via KX (f := fun K => PySem.W.specialIn K (.ref _) "__get__") (by k_is : PySem.W.specialIn _ (.ref _) "__get__" = _) (by kernel_rfl))
  (case ptkWt => exact TK.via KX (f := fun K => PySem.W.takesIn K (.ref _)) (by k_is : PySem.W.takesIn _ (.ref _) = _) (by kernel_rfl))
  (case aWt => exact TK.via KX (f := fun K => PySem.W.recIn K _ "property") (by k_is : PySem.W.recIn _ _ "property" = _) (by kernel_rfl))
  (case lWt => exact TK.via KX (f := fun K => K.lookup _) (by k_is : List.lookup _ _ = _) (by kernel_rfl))
  (case cWt => exact TK.via KX (f := fun K => PySem.W.codeIn K _ "Word.text") (by k_is : PySem.W.codeIn _ _ "Word.text" = _) (by kernel_rfl))
  (case kWt => exact TK.via KX (f := fun K => PySem.W.keepIn K (.ref _)) (by k_is : PySem.W.keepIn _ (.ref _) = _) (by kernel_rfl))
  (case aTi => exact TK.via KX (f := fun K => PySem.W.findIn K (.ref _) "__init__") (by k_is : PySem.W.findIn _ (.ref _) "__init__" = _) (by kernel_rfl))
  (case iTi => exact TK.via KX (f := fun K => PySem.W.isFn K (.ref _)) (by k_is : PySem.W.isFn _ (.ref _) = _) (by kernel_rfl))
  (case lTi => exact TK.via KX (f := fun K => K.lookup _) (by k_is : List.lookup _ _ = _) (by kernel_rfl))
  (case cTi => exact TK.via KX (f := fun K => PySem.W.codeIn K _ "Tray.__init__") (by k_is : PySem.W.codeIn _ _ "Tray.__init__" = _) (by kernel_rfl))
  (case kTi => exact TK.via KX (f := fun K => PySem.W.keepIn K (.ref _)) (by k_is : PySem.W.keepIn _ (.ref _) = _) (by kernel_rfl))
  (case pTo => exact TK.via KX (f := fun K => PySem.W.findCls K (.ref _) (.type "type") "of_text") (by k_is : PySem.W.findCls _ (.ref _) (.type "type") "of_text" = _) (by kernel_rfl))
  (case aTo => exact TK.via KX (f := fun K => PySem.W.recIn K _ "classmethod") (by k_is : PySem.W.recIn _ _ "classmethod" = _) (by kernel_rfl))
  (case fiTo => exact TK.via KX (f := fun K => PySem.W.fnIn K _) (by k_is : PySem.W.fnIn _ _ = _) (by kernel_rfl))
  (case lTo => exact TK.via KX (f := fun K => K.lookup _) (by k_is : List.lookup _ _ = _) (by kernel_rfl))
  (case cTo => exact TK.via KX (f := fun K => PySem.W.codeIn K _ "Tray.of_text") (by k_is : PySem.W.codeIn _ _ "Tray.of_text" = _) (by kernel_rfl))
  (case kTo => exact TK.via KX (f := fun K => PySem.W.keepIn K (.ref _)) (by k_is : PySem.W.keepIn _ (.ref _) = _) (by kernel_rfl))
  (case aRs => exact TK.via KX (f := fun K => PySem.W.findIn K (.ref _) "__rshift__") (by k_is : PySem.W.findIn _ (.ref _) "__rshift__" = _) (by kernel_rfl))
  (case iRs => exact TK.via KX (f := fun K => PySem.W.isFn K (.ref _)) (by k_is : PySem.W.isFn _ (.ref _) = _) (by kernel_rfl))
  (case lRs => exact TK.via KX (f := fun K => K.lookup _) (by k_is : List.lookup _ _ = _) (by kernel_rfl))
  (case cRs => exact TK.via KX (f := fun K => PySem.W.codeIn K _ "Tray.__rshift__") (by k_is : PySem.W.codeIn _ _ "Tray.__rshift__" = _) (by kernel_rfl))
  (case kRs => exact TK.via KX (f := fun K => PySem.W.keepIn K (.ref _)) (by k_is : PySem.W.keepIn _ (.ref _) = _) (by kernel_rfl))
  (case aFc => exact TK.via KX (f := fun K => PySem.W.nsIn K mainGlobals "_first_wrong_cell") (by k_is : PySem.W.nsIn _ mainGlobals "_first_wrong_cell" = _) (by kernel_rfl))
  (case lFc => exact TK.via KX (f := fun K => K.lookup _) (by k_is : List.lookup _ _ = _) (by kernel_rfl))
  (case cFc => exact TK.via KX (f := fun K => PySem.W.codeIn K _ "_first_wrong_cell") (by k_is : PySem.W.codeIn _ _ "_first_wrong_cell" = _) (by kernel_rfl))
  (case kFc => exact TK.via KX (f := fun K => PySem.W.keepIn K (.ref _)) (by k_is : PySem.W.keepIn _ (.ref _) = _) (by kernel_rfl))
  (case aIr => exact TK.via KX (f := fun K => PySem.W.nsIn K mainGlobals "_is_row") (by k_is : PySem.W.nsIn _ mainGlobals "_is_row" = _) (by kernel_rfl))
  (case lIr => exact TK.via KX (f := fun K => K.lookup _) (by k_is : List.lookup _ _ = _) (by kernel_rfl))
  (case cIr => exact TK.via KX (f := fun K => PySem.W.codeIn K _ "_is_row") (by k_is : PySem.W.codeIn _ _ "_is_row" = _) (by kernel_rfl))
  (case kIr => exact TK.via KX (f := fun K => PySem.W.keepIn K (.ref _)) (by k_is : PySem.W.keepIn _ (.ref _) = _) (by kernel_rfl))
  (case aTd => exact TK.via KX (f := fun K => PySem.W.nsIn K mainGlobals "_tilted") (by k_is : PySem.W.nsIn _ mainGlobals "_tilted" = _) (by kernel_rfl))
  (case lTd => exact TK.via KX (f := fun K => K.lookup _) (by k_is : List.lookup _ _ = _) (by kernel_rfl))
  (case cTd => exact TK.via KX (f := fun K => PySem.W.codeIn K _ "_tilted") (by k_is : PySem.W.codeIn _ _ "_tilted" = _) (by kernel_rfl))
  (case kTd => exact TK.via KX (f := fun K => PySem.W.keepIn K (.ref _)) (by k_is : PySem.W.keepIn _ (.ref _) = _) (by kernel_rfl))
  (case aSl => exact TK.via KX (f := fun K => PySem.W.nsIn K mainGlobals "_slid") (by k_is : PySem.W.nsIn _ mainGlobals "_slid" = _) (by kernel_rfl))
  (case lSl => exact TK.via KX (f := fun K => K.lookup _) (by k_is : List.lookup _ _ = _) (by kernel_rfl))
  (case cSl => exact TK.via KX (f := fun K => PySem.W.codeIn K _ "_slid") (by k_is : PySem.W.codeIn _ _ "_slid" = _) (by kernel_rfl))
  (case kSl => exact TK.via KX (f := fun K => PySem.W.keepIn K (.ref _)) (by k_is : PySem.W.keepIn _ (.ref _) = _) (by kernel_rfl))
  (case pTr => exact TK.via KX (f := fun K => PySem.W.findIn K (.ref _) "rows") (by k_is : PySem.W.findIn _ (.ref _) "rows" = _) (by kernel_rfl))
  (case pgtTr => exact TK.via KX (f := fun K => PySem.W.specialIn K (.ref _) "__get__") (by k_is : PySem.W.specialIn _ (.ref _) "__get__" = _) (by kernel_rfl))
  (case ptkTr => exact TK.via KX (f := fun K => PySem.W.takesIn K (.ref _)) (by k_is : PySem.W.takesIn _ (.ref _) = _) (by kernel_rfl))
  (case aTr => exact TK.via KX (f := fun K => PySem.W.recIn K _ "property") (by k_is : PySem.W.recIn _ _ "property" = _) (by kernel_rfl))
  (case lTr => exact TK.via KX (f := fun K => K.lookup _) (by k_is : List.lookup _ _ = _) (by kernel_rfl))
  (case cTr => exact TK.via KX (f := fun K => PySem.W.codeIn K _ "Tray.rows") (by k_is : PySem.W.codeIn _ _ "Tray.rows" = _) (by kernel_rfl))
  (case kTr => exact TK.via KX (f := fun K => PySem.W.keepIn K (.ref _)) (by k_is : PySem.W.keepIn _ (.ref _) = _) (by kernel_rfl))
  (case aTe => exact TK.via KX (f := fun K => PySem.W.findIn K (.ref _) "__eq__") (by k_is : PySem.W.findIn _ (.ref _) "__eq__" = _) (by kernel_rfl))
  (case iTe => exact TK.via KX (f := fun K => PySem.W.isFn K (.ref _)) (by k_is : PySem.W.isFn _ (.ref _) = _) (by kernel_rfl))
  (case lTe => exact TK.via KX (f := fun K => K.lookup _) (by k_is : List.lookup _ _ = _) (by kernel_rfl))
  (case cTe => exact TK.via KX (f := fun K => PySem.W.codeIn K _ "Tray.__eq__") (by k_is : PySem.W.codeIn _ _ "Tray.__eq__" = _) (by kernel_rfl))
  (case kTe => exact TK.via KX (f := fun K => PySem.W.keepIn K (.ref _)) (by k_is : PySem.W.keepIn _ (.ref _) = _) (by kernel_rfl))
  (case pMb => exact TK.via KX (f := fun K => PySem.W.findIn K (.ref _) "marbles") (by k_is : PySem.W.findIn _ (.ref _) "marbles" = _) (by kernel_rfl))
  (case pgtMb => exact TK.via KX (f := fun K => PySem.W.specialIn K (.ref _) "__get__") (by k_is : PySem.W.specialIn _ (.ref _) "__get__" = _) (by kernel_rfl))
  (case ptkMb => exact TK.via KX (f := fun K => PySem.W.takesIn K (.ref _)) (by k_is : PySem.W.takesIn _ (.ref _) = _) (by kernel_rfl))
  (case aMb => exact TK.via KX (f := fun K => PySem.W.recIn K _ "property") (by k_is : PySem.W.recIn _ _ "property" = _) (by kernel_rfl))
  (case lMb => exact TK.via KX (f := fun K => K.lookup _) (by k_is : List.lookup _ _ = _) (by kernel_rfl))
  (case cMb => exact TK.via KX (f := fun K => PySem.W.codeIn K _ "Tray.marbles") (by k_is : PySem.W.codeIn _ _ "Tray.marbles" = _) (by kernel_rfl))
  (case kMb => exact TK.via KX (f := fun K => PySem.W.keepIn K (.ref _)) (by k_is : PySem.W.keepIn _ (.ref _) = _) (by kernel_rfl))
  (case pWd => exact TK.via KX (f := fun K => PySem.W.findIn K (.ref _) "width") (by k_is : PySem.W.findIn _ (.ref _) "width" = _) (by kernel_rfl))
  (case pgtWd => exact TK.via KX (f := fun K => PySem.W.specialIn K (.ref _) "__get__") (by k_is : PySem.W.specialIn _ (.ref _) "__get__" = _) (by kernel_rfl))
  (case ptkWd => exact TK.via KX (f := fun K => PySem.W.takesIn K (.ref _)) (by k_is : PySem.W.takesIn _ (.ref _) = _) (by kernel_rfl))
  (case aWd => exact TK.via KX (f := fun K => PySem.W.recIn K _ "property") (by k_is : PySem.W.recIn _ _ "property" = _) (by kernel_rfl))
  (case lWd => exact TK.via KX (f := fun K => K.lookup _) (by k_is : List.lookup _ _ = _) (by kernel_rfl))
  (case cWd => exact TK.via KX (f := fun K => PySem.W.codeIn K _ "Tray.width") (by k_is : PySem.W.codeIn _ _ "Tray.width" = _) (by kernel_rfl))
  (case kWd => exact TK.via KX (f := fun K => PySem.W.keepIn K (.ref _)) (by k_is : PySem.W.keepIn _ (.ref _) = _) (by kernel_rfl))
  (case pHt => exact TK.via KX (f := fun K => PySem.W.findIn K (.ref _) "height") (by k_is : PySem.W.findIn _ (.ref _) "height" = _) (by kernel_rfl))
  (case pgtHt => exact TK.via KX (f := fun K => PySem.W.specialIn K (.ref _) "__get__") (by k_is : PySem.W.specialIn _ (.ref _) "__get__" = _) (by kernel_rfl))
  (case ptkHt => exact TK.via KX (f := fun K => PySem.W.takesIn K (.ref _)) (by k_is : PySem.W.takesIn _ (.ref _) = _) (by kernel_rfl))
  (case aHt => exact TK.via KX (f := fun K => PySem.W.recIn K _ "property") (by k_is : PySem.W.recIn _ _ "property" = _) (by kernel_rfl))
  (case lHt => exact TK.via KX (f := fun K => K.lookup _) (by k_is : List.lookup _ _ = _) (by kernel_rfl))
  (case cHt => exact TK.via KX (f := fun K => PySem.W.codeIn K _ "Tray.height") (by k_is : PySem.W.codeIn _ _ "Tray.height" = _) (by kernel_rfl))
  (case kHt => exact TK.via KX (f := fun K => PySem.W.keepIn K (.ref _)) (by k_is : PySem.W.keepIn _ (.ref _) = _) (by kernel_rfl))
  (case aTc => exact TK.via KX (f := fun K => PySem.W.findIn K (.ref _) "__contains__") (by k_is : PySem.W.findIn _ (.ref _) "__contains__" = _) (by kernel_rfl))
  (case iTc => exact TK.via KX (f := fun K => PySem.W.isFn K (.ref _)) (by k_is : PySem.W.isFn _ (.ref _) = _) (by kernel_rfl))
  (case lTc => exact TK.via KX (f := fun K => K.lookup _) (by k_is : List.lookup _ _ = _) (by kernel_rfl))
  (case cTc => exact TK.via KX (f := fun K => PySem.W.codeIn K _ "Tray.__contains__") (by k_is : PySem.W.codeIn _ _ "Tray.__contains__" = _) (by kernel_rfl))
  (case kTc => exact TK.via KX (f := fun K => PySem.W.keepIn K (.ref _)) (by k_is : PySem.W.keepIn _ (.ref _) = _) (by kernel_rfl))
  (case aCl => exact TK.via KX (f := fun K => PySem.W.findIn K (.ref _) "__call__") (by k_is : PySem.W.findIn _ (.ref _) "__call__" = _) (by kernel_rfl))
  (case iCl => exact TK.via KX (f := fun K => PySem.W.isFn K (.ref _)) (by k_is : PySem.W.isFn _ (.ref _) = _) (by kernel_rfl))
  (case lCl => exact TK.via KX (f := fun K => K.lookup _) (by k_is : List.lookup _ _ = _) (by kernel_rfl))
  (case cCl => exact TK.via KX (f := fun K => PySem.W.codeIn K _ "Tray.__call__") (by k_is : PySem.W.codeIn _ _ "Tray.__call__" = _) (by kernel_rfl))
  (case kCl => exact TK.via KX (f := fun K => PySem.W.keepIn K (.ref _)) (by k_is : PySem.W.keepIn _ (.ref _) = _) (by kernel_rfl))
  (case fnCl => exact TK.via KX (f := fun K => PySem.W.fnIn K _) (by k_is : PySem.W.fnIn _ _ = _) (by kernel_rfl))
  (case aNu => exact TK.via KX (f := fun K => PySem.W.nsIn K mainGlobals "is_number") (by k_is : PySem.W.nsIn _ mainGlobals "is_number" = _) (by kernel_rfl))
  (case lNu => exact TK.via KX (f := fun K => K.lookup _) (by k_is : List.lookup _ _ = _) (by kernel_rfl))
  (case cNu => exact TK.via KX (f := fun K => PySem.W.codeIn K _ "is_number") (by k_is : PySem.W.codeIn _ _ "is_number" = _) (by kernel_rfl))
  (case kNu => exact TK.via KX (f := fun K => PySem.W.keepIn K (.ref _)) (by k_is : PySem.W.keepIn _ (.ref _) = _) (by kernel_rfl))
  (case aPl => exact TK.via KX (f := fun K => PySem.W.nsIn K mainGlobals "is_place") (by k_is : PySem.W.nsIn _ mainGlobals "is_place" = _) (by kernel_rfl))
  (case lPl => exact TK.via KX (f := fun K => K.lookup _) (by k_is : List.lookup _ _ = _) (by kernel_rfl))
  (case cPl => exact TK.via KX (f := fun K => PySem.W.codeIn K _ "is_place") (by k_is : PySem.W.codeIn _ _ "is_place" = _) (by kernel_rfl))
  (case kPl => exact TK.via KX (f := fun K => PySem.W.keepIn K (.ref _)) (by k_is : PySem.W.keepIn _ (.ref _) = _) (by kernel_rfl))
  (case aCv => exact TK.via KX (f := fun K => PySem.W.nsIn K mainGlobals "check_place") (by k_is : PySem.W.nsIn _ mainGlobals "check_place" = _) (by kernel_rfl))
  (case lCv => exact TK.via KX (f := fun K => K.lookup _) (by k_is : List.lookup _ _ = _) (by kernel_rfl))
  (case cCv => exact TK.via KX (f := fun K => PySem.W.codeIn K _ "check_place") (by k_is : PySem.W.codeIn _ _ "check_place" = _) (by kernel_rfl))
  (case kCv => exact TK.via KX (f := fun K => PySem.W.keepIn K (.ref _)) (by k_is : PySem.W.keepIn _ (.ref _) = _) (by kernel_rfl))
  (case aAt => exact TK.via KX (f := fun K => PySem.W.findIn K (.ref _) "at") (by k_is : PySem.W.findIn _ (.ref _) "at" = _) (by kernel_rfl))
  (case iAt => exact TK.via KX (f := fun K => PySem.W.isFn K (.ref _)) (by k_is : PySem.W.isFn _ (.ref _) = _) (by kernel_rfl))
  (case lAt => exact TK.via KX (f := fun K => K.lookup _) (by k_is : List.lookup _ _ = _) (by kernel_rfl))
  (case cAt => exact TK.via KX (f := fun K => PySem.W.codeIn K _ "Tray.at") (by k_is : PySem.W.codeIn _ _ "Tray.at" = _) (by kernel_rfl))
  (case kAt => exact TK.via KX (f := fun K => PySem.W.keepIn K (.ref _)) (by k_is : PySem.W.keepIn _ (.ref _) = _) (by kernel_rfl))
  (case aCm => exact TK.via KX (f := fun K => PySem.W.nsIn K mainGlobals "check_marble") (by k_is : PySem.W.nsIn _ mainGlobals "check_marble" = _) (by kernel_rfl))
  (case lCm => exact TK.via KX (f := fun K => K.lookup _) (by k_is : List.lookup _ _ = _) (by kernel_rfl))
  (case cCm => exact TK.via KX (f := fun K => PySem.W.codeIn K _ "check_marble") (by k_is : PySem.W.codeIn _ _ "check_marble" = _) (by kernel_rfl))
  (case kCm => exact TK.via KX (f := fun K => PySem.W.keepIn K (.ref _)) (by k_is : PySem.W.keepIn _ (.ref _) = _) (by kernel_rfl))
  (case aCn => exact TK.via KX (f := fun K => PySem.W.nsIn K mainGlobals "check_number") (by k_is : PySem.W.nsIn _ mainGlobals "check_number" = _) (by kernel_rfl))
  (case lCn => exact TK.via KX (f := fun K => K.lookup _) (by k_is : List.lookup _ _ = _) (by kernel_rfl))
  (case cCn => exact TK.via KX (f := fun K => PySem.W.codeIn K _ "check_number") (by k_is : PySem.W.codeIn _ _ "check_number" = _) (by kernel_rfl))
  (case kCn => exact TK.via KX (f := fun K => PySem.W.keepIn K (.ref _)) (by k_is : PySem.W.keepIn _ (.ref _) = _) (by kernel_rfl))
  (case aEx => exact TK.via KX (f := fun K => PySem.W.nsIn K mainGlobals "exchange") (by k_is : PySem.W.nsIn _ mainGlobals "exchange" = _) (by kernel_rfl))
  (case lEx => exact TK.via KX (f := fun K => K.lookup _) (by k_is : List.lookup _ _ = _) (by kernel_rfl))
  (case cEx => exact TK.via KX (f := fun K => PySem.W.codeIn K _ "exchange") (by k_is : PySem.W.codeIn _ _ "exchange" = _) (by kernel_rfl))
  (case kEx => exact TK.via KX (f := fun K => PySem.W.keepIn K (.ref _)) (by k_is : PySem.W.keepIn _ (.ref _) = _) (by kernel_rfl))
  (case aCi => exact TK.via KX (f := fun K => PySem.W.nsIn K mainGlobals "circles") (by k_is : PySem.W.nsIn _ mainGlobals "circles" = _) (by kernel_rfl))
  (case lCi => exact TK.via KX (f := fun K => K.lookup _) (by k_is : List.lookup _ _ = _) (by kernel_rfl))
  (case cCi => exact TK.via KX (f := fun K => PySem.W.codeIn K _ "circles") (by k_is : PySem.W.codeIn _ _ "circles" = _) (by kernel_rfl))
  (case kCi => exact TK.via KX (f := fun K => PySem.W.keepIn K (.ref _)) (by k_is : PySem.W.keepIn _ (.ref _) = _) (by kernel_rfl))
  (case aCf => exact TK.via KX (f := fun K => PySem.W.nsIn K mainGlobals "_circle_from") (by k_is : PySem.W.nsIn _ mainGlobals "_circle_from" = _) (by kernel_rfl))
  (case lCf => exact TK.via KX (f := fun K => K.lookup _) (by k_is : List.lookup _ _ = _) (by kernel_rfl))
  (case cCf => exact TK.via KX (f := fun K => PySem.W.codeIn K _ "_circle_from") (by k_is : PySem.W.codeIn _ _ "_circle_from" = _) (by kernel_rfl))
  (case kCf => exact TK.via KX (f := fun K => PySem.W.keepIn K (.ref _)) (by k_is : PySem.W.keepIn _ (.ref _) = _) (by kernel_rfl))
  (case aAr => exact TK.via KX (f := fun K => PySem.W.nsIn K mainGlobals "after_rounds") (by k_is : PySem.W.nsIn _ mainGlobals "after_rounds" = _) (by kernel_rfl))
  (case lAr => exact TK.via KX (f := fun K => K.lookup _) (by k_is : List.lookup _ _ = _) (by kernel_rfl))
  (case cAr => exact TK.via KX (f := fun K => PySem.W.codeIn K _ "after_rounds") (by k_is : PySem.W.codeIn _ _ "after_rounds" = _) (by kernel_rfl))
  (case kAr => exact TK.via KX (f := fun K => PySem.W.keepIn K (.ref _)) (by k_is : PySem.W.keepIn _ (.ref _) = _) (by kernel_rfl))
  (case aBk => exact TK.via KX (f := fun K => PySem.W.nsIn K mainGlobals "back_after") (by k_is : PySem.W.nsIn _ mainGlobals "back_after" = _) (by kernel_rfl))
  (case lBk => exact TK.via KX (f := fun K => K.lookup _) (by k_is : List.lookup _ _ = _) (by kernel_rfl))
  (case cBk => exact TK.via KX (f := fun K => PySem.W.codeIn K _ "back_after") (by k_is : PySem.W.codeIn _ _ "back_after" = _) (by kernel_rfl))
  (case kBk => exact TK.via KX (f := fun K => PySem.W.keepIn K (.ref _)) (by k_is : PySem.W.keepIn _ (.ref _) = _) (by kernel_rfl))
  (case cMR => exact TK.via KX (f := fun K => PySem.W.nsIn K mainGlobals "MAX_ROUNDS") (by k_is : PySem.W.nsIn _ mainGlobals "MAX_ROUNDS" = _) (by kernel_rfl))
  (case lcm => exact TK.via KX (f := fun K => PySem.W.nsIn K mainGlobals "lcm") (by k_is : PySem.W.nsIn _ mainGlobals "lcm" = _) (by kernel_rfl))
  (case sf => exact TK.via KX (f := fun K => PySem.W.selfFirst K _) (by k_is : PySem.W.selfFirst _ _ = _) (by kernel_rfl))
  (case nc => exact TK.via KX (f := fun K => PySem.W.clsIn K _) (by k_is : PySem.W.clsIn _ _ = _) (by kernel_rfl))
  (case nm => rfl)
  (case n1 => exact TK.via KX (f := fun K => PySem.W.findIn K (.ref _) "__rshift__") (by k_is : PySem.W.findIn _ (.ref _) "__rshift__" = _) (by kernel_rfl))
  (case n2 => exact TK.via KX (f := fun K => PySem.W.findIn K (.ref _) "__rrshift__") (by k_is : PySem.W.findIn _ (.ref _) "__rrshift__" = _) (by kernel_rfl))
  (case n3 => exact TK.via KX (f := fun K => PySem.W.findIn K (.type "object") "__rshift__") (by k_is : PySem.W.findIn _ (.type "object") "__rshift__" = _) (by kernel_rfl))
  (case n4 => exact TK.via KX (f := fun K => PySem.W.findIn K (.type "object") "__rrshift__") (by k_is : PySem.W.findIn _ (.type "object") "__rrshift__" = _) (by kernel_rfl))
  (case aMa => exact TK.via KX (f := fun K => PySem.W.nsIn K mainGlobals "marble_after") (by k_is : PySem.W.nsIn _ mainGlobals "marble_after" = _) (by kernel_rfl))
  (case lMa => exact TK.via KX (f := fun K => K.lookup _) (by k_is : List.lookup _ _ = _) (by kernel_rfl))
  (case cMa => exact TK.via KX (f := fun K => PySem.W.codeIn K _ "marble_after") (by k_is : PySem.W.codeIn _ _ "marble_after" = _) (by kernel_rfl))
  (case kMa => exact TK.via KX (f := fun K => PySem.W.keepIn K (.ref _)) (by k_is : PySem.W.keepIn _ (.ref _) = _) (by kernel_rfl))
  (case aIb => exact TK.via KX (f := fun K => PySem.W.nsIn K mainGlobals "is_back") (by k_is : PySem.W.nsIn _ mainGlobals "is_back" = _) (by kernel_rfl))
  (case lIb => exact TK.via KX (f := fun K => K.lookup _) (by k_is : List.lookup _ _ = _) (by kernel_rfl))
  (case cIb => exact TK.via KX (f := fun K => PySem.W.codeIn K _ "is_back") (by k_is : PySem.W.codeIn _ _ "is_back" = _) (by kernel_rfl))
  (case kIb => exact TK.via KX (f := fun K => PySem.W.keepIn K (.ref _)) (by k_is : PySem.W.keepIn _ (.ref _) = _) (by kernel_rfl))
  (case aTk => exact TK.via KX (f := fun K => PySem.W.nsIn K mainGlobals "_law_taken") (by k_is : PySem.W.nsIn _ mainGlobals "_law_taken" = _) (by kernel_rfl))
  (case lTk => exact TK.via KX (f := fun K => K.lookup _) (by k_is : List.lookup _ _ = _) (by kernel_rfl))
  (case cTk => exact TK.via KX (f := fun K => PySem.W.codeIn K _ "_law_taken") (by k_is : PySem.W.codeIn _ _ "_law_taken" = _) (by kernel_rfl))
  (case kTk => exact TK.via KX (f := fun K => PySem.W.keepIn K (.ref _)) (by k_is : PySem.W.keepIn _ (.ref _) = _) (by kernel_rfl))
  (case aAl => exact TK.via KX (f := fun K => PySem.W.nsIn K mainGlobals "_law_alike") (by k_is : PySem.W.nsIn _ mainGlobals "_law_alike" = _) (by kernel_rfl))
  (case lAl => exact TK.via KX (f := fun K => K.lookup _) (by k_is : List.lookup _ _ = _) (by kernel_rfl))
  (case cAl => exact TK.via KX (f := fun K => PySem.W.codeIn K _ "_law_alike") (by k_is : PySem.W.codeIn _ _ "_law_alike" = _) (by kernel_rfl))
  (case kAl => exact TK.via KX (f := fun K => PySem.W.keepIn K (.ref _)) (by k_is : PySem.W.keepIn _ (.ref _) = _) (by kernel_rfl))
  (case aRa => exact TK.via KX (f := fun K => PySem.W.nsIn K mainGlobals "_law_raised") (by k_is : PySem.W.nsIn _ mainGlobals "_law_raised" = _) (by kernel_rfl))
  (case lRa => exact TK.via KX (f := fun K => K.lookup _) (by k_is : List.lookup _ _ = _) (by kernel_rfl))
  (case cRa => exact TK.via KX (f := fun K => PySem.W.codeIn K _ "_law_raised") (by k_is : PySem.W.codeIn _ _ "_law_raised" = _) (by kernel_rfl))
  (case kRa => exact TK.via KX (f := fun K => PySem.W.keepIn K (.ref _)) (by k_is : PySem.W.keepIn _ (.ref _) = _) (by kernel_rfl))
  (case aRw => exact TK.via KX (f := fun K => PySem.W.nsIn K mainGlobals "_law_rows") (by k_is : PySem.W.nsIn _ mainGlobals "_law_rows" = _) (by kernel_rfl))
  (case lRw => exact TK.via KX (f := fun K => K.lookup _) (by k_is : List.lookup _ _ = _) (by kernel_rfl))
  (case cRw => exact TK.via KX (f := fun K => PySem.W.codeIn K _ "_law_rows") (by k_is : PySem.W.codeIn _ _ "_law_rows" = _) (by kernel_rfl))
  (case kRw => exact TK.via KX (f := fun K => PySem.W.keepIn K (.ref _)) (by k_is : PySem.W.keepIn _ (.ref _) = _) (by kernel_rfl))
  (case aTx => exact TK.via KX (f := fun K => PySem.W.nsIn K mainGlobals "_law_text") (by k_is : PySem.W.nsIn _ mainGlobals "_law_text" = _) (by kernel_rfl))
  (case lTx => exact TK.via KX (f := fun K => K.lookup _) (by k_is : List.lookup _ _ = _) (by kernel_rfl))
  (case cTx => exact TK.via KX (f := fun K => PySem.W.codeIn K _ "_law_text") (by k_is : PySem.W.codeIn _ _ "_law_text" = _) (by kernel_rfl))
  (case kTx => exact TK.via KX (f := fun K => PySem.W.keepIn K (.ref _)) (by k_is : PySem.W.keepIn _ (.ref _) = _) (by kernel_rfl))
  (case aTl => exact TK.via KX (f := fun K => PySem.W.nsIn K mainGlobals "_law_tilted") (by k_is : PySem.W.nsIn _ mainGlobals "_law_tilted" = _) (by kernel_rfl))
  (case lTl => exact TK.via KX (f := fun K => K.lookup _) (by k_is : List.lookup _ _ = _) (by kernel_rfl))
  (case cTl => exact TK.via KX (f := fun K => PySem.W.codeIn K _ "_law_tilted") (by k_is : PySem.W.codeIn _ _ "_law_tilted" = _) (by kernel_rfl))
  (case kTl => exact TK.via KX (f := fun K => PySem.W.keepIn K (.ref _)) (by k_is : PySem.W.keepIn _ (.ref _) = _) (by kernel_rfl))
  (case aAf => exact TK.via KX (f := fun K => PySem.W.nsIn K mainGlobals "_law_after") (by k_is : PySem.W.nsIn _ mainGlobals "_law_after" = _) (by kernel_rfl))
  (case lAf => exact TK.via KX (f := fun K => K.lookup _) (by k_is : List.lookup _ _ = _) (by kernel_rfl))
  (case cAf => exact TK.via KX (f := fun K => PySem.W.codeIn K _ "_law_after") (by k_is : PySem.W.codeIn _ _ "_law_after" = _) (by kernel_rfl))
  (case kAf => exact TK.via KX (f := fun K => PySem.W.keepIn K (.ref _)) (by k_is : PySem.W.keepIn _ (.ref _) = _) (by kernel_rfl))
  (case aPs => exact TK.via KX (f := fun K => PySem.W.nsIn K mainGlobals "_law_places") (by k_is : PySem.W.nsIn _ mainGlobals "_law_places" = _) (by kernel_rfl))
  (case lPs => exact TK.via KX (f := fun K => K.lookup _) (by k_is : List.lookup _ _ = _) (by kernel_rfl))
  (case cPs => exact TK.via KX (f := fun K => PySem.W.codeIn K _ "_law_places") (by k_is : PySem.W.codeIn _ _ "_law_places" = _) (by kernel_rfl))
  (case kPs => exact TK.via KX (f := fun K => PySem.W.keepIn K (.ref _)) (by k_is : PySem.W.keepIn _ (.ref _) = _) (by kernel_rfl))
  (case aCs => exact TK.via KX (f := fun K => PySem.W.nsIn K mainGlobals "_law_circles") (by k_is : PySem.W.nsIn _ mainGlobals "_law_circles" = _) (by kernel_rfl))
  (case lCs => exact TK.via KX (f := fun K => K.lookup _) (by k_is : List.lookup _ _ = _) (by kernel_rfl))
  (case cCs => exact TK.via KX (f := fun K => PySem.W.codeIn K _ "_law_circles") (by k_is : PySem.W.codeIn _ _ "_law_circles" = _) (by kernel_rfl))
  (case kCs => exact TK.via KX (f := fun K => PySem.W.keepIn K (.ref _)) (by k_is : PySem.W.keepIn _ (.ref _) = _) (by kernel_rfl))
  (case aBy => exact TK.via KX (f := fun K => PySem.W.nsIn K mainGlobals "_law_busy") (by k_is : PySem.W.nsIn _ mainGlobals "_law_busy" = _) (by kernel_rfl))
  (case lBy => exact TK.via KX (f := fun K => K.lookup _) (by k_is : List.lookup _ _ = _) (by kernel_rfl))
  (case cBy => exact TK.via KX (f := fun K => PySem.W.codeIn K _ "_law_busy") (by k_is : PySem.W.codeIn _ _ "_law_busy" = _) (by kernel_rfl))
  (case kBy => exact TK.via KX (f := fun K => PySem.W.keepIn K (.ref _)) (by k_is : PySem.W.keepIn _ (.ref _) = _) (by kernel_rfl))
  (case aLr => exact TK.via KX (f := fun K => PySem.W.nsIn K mainGlobals "_law_are_rounds") (by k_is : PySem.W.nsIn _ mainGlobals "_law_are_rounds" = _) (by kernel_rfl))
  (case lLr => exact TK.via KX (f := fun K => K.lookup _) (by k_is : List.lookup _ _ = _) (by kernel_rfl))
  (case cLr => exact TK.via KX (f := fun K => PySem.W.codeIn K (.ref _) "_law_are_rounds") (by k_is : PySem.W.codeIn _ (.ref _) "_law_are_rounds" = _) (by kernel_rfl))
  (case kLr => exact TK.via KX (f := fun K => PySem.W.keepIn K (.ref _)) (by k_is : PySem.W.keepIn _ (.ref _) = _) (by kernel_rfl))
  (case aLw => exact TK.via KX (f := fun K => PySem.W.nsIn K mainGlobals "law") (by k_is : PySem.W.nsIn _ mainGlobals "law" = _) (by kernel_rfl))
  (case lLw => exact TK.via KX (f := fun K => K.lookup _) (by k_is : List.lookup _ _ = _) (by kernel_rfl))
  (case cLw => exact TK.via KX (f := fun K => PySem.W.codeIn K _ "law") (by k_is : PySem.W.codeIn _ _ "law" = _) (by kernel_rfl))
  (case kLw => exact TK.via KX (f := fun K => PySem.W.keepIn K (.ref _)) (by k_is : PySem.W.keepIn _ (.ref _) = _) (by kernel_rfl))
  (case ge2 => exact TK.via KX (f := fun K => PySem.W.nsIn K mainGlobals "UnknownMarble") (by k_is : PySem.W.nsIn _ mainGlobals "UnknownMarble" = _) (by kernel_rfl))
  (case xL2 => exact TK.via KX (f := fun K => K.lookup _) (by k_is : List.lookup _ _ = _) (by kernel_rfl))
  (case xb2 => first | rfl | decide +kernel)
  (case xsa2 => exact TK.via KX (f := fun K => PySem.W.findIn K (.ref _) "__setattr__") (by k_is : PySem.W.findIn _ (.ref _) "__setattr__" = _) (by kernel_rfl))
  (case xex2 => exact TK.via KX (f := fun K => PySem.W.subIn K (.ref _) (.type "BaseException")) (by k_is : PySem.W.subIn _ (.ref _) (.type "BaseException") = _) (by kernel_rfl))
  (case xty2 => exact TK.via KX (f := fun K => PySem.W.typeIn K (.ref _)) (by k_is : PySem.W.typeIn _ (.ref _) = _) (by kernel_rfl))
  (case xk2 => exact TK.via KX (f := fun K => PySem.W.keepIn K (.ref _)) (by k_is : PySem.W.keepIn _ (.ref _) = _) (by kernel_rfl))
  (case aIx2 => exact TK.via KX (f := fun K => PySem.W.findIn K (.ref _) "__init__") (by k_is : PySem.W.findIn _ (.ref _) "__init__" = _) (by kernel_rfl))
  (case tIx2 => exact TK.via KX (f := fun K => PySem.W.typeIn K (.ref _)) (by k_is : PySem.W.typeIn _ (.ref _) = _) (by kernel_rfl))
  (case lIx2 => exact TK.via KX (f := fun K => K.lookup _) (by k_is : List.lookup _ _ = _) (by kernel_rfl))
  (case cIx2 => exact TK.via KX (f := fun K => PySem.W.codeIn K (.ref _) "UnknownMarble.__init__") (by k_is : PySem.W.codeIn _ (.ref _) "UnknownMarble.__init__" = _) (by kernel_rfl))
  (case kx12 => exact TK.via KX (f := fun K => K.lookup _) (by k_is : List.lookup _ _ = _) (by kernel_rfl))
  (case kx22 => rfl)
  (case kx32 => first | rfl | decide +kernel)
  (case kx42 => exact TK.via KX (f := fun K => K.lookup _) (by k_is : List.lookup _ _ = _) (by kernel_rfl))
  (case kx52 => exact TK.via KX (f := fun K => PySem.W.mroIn K _ (.ref _)) (by k_is : PySem.W.mroIn _ _ (.ref _) = _) (by kernel_rfl))
  (case kx62 => exact TK.via KX (f := fun K => PySem.W.ks_superIn K _ _ "__init__") (by kernel_rfl : PySem.W.ks_superIn _ _ _ "__init__" = _) (by kernel_rfl))
  (case kx72 => exact TK.via KX (f := fun K => PySem.W.subIn K (.ref _) (.type "ValueError")) (by k_is : PySem.W.subIn _ (.ref _) (.type "ValueError") = _) (by kernel_rfl))
  (case nI3 => exact TK.via KX (f := fun K => PySem.W.findIn K (.ref _) "marble") (by k_is : PySem.W.findIn _ (.ref _) "marble" = _) (by kernel_rfl))
  (case kx8 => exact TK.via KX (f := fun K => PySem.W.nsIn K cStatics "thirdparty.any") (by k_is : PySem.W.nsIn _ cStatics "thirdparty.any" = _) (by kernel_rfl))
  (case kx9 => first | rfl | decide +kernel)
  (case ge3 => exact TK.via KX (f := fun K => PySem.W.nsIn K mainGlobals "InvalidPlace") (by k_is : PySem.W.nsIn _ mainGlobals "InvalidPlace" = _) (by kernel_rfl))
  (case q3 => exact TK.via KX (f := fun K => PySem.W.excIn K _ [.type "ValueError", .type "Exception", .type "BaseException", .type "object"] "ValueError.__new__") (by kernel_rfl : PySem.W.excIn _ _ [.type "ValueError", .type "Exception", .type "BaseException", .type "object"] "ValueError.__new__" = _) (by kernel_rfl))
  (case k3 => exact TK.via KX (f := fun K => PySem.W.keepIn K (.ref _)) (by k_is : PySem.W.keepIn _ (.ref _) = _) (by kernel_rfl))
  (case t3 => exact TK.via KX (f := fun K => PySem.W.typeIn K (.ref _)) (by k_is : PySem.W.typeIn _ (.ref _) = _) (by kernel_rfl))
  (case hs_3 => exact TK.via KX (f := fun K => PySem.W.subIn K (.ref _) (.type "BaseException")) (by k_is : PySem.W.subIn _ (.ref _) (.type "BaseException") = _) (by kernel_rfl))
  (case ge4 => exact TK.via KX (f := fun K => PySem.W.nsIn K mainGlobals "InvalidNumber") (by k_is : PySem.W.nsIn _ mainGlobals "InvalidNumber" = _) (by kernel_rfl))
  (case q4 => exact TK.via KX (f := fun K => PySem.W.excIn K _ [.type "ValueError", .type "Exception", .type "BaseException", .type "object"] "ValueError.__new__") (by kernel_rfl : PySem.W.excIn _ _ [.type "ValueError", .type "Exception", .type "BaseException", .type "object"] "ValueError.__new__" = _) (by kernel_rfl))
  (case k4 => exact TK.via KX (f := fun K => PySem.W.keepIn K (.ref _)) (by k_is : PySem.W.keepIn _ (.ref _) = _) (by kernel_rfl))
  (case t4 => exact TK.via KX (f := fun K => PySem.W.typeIn K (.ref _)) (by k_is : PySem.W.typeIn _ (.ref _) = _) (by kernel_rfl))
  (case hs_4 => exact TK.via KX (f := fun K => PySem.W.subIn K (.ref _) (.type "BaseException")) (by k_is : PySem.W.subIn _ (.ref _) (.type "BaseException") = _) (by kernel_rfl))
  (case geT => exact TK.via KX (f := fun K => PySem.W.nsIn K mainGlobals "TrayError") (by k_is : PySem.W.nsIn _ mainGlobals "TrayError" = _) (by kernel_rfl))
  (case ge0 => exact TK.via KX (f := fun K => PySem.W.nsIn K mainGlobals "InvalidWord") (by k_is : PySem.W.nsIn _ mainGlobals "InvalidWord" = _) (by kernel_rfl))
  (case ge1 => exact TK.via KX (f := fun K => PySem.W.nsIn K mainGlobals "InvalidTray") (by k_is : PySem.W.nsIn _ mainGlobals "InvalidTray" = _) (by kernel_rfl))
  (case ge5 => exact TK.via KX (f := fun K => PySem.W.nsIn K mainGlobals "SameMarble") (by k_is : PySem.W.nsIn _ mainGlobals "SameMarble" = _) (by kernel_rfl))
  (case nI0 => exact TK.via KX (f := fun K => PySem.W.findIn K (.ref _) "index") (by k_is : PySem.W.findIn _ (.ref _) "index" = _) (by kernel_rfl))
  (case nI1 => exact TK.via KX (f := fun K => PySem.W.findIn K (.ref _) "row") (by k_is : PySem.W.findIn _ (.ref _) "row" = _) (by kernel_rfl))
  (case nI2 => exact TK.via KX (f := fun K => PySem.W.findIn K (.ref _) "column") (by k_is : PySem.W.findIn _ (.ref _) "column" = _) (by kernel_rfl))
  (case hg0 => exact TK.via KX (f := fun K => PySem.W.findIn K (.ref _) "__getattribute__") (by k_is : PySem.W.findIn _ (.ref _) "__getattribute__" = _) (by kernel_rfl))
  (case hk0 => exact TK.via KX (f := fun K => PySem.W.findIn K (.ref _) "__getattr__") (by k_is : PySem.W.findIn _ (.ref _) "__getattr__" = _) (by kernel_rfl))
  (case hs0 => exact TK.via KX (f := fun K => PySem.W.subIn K (.ref _) (.type "BaseException")) (by k_is : PySem.W.subIn _ (.ref _) (.type "BaseException") = _) (by kernel_rfl))
  (case hd0 => exact TK.via KX (f := fun K => PySem.W.hasDictIn K _) (by k_is : PySem.W.hasDictIn _ _ = _) (by kernel_rfl))
  (case ha0 => exact TK.via KX (f := fun K => PySem.W.findIn K (.ref _) "__class__") (by k_is : PySem.W.findIn _ (.ref _) "__class__" = _) (by kernel_rfl))
  (case hm0 => exact TK.via KX (f := fun K => PySem.W.mroIn K _ (.type "object")) (by k_is : PySem.W.mroIn _ _ (.type "object") = _) (by kernel_rfl))
  (case hv0 => exact TK.via KX (f := fun K => PySem.W.kitOne K (.ref _) (.type "ValueError")) (by kernel_rfl : PySem.W.kitOne _ (.ref _) (.type "ValueError") = _) (by kernel_rfl))
  (case ht0 => exact TK.via KX (f := fun K => PySem.W.exmOne K (.ref _) (.ref _)) (by kernel_rfl : PySem.W.exmOne _ (.ref _) (.ref _) = _) (by kernel_rfl))
  (case o00 => exact TK.via KX (f := fun K => PySem.W.kitOne K (.ref _) (.ref _)) (by kernel_rfl : PySem.W.kitOne _ (.ref _) (.ref _) = _) (by kernel_rfl))
  (case o01 => exact TK.via KX (f := fun K => PySem.W.kitOne K (.ref _) (.ref _)) (by kernel_rfl : PySem.W.kitOne _ (.ref _) (.ref _) = _) (by kernel_rfl))
  (case o02 => exact TK.via KX (f := fun K => PySem.W.kitOne K (.ref _) (.ref _)) (by kernel_rfl : PySem.W.kitOne _ (.ref _) (.ref _) = _) (by kernel_rfl))
  (case o03 => exact TK.via KX (f := fun K => PySem.W.kitOne K (.ref _) (.ref _)) (by kernel_rfl : PySem.W.kitOne _ (.ref _) (.ref _) = _) (by kernel_rfl))
  (case o04 => exact TK.via KX (f := fun K => PySem.W.kitOne K (.ref _) (.ref _)) (by kernel_rfl : PySem.W.kitOne _ (.ref _) (.ref _) = _) (by kernel_rfl))
  (case o05 => exact TK.via KX (f := fun K => PySem.W.kitOne K (.ref _) (.ref _)) (by kernel_rfl : PySem.W.kitOne _ (.ref _) (.ref _) = _) (by kernel_rfl))
  (case hg1 => exact TK.via KX (f := fun K => PySem.W.findIn K (.ref _) "__getattribute__") (by k_is : PySem.W.findIn _ (.ref _) "__getattribute__" = _) (by kernel_rfl))
  (case hk1 => exact TK.via KX (f := fun K => PySem.W.findIn K (.ref _) "__getattr__") (by k_is : PySem.W.findIn _ (.ref _) "__getattr__" = _) (by kernel_rfl))
  (case hs1 => exact TK.via KX (f := fun K => PySem.W.subIn K (.ref _) (.type "BaseException")) (by k_is : PySem.W.subIn _ (.ref _) (.type "BaseException") = _) (by kernel_rfl))
  (case hd1 => exact TK.via KX (f := fun K => PySem.W.hasDictIn K _) (by k_is : PySem.W.hasDictIn _ _ = _) (by kernel_rfl))
  (case ha1 => exact TK.via KX (f := fun K => PySem.W.findIn K (.ref _) "__class__") (by k_is : PySem.W.findIn _ (.ref _) "__class__" = _) (by kernel_rfl))
  (case hm1 => exact TK.via KX (f := fun K => PySem.W.mroIn K _ (.type "object")) (by k_is : PySem.W.mroIn _ _ (.type "object") = _) (by kernel_rfl))
  (case hv1 => exact TK.via KX (f := fun K => PySem.W.kitOne K (.ref _) (.type "ValueError")) (by kernel_rfl : PySem.W.kitOne _ (.ref _) (.type "ValueError") = _) (by kernel_rfl))
  (case ht1 => exact TK.via KX (f := fun K => PySem.W.exmOne K (.ref _) (.ref _)) (by kernel_rfl : PySem.W.exmOne _ (.ref _) (.ref _) = _) (by kernel_rfl))
  (case o10 => exact TK.via KX (f := fun K => PySem.W.kitOne K (.ref _) (.ref _)) (by kernel_rfl : PySem.W.kitOne _ (.ref _) (.ref _) = _) (by kernel_rfl))
  (case o11 => exact TK.via KX (f := fun K => PySem.W.kitOne K (.ref _) (.ref _)) (by kernel_rfl : PySem.W.kitOne _ (.ref _) (.ref _) = _) (by kernel_rfl))
  (case o12 => exact TK.via KX (f := fun K => PySem.W.kitOne K (.ref _) (.ref _)) (by kernel_rfl : PySem.W.kitOne _ (.ref _) (.ref _) = _) (by kernel_rfl))
  (case o13 => exact TK.via KX (f := fun K => PySem.W.kitOne K (.ref _) (.ref _)) (by kernel_rfl : PySem.W.kitOne _ (.ref _) (.ref _) = _) (by kernel_rfl))
  (case o14 => exact TK.via KX (f := fun K => PySem.W.kitOne K (.ref _) (.ref _)) (by kernel_rfl : PySem.W.kitOne _ (.ref _) (.ref _) = _) (by kernel_rfl))
  (case o15 => exact TK.via KX (f := fun K => PySem.W.kitOne K (.ref _) (.ref _)) (by kernel_rfl : PySem.W.kitOne _ (.ref _) (.ref _) = _) (by kernel_rfl))
  (case hg2 => exact TK.via KX (f := fun K => PySem.W.findIn K (.ref _) "__getattribute__") (by k_is : PySem.W.findIn _ (.ref _) "__getattribute__" = _) (by kernel_rfl))
  (case hk2 => exact TK.via KX (f := fun K => PySem.W.findIn K (.ref _) "__getattr__") (by k_is : PySem.W.findIn _ (.ref _) "__getattr__" = _) (by kernel_rfl))
  (case hs2 => exact TK.via KX (f := fun K => PySem.W.subIn K (.ref _) (.type "BaseException")) (by k_is : PySem.W.subIn _ (.ref _) (.type "BaseException") = _) (by kernel_rfl))
  (case hd2 => exact TK.via KX (f := fun K => PySem.W.hasDictIn K _) (by k_is : PySem.W.hasDictIn _ _ = _) (by kernel_rfl))
  (case ha2 => exact TK.via KX (f := fun K => PySem.W.findIn K (.ref _) "__class__") (by k_is : PySem.W.findIn _ (.ref _) "__class__" = _) (by kernel_rfl))
  (case hm2 => exact TK.via KX (f := fun K => PySem.W.mroIn K _ (.type "object")) (by k_is : PySem.W.mroIn _ _ (.type "object") = _) (by kernel_rfl))
  (case hv2 => exact TK.via KX (f := fun K => PySem.W.kitOne K (.ref _) (.type "ValueError")) (by kernel_rfl : PySem.W.kitOne _ (.ref _) (.type "ValueError") = _) (by kernel_rfl))
  (case ht2 => exact TK.via KX (f := fun K => PySem.W.exmOne K (.ref _) (.ref _)) (by kernel_rfl : PySem.W.exmOne _ (.ref _) (.ref _) = _) (by kernel_rfl))
  (case o20 => exact TK.via KX (f := fun K => PySem.W.kitOne K (.ref _) (.ref _)) (by kernel_rfl : PySem.W.kitOne _ (.ref _) (.ref _) = _) (by kernel_rfl))
  (case o21 => exact TK.via KX (f := fun K => PySem.W.kitOne K (.ref _) (.ref _)) (by kernel_rfl : PySem.W.kitOne _ (.ref _) (.ref _) = _) (by kernel_rfl))
  (case o22 => exact TK.via KX (f := fun K => PySem.W.kitOne K (.ref _) (.ref _)) (by kernel_rfl : PySem.W.kitOne _ (.ref _) (.ref _) = _) (by kernel_rfl))
  (case o23 => exact TK.via KX (f := fun K => PySem.W.kitOne K (.ref _) (.ref _)) (by kernel_rfl : PySem.W.kitOne _ (.ref _) (.ref _) = _) (by kernel_rfl))
  (case o24 => exact TK.via KX (f := fun K => PySem.W.kitOne K (.ref _) (.ref _)) (by kernel_rfl : PySem.W.kitOne _ (.ref _) (.ref _) = _) (by kernel_rfl))
  (case o25 => exact TK.via KX (f := fun K => PySem.W.kitOne K (.ref _) (.ref _)) (by kernel_rfl : PySem.W.kitOne _ (.ref _) (.ref _) = _) (by kernel_rfl))
  (case hg3 => exact TK.via KX (f := fun K => PySem.W.findIn K (.ref _) "__getattribute__") (by k_is : PySem.W.findIn _ (.ref _) "__getattribute__" = _) (by kernel_rfl))
  (case hk3 => exact TK.via KX (f := fun K => PySem.W.findIn K (.ref _) "__getattr__") (by k_is : PySem.W.findIn _ (.ref _) "__getattr__" = _) (by kernel_rfl))
  (case hs3 => exact TK.via KX (f := fun K => PySem.W.subIn K (.ref _) (.type "BaseException")) (by k_is : PySem.W.subIn _ (.ref _) (.type "BaseException") = _) (by kernel_rfl))
  (case hd3 => exact TK.via KX (f := fun K => PySem.W.hasDictIn K _) (by k_is : PySem.W.hasDictIn _ _ = _) (by kernel_rfl))
  (case ha3 => exact TK.via KX (f := fun K => PySem.W.findIn K (.ref _) "__class__") (by k_is : PySem.W.findIn _ (.ref _) "__class__" = _) (by kernel_rfl))
  (case hm3 => exact TK.via KX (f := fun K => PySem.W.mroIn K _ (.type "object")) (by k_is : PySem.W.mroIn _ _ (.type "object") = _) (by kernel_rfl))
  (case hv3 => exact TK.via KX (f := fun K => PySem.W.kitOne K (.ref _) (.type "ValueError")) (by kernel_rfl : PySem.W.kitOne _ (.ref _) (.type "ValueError") = _) (by kernel_rfl))
  (case ht3 => exact TK.via KX (f := fun K => PySem.W.exmOne K (.ref _) (.ref _)) (by kernel_rfl : PySem.W.exmOne _ (.ref _) (.ref _) = _) (by kernel_rfl))
  (case o30 => exact TK.via KX (f := fun K => PySem.W.kitOne K (.ref _) (.ref _)) (by kernel_rfl : PySem.W.kitOne _ (.ref _) (.ref _) = _) (by kernel_rfl))
  (case o31 => exact TK.via KX (f := fun K => PySem.W.kitOne K (.ref _) (.ref _)) (by kernel_rfl : PySem.W.kitOne _ (.ref _) (.ref _) = _) (by kernel_rfl))
  (case o32 => exact TK.via KX (f := fun K => PySem.W.kitOne K (.ref _) (.ref _)) (by kernel_rfl : PySem.W.kitOne _ (.ref _) (.ref _) = _) (by kernel_rfl))
  (case o33 => exact TK.via KX (f := fun K => PySem.W.kitOne K (.ref _) (.ref _)) (by kernel_rfl : PySem.W.kitOne _ (.ref _) (.ref _) = _) (by kernel_rfl))
  (case o34 => exact TK.via KX (f := fun K => PySem.W.kitOne K (.ref _) (.ref _)) (by kernel_rfl : PySem.W.kitOne _ (.ref _) (.ref _) = _) (by kernel_rfl))
  (case o35 => exact TK.via KX (f := fun K => PySem.W.kitOne K (.ref _) (.ref _)) (by kernel_rfl : PySem.W.kitOne _ (.ref _) (.ref _) = _) (by kernel_rfl))
  (case hg4 => exact TK.via KX (f := fun K => PySem.W.findIn K (.ref _) "__getattribute__") (by k_is : PySem.W.findIn _ (.ref _) "__getattribute__" = _) (by kernel_rfl))
  (case hk4 => exact TK.via KX (f := fun K => PySem.W.findIn K (.ref _) "__getattr__") (by k_is : PySem.W.findIn _ (.ref _) "__getattr__" = _) (by kernel_rfl))
  (case hs4 => exact TK.via KX (f := fun K => PySem.W.subIn K (.ref _) (.type "BaseException")) (by k_is : PySem.W.subIn _ (.ref _) (.type "BaseException") = _) (by kernel_rfl))
  (case hd4 => exact TK.via KX (f := fun K => PySem.W.hasDictIn K _) (by k_is : PySem.W.hasDictIn _ _ = _) (by kernel_rfl))
  (case ha4 => exact TK.via KX (f := fun K => PySem.W.findIn K (.ref _) "__class__") (by k_is : PySem.W.findIn _ (.ref _) "__class__" = _) (by kernel_rfl))
  (case hm4 => exact TK.via KX (f := fun K => PySem.W.mroIn K _ (.type "object")) (by k_is : PySem.W.mroIn _ _ (.type "object") = _) (by kernel_rfl))
  (case hv4 => exact TK.via KX (f := fun K => PySem.W.kitOne K (.ref _) (.type "ValueError")) (by kernel_rfl : PySem.W.kitOne _ (.ref _) (.type "ValueError") = _) (by kernel_rfl))
  (case ht4 => exact TK.via KX (f := fun K => PySem.W.exmOne K (.ref _) (.ref _)) (by kernel_rfl : PySem.W.exmOne _ (.ref _) (.ref _) = _) (by kernel_rfl))
  (case o40 => exact TK.via KX (f := fun K => PySem.W.kitOne K (.ref _) (.ref _)) (by kernel_rfl : PySem.W.kitOne _ (.ref _) (.ref _) = _) (by kernel_rfl))
  (case o41 => exact TK.via KX (f := fun K => PySem.W.kitOne K (.ref _) (.ref _)) (by kernel_rfl : PySem.W.kitOne _ (.ref _) (.ref _) = _) (by kernel_rfl))
  (case o42 => exact TK.via KX (f := fun K => PySem.W.kitOne K (.ref _) (.ref _)) (by kernel_rfl : PySem.W.kitOne _ (.ref _) (.ref _) = _) (by kernel_rfl))
  (case o43 => exact TK.via KX (f := fun K => PySem.W.kitOne K (.ref _) (.ref _)) (by kernel_rfl : PySem.W.kitOne _ (.ref _) (.ref _) = _) (by kernel_rfl))
  (case o44 => exact TK.via KX (f := fun K => PySem.W.kitOne K (.ref _) (.ref _)) (by kernel_rfl : PySem.W.kitOne _ (.ref _) (.ref _) = _) (by kernel_rfl))
  (case o45 => exact TK.via KX (f := fun K => PySem.W.kitOne K (.ref _) (.ref _)) (by kernel_rfl : PySem.W.kitOne _ (.ref _) (.ref _) = _) (by kernel_rfl))
  (case hg5 => exact TK.via KX (f := fun K => PySem.W.findIn K (.ref _) "__getattribute__") (by k_is : PySem.W.findIn _ (.ref _) "__getattribute__" = _) (by kernel_rfl))
  (case hk5 => exact TK.via KX (f := fun K => PySem.W.findIn K (.ref _) "__getattr__") (by k_is : PySem.W.findIn _ (.ref _) "__getattr__" = _) (by kernel_rfl))
  (case hs5 => exact TK.via KX (f := fun K => PySem.W.subIn K (.ref _) (.type "BaseException")) (by k_is : PySem.W.subIn _ (.ref _) (.type "BaseException") = _) (by kernel_rfl))
  (case hd5 => exact TK.via KX (f := fun K => PySem.W.hasDictIn K _) (by k_is : PySem.W.hasDictIn _ _ = _) (by kernel_rfl))
  (case ha5 => exact TK.via KX (f := fun K => PySem.W.findIn K (.ref _) "__class__") (by k_is : PySem.W.findIn _ (.ref _) "__class__" = _) (by kernel_rfl))
  (case hm5 => exact TK.via KX (f := fun K => PySem.W.mroIn K _ (.type "object")) (by k_is : PySem.W.mroIn _ _ (.type "object") = _) (by kernel_rfl))
  (case hv5 => exact TK.via KX (f := fun K => PySem.W.kitOne K (.ref _) (.type "ValueError")) (by kernel_rfl : PySem.W.kitOne _ (.ref _) (.type "ValueError") = _) (by kernel_rfl))
  (case ht5 => exact TK.via KX (f := fun K => PySem.W.exmOne K (.ref _) (.ref _)) (by kernel_rfl : PySem.W.exmOne _ (.ref _) (.ref _) = _) (by kernel_rfl))
  (case o50 => exact TK.via KX (f := fun K => PySem.W.kitOne K (.ref _) (.ref _)) (by kernel_rfl : PySem.W.kitOne _ (.ref _) (.ref _) = _) (by kernel_rfl))
  (case o51 => exact TK.via KX (f := fun K => PySem.W.kitOne K (.ref _) (.ref _)) (by kernel_rfl : PySem.W.kitOne _ (.ref _) (.ref _) = _) (by kernel_rfl))
  (case o52 => exact TK.via KX (f := fun K => PySem.W.kitOne K (.ref _) (.ref _)) (by kernel_rfl : PySem.W.kitOne _ (.ref _) (.ref _) = _) (by kernel_rfl))
  (case o53 => exact TK.via KX (f := fun K => PySem.W.kitOne K (.ref _) (.ref _)) (by kernel_rfl : PySem.W.kitOne _ (.ref _) (.ref _) = _) (by kernel_rfl))
  (case o54 => exact TK.via KX (f := fun K => PySem.W.kitOne K (.ref _) (.ref _)) (by kernel_rfl : PySem.W.kitOne _ (.ref _) (.ref _) = _) (by kernel_rfl))
  (case o55 => exact TK.via KX (f := fun K => PySem.W.kitOne K (.ref _) (.ref _)) (by kernel_rfl : PySem.W.kitOne _ (.ref _) (.ref _) = _) (by kernel_rfl))
  (case eAR => first | rfl | decide +kernel)
  (case eAC => first | rfl | decide +kernel)
  (case eEM => first | rfl | decide +kernel)
  (case eLE => first | rfl | decide +kernel)
  (case eMS => first | rfl | decide +kernel)
  (case eMX => first | rfl | decide +kernel)
  (case eMR => first | rfl | decide +kernel)
  (case hDC => first | decide | omega)
  (case h0 => first | decide | omega)
  (case hn => first | decide | omega)
