import PyProof.Rows.All
import Wide.All
import OpenK.AllK
import Wide.FinOn
import KE.GoesMore
import KE.KStar
import HandS.ForMost
import HandS.Star
import HandS.Walk
import HandS.SlotsOwn
import HandS.ClsMeth
import HandS.Property
import HandS.OwnEq
import KE.KOpsOwn
import HandS.Text
import HandS.Replace
import HandS.Codes
import HandS.IsInst
import HandS.SetKeys
import PyProof.Rows.StrPadFill
import PyProof.Rows.StrStrike
import HandS.Ends
import HandS.ExcInit
import HandS.Nested
import HandS.FStr
import KE.KExcSuper
import KE.KSuper
import HandS.WordsExc
import HandS.ExcIs
import HandS.ExcField
import HandS.Lambda
import KE.KExcIs
import HandS.TupSets
import PyProof.InstNe
import HandS.ExcOwn
import PyProof.ExcBaseAll.ValueError
import PyProof.StrBlock2
import PyProof.ListStr
import HandS.Dict
import HandS.Comp
import HandS.StrMore
import HandS.DictComp
import KE.KMathG
import HandS.Gcd
import HandS.Conv
import HandS.SortRule
import KE.LtData
import KE.KDictCopyH
import PyProof.CollectStr
import PyProof.ConsumeS
import PyProof.MinMaxWalk
import PyProof.SeqI3
import HandS.Style
import HandS.EndTab
import KE.KNestM
import PySem.Challenge.RW_tiltheap_k15_whole_circles_and_exchanges
section
set_option Elab.async false
set_option maxRecDepth 100000
set_option maxHeartbeats 4000000
namespace TH
open PySem PySem.Spec PyProof.Rows L2

/-- texts with their tokens -/
abbrev Tx := List (Str × Tok)
abbrev txv (ts : Tx) : List Value := ts.map fun v => .str v.1 v.2
abbrev txo (v : Str × Tok) : Obj := { cls := .type (strIterType v.1), data := .fields #[.str v.1 v.2, .int 0 0] }
def laid (h : Heap) : Tx → Heap
  | [] => h
  | v :: r => laid (h.push (txo v)) r
def refs (n : Nat) : Nat → List Value
  | 0 => []
  | k + 1 => .ref n :: refs (n + 1) k
theorem laid_size : ∀ (ts : Tx) (h : Heap), (laid h ts).objs.size = h.objs.size + ts.length
  | [], h => rfl
  | v :: r, h => by
    show (laid (h.push (txo v)) r).objs.size = _
    rw [laid_size r, Heap.size_push, List.length_cons]
    omega
theorem laid_old : ∀ (ts : Tx) (h : Heap) (b : Addr) (o : Obj), h.get? b = some o → (laid h ts).get? b = some o
  | [], _, _, _, e => e
  | _ :: r, _, b, o, e => laid_old r _ b o (Heap.get?_push_of_some _ e)
theorem laid_at : ∀ (ts : Tx) (h : Heap) (k : Nat) (v : Str × Tok), ts[k]? = some v → (laid h ts).get? (h.objs.size + k) = some (txo v)
  | [], _, k, _, e => by simp at e
  | u :: r, h, 0, v, e => by
    have e' : u = v := by simpa using e
    subst e'
    exact laid_old r _ _ _ (Heap.get?_push_size _ rfl)
  | u :: r, h, k + 1, v, e => by
    have z := laid_at r (h.push (txo u)) k v (by simpa using e)
    rw [Heap.size_push] at z
    have e2 : h.objs.size + 1 + k = h.objs.size + (k + 1) := by omega
    rw [e2] at z
    exact z
theorem refs_length (n : Nat) : ∀ k, (refs n k).length = k := fun k => by
  induction k generalizing n with
  | zero => rfl
  | succ k ih => show (refs (n + 1) k).length + 1 = k + 1; rw [ih]
theorem refs_at : ∀ (n k i : Nat), i < k → (refs n k)[i]? = some (.ref (n + i))
  | n, 0, i, h => absurd h (Nat.not_lt_zero _)
  | n, k + 1, 0, _ => rfl
  | n, k + 1, i + 1, h => by
    have z := refs_at (n + 1) k i (Nat.lt_of_succ_lt_succ h)
    have e : n + 1 + i = n + (i + 1) := by omega
    rw [e] at z
    simpa [refs] using z

section
variable {prog : Program} {w : World} {A : Around} {E : Value → Shared → Prop}
theorem iterAll_texts : ∀ (ts : Tx) (acc : Array Value) (s : Shared) (Q : Array Value → Shared → Prop), Q (acc ++ (refs s.heap.objs.size ts.length).toArray) { s with heap := laid s.heap ts } →
    wpAny (model prog w) A (forIn (txv ts) acc fun x r => (do let y ← holding r.toList (pyIter x); pure (ForInStep.yield (r.push y)))) Q E s
  | [], acc, s, Q, h => by
    rw [txv, List.map_nil, List.forIn_nil]
    refine wpAny_pure ?_
    simpa [refs, laid] using h
  | v :: r, acc, s, Q, h => by
    rw [txv, List.map_cons, List.forIn_cons]
    refine wpAny_bind (wpAny_bind (wpAny_holding (wpAny_pyIter_strU (wpAny_pure ?_))))
    refine iterAll_texts r _ _ Q ?_
    have e : acc.push (.ref s.heap.objs.size) ++ (refs (s.heap.push (txo v)).objs.size r.length).toArray = acc ++ (refs s.heap.objs.size (r.length + 1)).toArray := by
      rw [Heap.size_push]
      apply Array.toList_inj.mp
      simp [refs]
    show Q (acc.push (.ref s.heap.objs.size) ++ (refs (s.heap.push (txo v)).objs.size r.length).toArray) _
    rw [e]
    exact h
theorem iterAll_ok (ts : Tx) {s : Shared} {Q : List Value → Shared → Prop} (h : Q (refs s.heap.objs.size ts.length) { s with heap := laid s.heap ts }) :
    wpAny (model prog w) A (Builtin.SmallTypes.iterAll (txv ts)) Q E s := by
  unfold Builtin.SmallTypes.iterAll
  refine wpAny_bind (iterAll_texts ts #[] s _ ?_)
  refine wpAny_pure ?_
  simpa using h
end
end TH
end
section
set_option Elab.async false
set_option maxRecDepth 100000
set_option maxHeartbeats 4000000
namespace TH
open PySem PySem.Spec PyProof.Rows L2

abbrev tupO (l : List Value) : Obj := { cls := .type "tuple", data := .seq l.toArray }
abbrev zipO (f0 f1 : Value) (TI TO : Addr) : Obj := { cls := .type "zip", data := .fields #[f0, f1, .bool false, .ref TI, .ref TO] }
def zheap (h : Heap) (ts : Tx) : Heap :=
  (((laid h ts).push (tupO (refs h.objs.size ts.length))).push (tupO ((refs h.objs.size ts.length).map fun _ => .none))).push (zipO .none (.bool false) (h.objs.size + ts.length) (h.objs.size + ts.length + 1))

theorem argsOk_init : ∀ (obj : Value) (ts : Tx), ts.length ≤ 8 → argsOk "object.__init__" ⟨obj :: txv ts, []⟩
  | obj, [], _ => by show argsOk "object.__init__" ⟨[obj], []⟩; unfold argsOk; kernel_rfl
  | obj, [a], _ => by show argsOk "object.__init__" ⟨[obj, _], []⟩; unfold argsOk; kernel_rfl
  | obj, [a, b], _ => by show argsOk "object.__init__" ⟨[obj, _, _], []⟩; unfold argsOk; kernel_rfl
  | obj, [a, b, c], _ => by show argsOk "object.__init__" ⟨[obj, _, _, _], []⟩; unfold argsOk; kernel_rfl
  | obj, [a, b, c, d], _ => by show argsOk "object.__init__" ⟨[obj, _, _, _, _], []⟩; unfold argsOk; kernel_rfl
  | obj, [a, b, c, d, e], _ => by show argsOk "object.__init__" ⟨[obj, _, _, _, _, _], []⟩; unfold argsOk; kernel_rfl
  | obj, [a, b, c, d, e, f], _ => by show argsOk "object.__init__" ⟨[obj, _, _, _, _, _, _], []⟩; unfold argsOk; kernel_rfl
  | obj, [a, b, c, d, e, f, g], _ => by show argsOk "object.__init__" ⟨[obj, _, _, _, _, _, _, _], []⟩; unfold argsOk; kernel_rfl
  | obj, [a, b, c, d, e, f, g, h], _ => by show argsOk "object.__init__" ⟨[obj, _, _, _, _, _, _, _, _], []⟩; unfold argsOk; kernel_rfl
  | obj, _ :: _ :: _ :: _ :: _ :: _ :: _ :: _ :: _ :: r, h => by simp at h
theorem typeCall_zip : ∀ (ts : Tx), ts.length ≤ 8 → checkTypeCall "zip" ⟨txv ts, []⟩ = pure ()
  | [], _ => by show checkTypeCall "zip" ⟨[], []⟩ = pure (); kernel_rfl
  | [a], _ => by show checkTypeCall "zip" ⟨[_], []⟩ = pure (); kernel_rfl
  | [a, b], _ => by show checkTypeCall "zip" ⟨[_, _], []⟩ = pure (); kernel_rfl
  | [a, b, c], _ => by show checkTypeCall "zip" ⟨[_, _, _], []⟩ = pure (); kernel_rfl
  | [a, b, c, d], _ => by show checkTypeCall "zip" ⟨[_, _, _, _], []⟩ = pure (); kernel_rfl
  | [a, b, c, d, e], _ => by show checkTypeCall "zip" ⟨[_, _, _, _, _], []⟩ = pure (); kernel_rfl
  | [a, b, c, d, e, f], _ => by show checkTypeCall "zip" ⟨[_, _, _, _, _, _], []⟩ = pure (); kernel_rfl
  | [a, b, c, d, e, f, g], _ => by show checkTypeCall "zip" ⟨[_, _, _, _, _, _, _], []⟩ = pure (); kernel_rfl
  | [a, b, c, d, e, f, g, h], _ => by show checkTypeCall "zip" ⟨[_, _, _, _, _, _, _, _], []⟩ = pure (); kernel_rfl
  | _ :: _ :: _ :: _ :: _ :: _ :: _ :: _ :: _ :: r, h => by simp at h
theorem newCall_zip : ∀ (ts : Tx), ts.length ≤ 8 → checkBuiltinCall "zip.__new__" ⟨.type "zip" :: txv ts, []⟩ = pure ()
  | [], _ => by show checkBuiltinCall "zip.__new__" ⟨[_], []⟩ = pure (); kernel_rfl
  | [a], _ => by show checkBuiltinCall "zip.__new__" ⟨[_, _], []⟩ = pure (); kernel_rfl
  | [a, b], _ => by show checkBuiltinCall "zip.__new__" ⟨[_, _, _], []⟩ = pure (); kernel_rfl
  | [a, b, c], _ => by show checkBuiltinCall "zip.__new__" ⟨[_, _, _, _], []⟩ = pure (); kernel_rfl
  | [a, b, c, d], _ => by show checkBuiltinCall "zip.__new__" ⟨[_, _, _, _, _], []⟩ = pure (); kernel_rfl
  | [a, b, c, d, e], _ => by show checkBuiltinCall "zip.__new__" ⟨[_, _, _, _, _, _], []⟩ = pure (); kernel_rfl
  | [a, b, c, d, e, f], _ => by show checkBuiltinCall "zip.__new__" ⟨[_, _, _, _, _, _, _], []⟩ = pure (); kernel_rfl
  | [a, b, c, d, e, f, g], _ => by show checkBuiltinCall "zip.__new__" ⟨[_, _, _, _, _, _, _, _], []⟩ = pure (); kernel_rfl
  | [a, b, c, d, e, f, g, h], _ => by show checkBuiltinCall "zip.__new__" ⟨[_, _, _, _, _, _, _, _, _], []⟩ = pure (); kernel_rfl
  | _ :: _ :: _ :: _ :: _ :: _ :: _ :: _ :: _ :: r, h => by simp at h

theorem meets_zip_new (ts : Tx) (hl : ts.length ≤ 8) :
    Meets (Builtin.«zip.__new__» ⟨.type "zip" :: txv ts, []⟩) (fun _ R s => R (.ok (.ret (.ref (s.heap.objs.size + ts.length + 2)))) { s with heap := zheap s.heap ts }) :=
  .of_wp fun prog w A R s h => by
    obtain ⟨hp, g, d, tk, os⟩ := s
    have hsub := sub_zip
    have q1 : ∀ {A' : Around} {E : Value → Shared → Prop} {Q : List Value → Shared → Prop}, Q (refs hp.objs.size ts.length) ⟨laid hp ts, g, d, tk, os⟩ → wpAny (model prog w) A' (Builtin.SmallTypes.iterAll (txv ts)) Q E ⟨hp, g, d, tk, os⟩ :=
      fun q => iterAll_ok ts q
    have sz1 : (refs hp.objs.size ts.length).length ≤ sizeLine := by rw [refs_length]; exact Nat.le_trans hl (by decide)
    unfold Builtin.«zip.__new__»
    wp_walk using q1
    refine ⟨_, rfl, ?_⟩
    have z1 : (laid hp ts).objs.size = hp.objs.size + ts.length := laid_size ts hp
    have z2 : ((laid hp ts).push (tupO (refs hp.objs.size ts.length))).objs.size = hp.objs.size + ts.length + 1 := by rw [Heap.size_push, z1]
    have z3 : (((laid hp ts).push (tupO (refs hp.objs.size ts.length))).push (tupO ((refs hp.objs.size ts.length).map fun _ => .none))).objs.size = hp.objs.size + ts.length + 2 := by rw [Heap.size_push, z2]
    rw [z1, z2, z3]
    exact h

/-- what stands behind zip(..) over texts -/
structure ZAt (h : Heap) (b : Nat) (ts : Tx) (f0 f1 : Value) (i : Nat) : Prop where
  zip : h.get? (b + ts.length + 2) = some (zipO f0 f1 (b + ts.length) (b + ts.length + 1))
  its : h.get? (b + ts.length) = some (tupO (refs b ts.length))
  txt : ∀ (k : Nat) (v : Str × Tok), ts[k]? = some v → h.IsStrIter (b + k) (strIterType v.1) v.1 v.2 i
theorem zheap_old {h : Heap} {ts : Tx} {c : Addr} {o : Obj} (e : h.get? c = some o) : (zheap h ts).get? c = some o :=
  Heap.get?_push_of_some _ (Heap.get?_push_of_some _ (Heap.get?_push_of_some _ (laid_old ts h c o e)))
theorem zheap_at (h : Heap) (ts : Tx) : ZAt (zheap h ts) h.objs.size ts .none (.bool false) 0 ∧ ∃ l, l.length = ts.length ∧ (zheap h ts).get? (h.objs.size + ts.length + 1) = some (tupO l) := by
  have z1 : (laid h ts).objs.size = h.objs.size + ts.length := laid_size ts h
  have z2 : ((laid h ts).push (tupO (refs h.objs.size ts.length))).objs.size = h.objs.size + ts.length + 1 := by rw [Heap.size_push, z1]
  have z3 : (((laid h ts).push (tupO (refs h.objs.size ts.length))).push (tupO ((refs h.objs.size ts.length).map fun _ => .none))).objs.size = h.objs.size + ts.length + 2 := by rw [Heap.size_push, z2]
  have e1 : (zheap h ts).get? (h.objs.size + ts.length) = some (tupO (refs h.objs.size ts.length)) := by
    rw [← z1]
    exact Heap.get?_push_of_some _ (Heap.get?_push_of_some _ (Heap.get?_push_size _ rfl))
  have e2 : (zheap h ts).get? (h.objs.size + ts.length + 1) = some (tupO ((refs h.objs.size ts.length).map fun _ => .none)) := by
    rw [← z2]
    exact Heap.get?_push_of_some _ (Heap.get?_push_size _ rfl)
  have e3 : (zheap h ts).get? (h.objs.size + ts.length + 2) = some (zipO .none (.bool false) (h.objs.size + ts.length) (h.objs.size + ts.length + 1)) := by
    rw [← z3]
    exact Heap.get?_push_size _ rfl
  refine ⟨⟨e3, e1, fun k v hv => ?_⟩, _, ?_, e2⟩
  · exact ⟨_, Heap.get?_push_of_some _ (Heap.get?_push_of_some _ (Heap.get?_push_of_some _ (laid_at ts h k v hv))), rfl, rfl⟩
  · rw [List.length_map, refs_length]

theorem call_zip {prog : Program} {w : World} {A : Around} {E : Value → Shared → Prop} {s : Shared} {Q : Value → Shared → Prop} (ts : Tx) (hl : ts.length ≤ 8)
    (h : Q (.ref (s.heap.objs.size + ts.length + 2)) { s with heap := zheap s.heap ts }) : wpAny (model prog w) A (call (.type "zip") (txv ts)) Q E s := by
  refine callType_new F.called_zip (by decide) (typeCall_zip ts hl) (newCall_zip ts hl) (fun obj => argsOk_init obj ts hl) F.entry_zip_new (meets_zip_new ts hl) ?_
  have e3 := (zheap_at s.heap ts).1.zip
  exact ⟨⟨_, e3, rfl⟩, h⟩
end TH
end
section
set_option Elab.async false
set_option maxRecDepth 100000
set_option maxHeartbeats 4000000
namespace TH
open PySem PySem.Spec PyProof.Rows L2
theorem nn {x y : Nat} (h : x < y ∨ y < x) : x ≠ y := fun e => by subst e; omega
section
variable {prog : Program} {w : World} {A : Around} {E : Value → Shared → Prop}
/-- a loop over a list of the model's own, by what holds ahead of its k-th turn -/
theorem loop_inv {α β : Type} {f : α → β → Sem (ForInStep β)} {Q : β → Shared → Prop} (I : Nat → β → Shared → Prop) : ∀ (xs : List α) (n : Nat) (y : β) (s : Shared), I n y s →
    (∀ k x y s, xs[k]? = some x → I (n + k) y s → wpAny (model prog w) A (f x y) (fun r s' => ∃ y', r = .yield y' ∧ I (n + k + 1) y' s') E s) →
    (∀ y s, I (n + xs.length) y s → Q y s) → wpAny (model prog w) A (forIn xs y f) Q E s
  | [], n, y, s, h0, _, he => by
    rw [List.forIn_nil]
    exact wpAny_pure (he y s h0)
  | x :: r, n, y, s, h0, hs, he => by
    rw [List.forIn_cons]
    refine wpAny_bind (wpAny_mono (hs 0 x y s rfl h0) (fun r1 s1 hr => ?_) fun _ _ z => z)
    obtain ⟨y1, rfl, h1⟩ := hr
    refine loop_inv I r (n + 1) y1 s1 h1 (fun k x' y' s' hk hI => ?_) fun y' s' hI => he y' s' ?_
    · have z := hs (k + 1) x' y' s' (by simpa using hk) (by
        have e : n + 1 + k = n + (k + 1) := by omega
        rw [e] at hI
        exact hI)
      have e : n + (k + 1) + 1 = n + 1 + k + 1 := by omega
      rw [e] at z
      exact z
    · have e : n + 1 + r.length = n + (r.length + 1) := by omega
      rw [e] at hI
      exact hI

/-- the signs of the texts at place i -/
def ColAt (ts : Tx) (i : Nat) (l : List Value) : Prop := l.length = ts.length ∧ ∀ (k : Nat) (v : Str × Tok), ts[k]? = some v → ∃ (c : Nat) (u : Tok), v.1.cps[i]? = some c ∧ l[k]? = some (Value.str ⟨#[c]⟩ u)
/-- outside b .. b + n all stands -/
def Out (b n : Nat) (h h' : Heap) : Prop := h'.objs.size = h.objs.size ∧ ∀ (c : Nat) (o : Obj), (c < b ∨ b + n < c) → h.get? c = some o → h'.get? c = some o
/-- k of the iterators have gone on -/
structure Mid (hp : Heap) (b : Nat) (ts : Tx) (f0 : Value) (i k : Nat) (h : Heap) : Prop where
  out : Out b (ts.length + 2) hp h
  zip : ∃ f1, h.get? (b + ts.length + 2) = some (zipO f0 f1 (b + ts.length) (b + ts.length + 1))
  its : h.get? (b + ts.length) = some (tupO (refs b ts.length))
  txt : ∀ (j : Nat) (v : Str × Tok), ts[j]? = some v → h.IsStrIter (b + j) (strIterType v.1) v.1 v.2 (if j < k then i + 1 else i)
theorem strIter_other {h h' : Heap} {a c : Addr} {ty : String} {x : Str} {t : Tok} {i : Nat} (q : h.IsStrIter a ty x t i) (sb : Heap.SameBut c h h') (hne : a ≠ c) : h'.IsStrIter a ty x t i := by
  obtain ⟨o, ho, r⟩ := q
  exact ⟨o, (sb.2 a hne).trans ho, r⟩
theorem Mid.step {hp h h' : Heap} {b : Nat} {ts : Tx} {f0 : Value} {i k : Nat} {v : Str × Tok} (M : Mid hp b ts f0 i k h) (hk : ts[k]? = some v) (sb : Heap.SameBut (b + k) h h') (st : h'.IsStrIter (b + k) (strIterType v.1) v.1 v.2 (i + 1)) : Mid hp b ts f0 i (k + 1) h' := by
  have hkl : k < ts.length := (List.getElem?_eq_some_iff.mp hk).1
  obtain ⟨f1, hz⟩ := M.zip
  refine ⟨⟨sb.1.trans M.out.1, fun c o hc e => (sb.2 c (nn (by omega))).trans (M.out.2 c o hc e)⟩, ⟨f1, (sb.2 (b + ts.length + 2) (nn (by omega))).trans hz⟩, (sb.2 (b + ts.length) (nn (by omega))).trans M.its, fun j u hj => ?_⟩
  by_cases hjk : j = k
  · subst hjk
    rw [if_pos (Nat.lt_succ_self _)]
    rw [hk] at hj
    cases hj
    exact st
  · have z := strIter_other (M.txt j u hj) sb (nn (x := b + j) (y := b + k) (by omega))
    by_cases hlt : j < k
    · rw [if_pos hlt] at z
      rw [if_pos (show j < k + 1 by omega)]
      exact z
    · rw [if_neg hlt] at z
      rw [if_neg (show ¬ j < k + 1 by omega)]
      exact z
theorem Mid.other {hp h h' : Heap} {b : Nat} {ts : Tx} {f0 : Value} {i k : Nat} (M : Mid hp b ts f0 i k h) (sb : Heap.SameBut (b + ts.length + 1) h h') : Mid hp b ts f0 i k h' := by
  obtain ⟨f1, hz⟩ := M.zip
  refine ⟨⟨sb.1.trans M.out.1, fun c o hc e => (sb.2 c (nn (by omega))).trans (M.out.2 c o hc e)⟩, ⟨f1, (sb.2 (b + ts.length + 2) (nn (by omega))).trans hz⟩, (sb.2 (b + ts.length) (nn (by omega))).trans M.its, fun j u hj => ?_⟩
  have hjl : j < ts.length := (List.getElem?_eq_some_iff.mp hj).1
  exact strIter_other (M.txt j u hj) sb (nn (x := b + j) (y := b + ts.length + 1) (by omega))
theorem Mid.start {hp h : Heap} {b : Nat} {ts : Tx} {f0 g0 f1 : Value} {i : Nat} (Z : ZAt hp b ts f0 f1 i) (sb : Heap.SameBut (b + ts.length + 2) hp h) (hz : ∃ f1, h.get? (b + ts.length + 2) = some (zipO g0 f1 (b + ts.length) (b + ts.length + 1))) : Mid hp b ts g0 i 0 h := by
  refine ⟨⟨sb.1, fun c o hc e => (sb.2 c (nn (by omega))).trans e⟩, hz, (sb.2 (b + ts.length) (nn (by omega))).trans Z.its, fun j u hj => ?_⟩
  have hjl : j < ts.length := (List.getElem?_eq_some_iff.mp hj).1
  rw [if_neg (Nat.not_lt_zero _)]
  exact strIter_other (Z.txt j u hj) sb (nn (x := b + j) (y := b + ts.length + 2) (by omega))
theorem Mid.fin {hp h : Heap} {b : Nat} {ts : Tx} {f0 : Value} {i : Nat} (M : Mid hp b ts f0 i ts.length h) : ∃ f1, ZAt h b ts f0 f1 (i + 1) := by
  obtain ⟨f1, hz⟩ := M.zip
  refine ⟨f1, hz, M.its, fun j v hj => ?_⟩
  have z := M.txt j v hj
  rw [if_pos (List.getElem?_eq_some_iff.mp hj).1] at z
  exact z
/-- the k-th iterator goes on -/
theorem draw_ok {hp : Heap} {s : Shared} {b : Nat} {ts : Tx} {f0 : Value} {i k : Nat} {v : Str × Tok} {Q : Value → Shared → Prop} (hh : A.handled = none) (M : Mid hp b ts f0 i k s.heap) (hk : ts[k]? = some v) (hi : i < v.1.cps.size)
    (hQ : ∀ c u h' tk, v.1.cps[i]? = some c → Mid hp b ts f0 i (k + 1) h' → Heap.SameBut (b + k) s.heap h' → Q (.str ⟨#[c]⟩ u) { s with heap := h', toks := tk }) :
    wpAny (model prog w) A (Builtin.SmallTypes.nextOf (.ref (b + k))) Q E s := by
  have st := M.txt k v hk
  rw [if_neg (Nat.lt_irrefl _)] at st
  refine (Draws.text (prog := prog) (w := w) hh (b + k) v.1 v.2).item i s _ _ hi st fun x h' tk hx st' sb => ?_
  obtain ⟨c, u, hc, rfl⟩ := hx
  exact hQ c u h' tk hc (M.step hk sb st') sb
end
end TH
end
section
set_option Elab.async false
set_option maxRecDepth 100000
set_option maxHeartbeats 4000000
namespace TH
open PySem PySem.Spec PyProof.Rows L2
section
variable {prog : Program} {w : World} {A : Around} {E : Value → Shared → Prop}
theorem refs_ne {b n : Nat} (h : 0 < n) : (refs b n).toArray.isEmpty = false := by
  cases n with
  | zero => exact absurd h (Nat.lt_irrefl _)
  | succ n => rfl
theorem refs_get {b n k : Nat} {x : Value} (h : (refs b n)[k]? = some x) : k < n ∧ x = .ref (b + k) := by
  have hk : k < n := by
    have z := (List.getElem?_eq_some_iff.mp h).1
    rw [refs_length] at z
    exact z
  have z := refs_at b n k hk
  rw [z] at h
  exact ⟨hk, (Option.some.inj h).symm⟩
theorem alive_any {s : Shared} {a : Addr} {Q : Option Obj → Shared → Prop} (h : Q (s.heap.get? a) s) : wpAny (model prog w) A (loadIfAlive a) Q E s := fun _ _ _ => h
/-- what stands between the turns -/
structure Bet (h : Heap) (b : Nat) (ts : Tx) (i : Nat) : Prop where
  at_ : ∃ (f0 : Value) (fb : Bool), ZAt h b ts f0 (.bool fb) i ∧ (f0 = .none ∨ ∃ T : Nat, f0 = rawInt T)
  own : ∃ l : List Value, h.get? (b + ts.length + 1) = some (tupO l) ∧ l.length = ts.length
/-- what a turn hands on -/
def Nxt (hp : Heap) (g : Array GenState) (d : Drawn) (os : OsState) (b : Nat) (ts : Tx) (i : Nat) (Q : Value → Shared → Prop) : Prop :=
  ∀ (us : List Value) (h' : Heap) (tk' : Nat), ColAt ts i us → Bet h' b ts (i + 1) → h'.get? hp.objs.size = some (tupO us) →
    (∀ (c : Nat) (o : Obj), (c < b ∨ b + (ts.length + 2) < c) → hp.get? c = some o → h'.get? c = some o) → Q (.ref hp.objs.size) ⟨h', g, d, tk', os⟩
theorem is_free {s : Shared} {b : Nat} {ts : Tx} {i : Nat} {f0 : Value} {fb : Bool} {Q : Bool → Shared → Prop} (Z : ZAt s.heap b ts f0 (.bool fb) i) (hf : f0 = .none ∨ ∃ T : Nat, f0 = rawInt T)
    (h1 : Q true s) (h2 : ∀ (h' : Heap), Heap.SameBut (b + ts.length + 2) s.heap h' → h'.get? (b + ts.length + 2) = some (zipO f0 (.bool true) (b + ts.length) (b + ts.length + 1)) → Q false { s with heap := h' }) :
    wpAny (model prog w) A (Builtin.SmallTypes.ownedTupleIsFree (.ref (b + ts.length + 2))) Q E s := by
  unfold Builtin.SmallTypes.ownedTupleIsFree
  refine wpAny_bind (wpAny_field Z.zip rfl (x := f0) rfl ?_)
  rcases hf with rfl | ⟨T, rfl⟩
  · exact wpAny_pure h1
  · show wpAny _ _ (loadIfAlive ((T : Int).toNat) >>= _) _ _ _
    rw [Int.toNat_natCast]
    refine wpAny_bind (alive_any ?_)
    cases hT : s.heap.get? T with
    | none => exact wpAny_pure h1
    | some o =>
      simp only [Option.isNone_some, Bool.false_eq_true, if_false]
      refine wpAny_bind (wpAny_field Z.zip rfl (x := .bool fb) rfl ?_)
      cases fb with
      | true => exact wpAny_pure (h2 s.heap (Heap.SameBut.refl _ _) Z.zip)
      | false => exact wpAny_bind (wpAny_setField_rec Z.zip (by simp) fun h' hz hs => wpAny_pure (h2 h' hs hz))
/-- a turn -/
theorem next_item {hp : Heap} {g : Array GenState} {d : Drawn} {tk : Nat} {os : OsState} {b : Nat} {ts : Tx} {i : Nat} {Q : Value → Shared → Prop} (hh : A.handled = none) (B : Bet hp b ts i) (h1 : 0 < ts.length) (h8 : ts.length ≤ 8)
    (hi : ∀ (k : Nat) (v : Str × Tok), ts[k]? = some v → i < v.1.cps.size) (hQ : Nxt hp g d os b ts i Q) :
    wpAny (model prog w) A (Builtin.«zip.__next__» ⟨[.ref (b + ts.length + 2)], []⟩) (fun fin s' => ∃ v, fin = .done (.ret v) ∧ Q v s') E ⟨hp, g, d, tk, os⟩ := by
  obtain ⟨⟨f0, fb, Z, hf⟩, l, hT, hl⟩ := B
  show wpAny _ _ (field (.ref _) 2 >>= _) _ _ _
  refine wpAny_bind (wpAny_field Z.zip rfl (x := .bool false) rfl ?_)
  show wpAny _ _ (field (.ref _) 3 >>= _) _ _ _
  refine wpAny_bind (wpAny_field Z.zip rfl (x := .ref (b + ts.length)) rfl ?_)
  refine wpAny_bind (wpAny_seqItems Z.its rfl ?_)
  dsimp only
  rw [if_neg (by rw [refs_ne h1]; exact Bool.false_ne_true)]
  refine wpAny_bind (is_free Z hf ?_ fun hA hs0 hz0 => ?_)
  · rw [if_pos rfl]
    refine wpAny_bind (wpAny_rule ?_)
    refine wpAny_bind (wpAny_field Z.zip rfl (x := .ref (b + ts.length + 1)) rfl ?_)
    refine wpAny_bind (wpAny_setField_rec Z.zip (by simp) fun g0 hz0 hs0 => ?_)
    replace hs0 : Heap.SameBut (b + ts.length + 2) hp g0 := hs0
    have M0 : Mid hp b ts .ellipsis i 0 g0 := Mid.start Z hs0 ⟨_, hz0⟩
    have hT0 : g0.get? (b + ts.length + 1) = some (tupO l) := (hs0.2 (b + ts.length + 1) (nn (by omega))).trans hT
    refine wpAny_bind (loop_inv (I := fun k y s => y = (none, ()) ∧ (∃ (h : Heap) (tk' : Nat) (us : List Value), s = ⟨h, g, d, tk', os⟩ ∧ Mid hp b ts .ellipsis i k h ∧ h.get? (b + ts.length + 1) = some (tupO us) ∧ us.length = ts.length ∧
        ∀ (j : Nat) (v : Str × Tok), j < k → ts[j]? = some v → ∃ (c : Nat) (u : Tok), v.1.cps[i]? = some c ∧ us[j]? = some (Value.str ⟨#[c]⟩ u))) _ 0 _ _ ⟨rfl, g0, tk, l, rfl, M0, hT0, hl, fun j v hj => absurd hj (Nat.not_lt_zero _)⟩ ?_ ?_)
    · rintro k ⟨x, k'⟩ y s hk ⟨rfl, h, tk', us, rfl, M, hU, hul, hgot⟩
      simp only [Nat.zero_add] at M hgot ⊢
      rw [List.getElem?_zipIdx] at hk
      cases hx : (refs b ts.length)[k]? with
      | none => simp [hx] at hk
      | some x' =>
        simp [hx] at hk
        obtain ⟨e1, e2⟩ := hk
        obtain ⟨hkl, ex⟩ := refs_get hx
        subst e1
        subst ex
        subst e2
        have hv : ts[k]? = some ts[k] := List.getElem?_eq_getElem hkl
        refine wpAny_bind (wpAny_onRaise ?_)
        show wpAny _ _ (Builtin.SmallTypes.nextOf (.ref (b + k)) >>= _) _ _ ⟨h, g, d, tk', os⟩
        refine wpAny_bind (draw_ok hh M hv (hi k _ hv) fun c u h' tk2 hc M' sb => wpAny_pure ?_)
        have hU' : h'.get? (b + ts.length + 1) = some (tupO us) := (sb.2 (b + ts.length + 1) (nn (by omega))).trans hU
        refine wpAny_bind (wpAny_seqItems (s := ⟨h', g, d, tk2, os⟩) hU' rfl ?_)
        refine wpAny_bind (wpAny_updateSeq (s := ⟨h', g, d, tk2, os⟩) hU' rfl ?_)
        refine wpAny_bind (wpAny_letGo (wpAny_pure ⟨_, rfl, rfl, _, _, us.set k (.str ⟨#[c]⟩ u), rfl, M'.other (Heap.SameBut.update ..), ?_, ?_, ?_⟩))
        · rw [Heap.get?_update_self _ hU' rfl]
          simp [Obj.mapSeq]
        · rw [List.length_set]
          exact hul
        · intro j v hj hjv
          by_cases hjk : j = k
          · subst hjk
            rw [hv] at hjv
            cases hjv
            exact ⟨c, u, hc, List.getElem?_set_self (by rw [hul]; exact hkl)⟩
          · obtain ⟨c', u', e1, e2⟩ := hgot j v (by omega) hjv
            exact ⟨c', u', e1, by rw [List.getElem?_set_ne (fun e => hjk e.symm)]; exact e2⟩
    · rintro y s ⟨rfl, h, tk', us, rfl, M, hU, hul, hgot⟩
      have el : 0 + (refs b ts.length).toArray.toList.zipIdx.length = ts.length := by
        simp [refs_length]
      rw [el] at M hgot
      refine wpAny_bind (wpAny_seqItems (s := ⟨h, g, d, tk', os⟩) hU rfl ?_)
      refine wpAny_bind (wpAny_newTuple ?_ (by simp; rw [hul]; exact Nat.le_trans h8 (by decide)))
      obtain ⟨f1, Z1⟩ := M.fin
      have hsz : h.objs.size = hp.objs.size := M.out.1
      have hz1 : (h.push (tupO us)).get? (b + ts.length + 2) = some (zipO .ellipsis f1 (b + ts.length) (b + ts.length + 1)) := Heap.get?_push_of_some _ Z1.zip
      have hzl : b + ts.length + 2 < h.objs.size := Heap.lt_size Z1.zip
      show wpAny _ _ (Builtin.SmallTypes.ownedTupleHandOut (.ref _) (.ref h.objs.size) >>= _) _ _ ⟨h.push (tupO us), g, d, tk', os⟩
      refine wpAny_bind ?_
      unfold Builtin.SmallTypes.ownedTupleHandOut
      refine wpAny_bind (wpAny_setField_rec hz1 (by simp) fun h7 hz7 hs7 => ?_)
      replace hz7 : h7.get? (b + ts.length + 2) = some (zipO (rawInt h.objs.size) f1 (b + ts.length) (b + ts.length + 1)) := hz7
      replace hs7 : Heap.SameBut (b + ts.length + 2) (h.push (tupO us)) h7 := hs7
      refine wpAny_setField_rec hz7 (by simp) fun h8' hz8 hs8 => ?_
      replace hz8 : h8'.get? (b + ts.length + 2) = some (zipO (rawInt h.objs.size) (.bool false) (b + ts.length) (b + ts.length + 1)) := hz8
      replace hs8 : Heap.SameBut (b + ts.length + 2) h7 h8' := hs8
      have up : ∀ (c : Nat) (o : Obj), c ≠ b + ts.length + 2 → h.get? c = some o → h8'.get? c = some o := fun c o hc e => (hs8.2 c hc).trans ((hs7.2 c hc).trans (Heap.get?_push_of_some _ e))
      refine wpAny_pure ⟨_, rfl, ?_⟩
      rw [hsz] at hz8 ⊢
      refine hQ us h8' tk' ⟨hul, fun k v hk => hgot k v (List.getElem?_eq_some_iff.mp hk).1 hk⟩ ⟨⟨_, false, ⟨hz8, up _ _ (nn (by omega)) Z1.its, fun k v hk => ?_⟩, .inr ⟨_, rfl⟩⟩, _, up _ _ (nn (by omega)) hU, hul⟩ ?_ fun c o hc e => ?_
      · have hkl : k < ts.length := (List.getElem?_eq_some_iff.mp hk).1
        obtain ⟨o, ho, r⟩ := Z1.txt k v hk
        exact ⟨o, up _ _ (nn (x := b + k) (y := b + ts.length + 2) (by omega)) ho, r⟩
      · rw [← hsz]
        exact (hs8.2 h.objs.size (nn (by omega))).trans ((hs7.2 h.objs.size (nn (by omega))).trans (Heap.get?_push_size _ rfl))
      · exact up c o (nn (by omega)) (M.out.2 c o hc e)
  · rw [if_neg Bool.false_ne_true]
    have M0 : Mid hp b ts f0 i 0 hA := Mid.start Z hs0 ⟨_, hz0⟩
    have hT0 : hA.get? (b + ts.length + 1) = some (tupO l) := (hs0.2 (b + ts.length + 1) (nn (by omega))).trans hT
    have hz0' : hA.get? (b + ts.length + 2) = some (zipO f0 (.bool true) (b + ts.length) (b + ts.length + 1)) := hz0
    dsimp only
    rw [List.forIn_toArray]
    refine wpAny_bind (loop_inv (I := fun k y s => ∃ (h : Heap) (tk' : Nat) (us : List Value), y = (none, us.toArray) ∧ s = ⟨h, g, d, tk', os⟩ ∧ Mid hp b ts f0 i k h ∧ h.get? (b + ts.length + 2) = some (zipO f0 (.bool true) (b + ts.length) (b + ts.length + 1)) ∧
        h.get? (b + ts.length + 1) = some (tupO l) ∧ us.length = k ∧
        ∀ (j : Nat) (v : Str × Tok), j < k → ts[j]? = some v → ∃ (c : Nat) (u : Tok), v.1.cps[i]? = some c ∧ us[j]? = some (Value.str ⟨#[c]⟩ u)) _ 0 _ _ ⟨hA, tk, [], rfl, rfl, M0, hz0', hT0, rfl, fun j v hj => absurd hj (Nat.not_lt_zero _)⟩ ?_ ?_)
    · rintro k x y s hk ⟨h, tk', us, rfl, rfl, M, hz, hU, hul, hgot⟩
      simp only [Nat.zero_add] at M hgot hul ⊢
      obtain ⟨hkl, ex⟩ := refs_get hk
      subst ex
      have hv : ts[k]? = some ts[k] := List.getElem?_eq_getElem hkl
      refine wpAny_bind (wpAny_holding ?_)
      show wpAny _ _ (Builtin.SmallTypes.nextOf (.ref (b + k)) >>= _) _ _ ⟨h, g, d, tk', os⟩
      refine wpAny_bind (draw_ok hh M hv (hi k _ hv) fun c u h' tk2 hc M' sb => wpAny_pure ?_)
      refine wpAny_pure ⟨_, rfl, h', tk2, us ++ [.str ⟨#[c]⟩ u], by simp, rfl, M', (sb.2 (b + ts.length + 2) (nn (by omega))).trans hz, (sb.2 (b + ts.length + 1) (nn (by omega))).trans hU, by rw [List.length_append, hul]; rfl, fun j v hj hjv => ?_⟩
      by_cases hjk : j = k
      · subst hjk
        rw [hv] at hjv
        cases hjv
        exact ⟨c, u, hc, by rw [List.getElem?_append_right (by omega), hul]; simp⟩
      · obtain ⟨c', u', e1, e2⟩ := hgot j v (by omega) hjv
        exact ⟨c', u', e1, by rw [List.getElem?_append_left (by omega)]; exact e2⟩
    · rintro y s ⟨h, tk', us, rfl, rfl, M, hz, hU, hul, hgot⟩
      have el : 0 + (refs b ts.length).length = ts.length := by
        simp [refs_length]
      rw [el] at M hgot hul
      refine wpAny_bind (wpAny_newTuple (wpAny_pure ⟨_, rfl, ?_⟩) (by simp; rw [hul]; exact Nat.le_trans h8 (by decide)))
      obtain ⟨f1, Z1⟩ := M.fin
      have hsz : h.objs.size = hp.objs.size := M.out.1
      have hzl : b + ts.length + 2 < h.objs.size := Heap.lt_size Z1.zip
      have up : ∀ (c : Nat) (o : Obj), h.get? c = some o → (h.push (tupO us)).get? c = some o := fun c o e => Heap.get?_push_of_some _ e
      show Q (.ref h.objs.size) ⟨h.push (tupO us), g, d, tk', os⟩
      have hnew : (h.push (tupO us)).get? h.objs.size = some (tupO us) := Heap.get?_push_size _ rfl
      rw [hsz] at hnew ⊢
      refine hQ us _ tk' ⟨hul, fun k v hk => hgot k v (List.getElem?_eq_some_iff.mp hk).1 hk⟩ ⟨⟨_, true, ⟨up _ _ hz, up _ _ Z1.its, fun k v hk => ?_⟩, hf⟩, _, up _ _ hU, hl⟩ hnew fun c o hc e => up c o (M.out.2 c o hc e)
      obtain ⟨o, ho, r⟩ := Z1.txt k v hk
      exact ⟨o, up _ _ ho, r⟩
end
end TH
end
section
set_option Elab.async false
set_option maxRecDepth 100000
set_option maxHeartbeats 4000000
namespace TH
open PySem PySem.Spec PyProof.Rows L2
section
variable {prog : Program} {w : World} {A : Around} {E : Value → Shared → Prop}
theorem loop_first {α β : Type} {f : α → β → Sem (ForInStep β)} {Q : β → Shared → Prop} {x : α} {r : List α} {y : β} {s : Shared} (h : wpAny (model prog w) A (f x y) (fun _ _ => False) E s) : wpAny (model prog w) A (forIn (x :: r) y f) Q E s := by
  rw [List.forIn_cons]
  exact wpAny_bind (wpAny_mono h (fun _ _ z => z.elim) fun _ _ z => z)
/-- the first iterator is at its end -/
theorem draw_end {s : Shared} {a : Addr} {v : Str × Tok} {Q : Value → Shared → Prop} (hh : A.handled = none) (st : s.heap.IsStrIter a (strIterType v.1) v.1 v.2 v.1.cps.size)
    (hE : ∀ (h' : Heap) (e : Addr), Heap.ExtBut a s.heap h' → (∃ o, h'.get? e = some o ∧ o.cls = .type "StopIteration") → E (.ref e) { s with heap := h' }) : wpAny (model prog w) A (Builtin.SmallTypes.nextOf (.ref a)) Q E s :=
  (Draws.text (prog := prog) (w := w) hh a v.1 v.2).done s _ _ st hE
theorem next_end {hp : Heap} {g : Array GenState} {d : Drawn} {tk : Nat} {os : OsState} {b : Nat} {v : Str × Tok} {ts : Tx} {Q : Fin → Shared → Prop} (hh : A.handled = none) (B : Bet hp b (v :: ts) v.1.cps.size)
    (hE : ∀ (h' : Heap) (e : Addr), (∀ (c : Nat) (o : Obj), (c < b ∨ b + ((v :: ts).length + 2) < c) → hp.get? c = some o → h'.get? c = some o) → (∃ o, h'.get? e = some o ∧ o.cls = .type "StopIteration") → E (.ref e) ⟨h', g, d, tk, os⟩) :
    wpAny (model prog w) A (Builtin.«zip.__next__» ⟨[.ref (b + (v :: ts).length + 2)], []⟩) Q E ⟨hp, g, d, tk, os⟩ := by
  obtain ⟨⟨f0, fb, Z, hf⟩, l, hT, hl⟩ := B
  show wpAny _ _ (field (.ref _) 2 >>= _) _ _ _
  refine wpAny_bind (wpAny_field Z.zip rfl (x := .bool false) rfl ?_)
  show wpAny _ _ (field (.ref _) 3 >>= _) _ _ _
  refine wpAny_bind (wpAny_field Z.zip rfl (x := .ref (b + (v :: ts).length)) rfl ?_)
  refine wpAny_bind (wpAny_seqItems Z.its rfl ?_)
  dsimp only
  rw [if_neg (by rw [refs_ne (by simp)]; exact Bool.false_ne_true)]
  refine wpAny_bind (is_free Z hf ?_ fun hA hs0 hz0 => ?_)
  · rw [if_pos rfl]
    refine wpAny_bind (wpAny_rule ?_)
    refine wpAny_bind (wpAny_field Z.zip rfl (x := .ref (b + (v :: ts).length + 1)) rfl ?_)
    refine wpAny_bind (wpAny_setField_rec Z.zip (by simp) fun g0 hz0 hs0 => ?_)
    replace hs0 : Heap.SameBut (b + (v :: ts).length + 2) hp g0 := hs0
    have st := strIter_other (Z.txt 0 v rfl) hs0 (nn (x := b + 0) (y := b + (v :: ts).length + 2) (by omega))
    refine wpAny_bind ?_
    show wpAny _ _ (forIn ((Value.ref b, 0) :: (refs (b + 1) ts.length).zipIdx 1) _ _) _ _ _
    refine loop_first (wpAny_bind (wpAny_onRaise ?_))
    show wpAny _ _ (Builtin.SmallTypes.nextOf (.ref (b + 0)) >>= _) _ _ ⟨g0, g, d, tk, os⟩
    refine wpAny_bind (draw_end hh st fun q e hq he => ?_)
    replace hq : Heap.ExtBut (b + 0) g0 q := hq
    obtain ⟨oe, hoe, hce⟩ := he
    have hzq : q.get? (b + (v :: ts).length + 2) = some (zipO .ellipsis (.bool fb) (b + (v :: ts).length) (b + (v :: ts).length + 1)) := hq _ _ (nn (x := b + (v :: ts).length + 2) (y := b + 0) (by omega)) hz0
    have hez : e ≠ b + (v :: ts).length + 2 := fun x => by subst x; rw [hzq] at hoe; cases hoe; simp at hce
    refine wpAny_setField_rec (s := ⟨q, g, d, tk, os⟩) hzq (by simp) fun q' _ hq' => ?_
    replace hq' : Heap.SameBut (b + (v :: ts).length + 2) q q' := hq'
    exact hE q' e (fun c o hc x => (hq'.2 c (nn (by omega))).trans (hq _ _ (nn (x := c) (y := b + 0) (by omega)) ((hs0.2 c (nn (by omega))).trans x))) ⟨oe, (hq'.2 e hez).trans hoe, hce⟩
  · rw [if_neg Bool.false_ne_true]
    replace hs0 : Heap.SameBut (b + (v :: ts).length + 2) hp hA := hs0
    have st := strIter_other (Z.txt 0 v rfl) hs0 (nn (x := b + 0) (y := b + (v :: ts).length + 2) (by omega))
    dsimp only
    rw [List.forIn_toArray]
    refine wpAny_bind ?_
    show wpAny _ _ (forIn (Value.ref b :: refs (b + 1) ts.length) _ _) _ _ _
    refine loop_first (wpAny_bind (wpAny_holding ?_))
    show wpAny _ _ (Builtin.SmallTypes.nextOf (.ref (b + 0)) >>= _) _ _ ⟨hA, g, d, tk, os⟩
    refine wpAny_bind (draw_end hh st fun q e hq he => ?_)
    replace hq : Heap.ExtBut (b + 0) hA q := hq
    exact hE q e (fun c o hc x => hq _ _ (nn (x := c) (y := b + 0) (by omega)) ((hs0.2 c (nn (by omega))).trans x)) he
theorem pyNext_item {s : Shared} {b : Nat} {ts : Tx} {i : Nat} {Q : Option Value → Shared → Prop} (hh : A.handled = none) (B : Bet s.heap b ts i) (h1 : 0 < ts.length) (h8 : ts.length ≤ 8)
    (hi : ∀ (k : Nat) (v : Str × Tok), ts[k]? = some v → i < v.1.cps.size) (hQ : Nxt s.heap s.gens s.drawn s.os b ts i (fun v s' => Q (some v) s')) : wpAny (model prog w) A (pyNext (.ref (b + ts.length + 2))) Q E s := by
  obtain ⟨⟨f0, fb, Z, hf⟩, l, hT, hl⟩ := id B
  have hty : s.TypeIs (.ref (b + ts.length + 2)) "zip" := ⟨_, Z.zip, rfl⟩
  unfold pyNext
  refine wpAny_bind (wpAny_attempt (wpAny_callSpecial?_slot (name := Str.ofString "__next__") hty F.slot_zip_next
    (wpAny_call_entry F.slot_zip_next hty F.entry_zip_next (next_item (A := A.in1) hh B h1 h8 hi fun us h' tk' c1 c2 c3 c4 => wpAny_pure (hQ us h' tk' c1 c2 c3 c4)) (F.args_zip_next_1 _))))
theorem pyNext_end {s : Shared} {b : Nat} {v : Str × Tok} {ts : Tx} {Q : Option Value → Shared → Prop} (hh : A.handled = none) (B : Bet s.heap b (v :: ts) v.1.cps.size)
    (hQ : ∀ (h' : Heap), (∀ (c : Nat) (o : Obj), (c < b ∨ b + ((v :: ts).length + 2) < c) → s.heap.get? c = some o → h'.get? c = some o) → Q none { s with heap := h' }) : wpAny (model prog w) A (pyNext (.ref (b + (v :: ts).length + 2))) Q E s := by
  obtain ⟨⟨f0, fb, Z, hf⟩, l, hT, hl⟩ := id B
  have hty : s.TypeIs (.ref (b + (v :: ts).length + 2)) "zip" := ⟨_, Z.zip, rfl⟩
  unfold pyNext
  refine wpAny_bind (wpAny_attempt (wpAny_callSpecial?_slot (name := Str.ofString "__next__") hty F.slot_zip_next
    (wpAny_call_entry F.slot_zip_next hty F.entry_zip_next (next_end (A := A.in1) hh B fun h' e hk he => ?_) (F.args_zip_next_1 _))))
  obtain ⟨o, ho, hc⟩ := he
  refine wpAny_bind (wpAny_isInstance (T := "StopIteration") (b := true) ⟨o, ho, hc⟩ isSubtype_stop ?_)
  exact wpAny_pure (hQ _ hk)
end
end TH
end
section
set_option Elab.async false
set_option maxRecDepth 100000
set_option maxHeartbeats 4000000
namespace TH
open PySem PySem.Spec PyProof.Rows L2
/-- the texts xs, m signs each: at turn i a new tuple of their signs there -/
def Itzs (xs : List Str) (m : Nat) : It :=
  ⟨fun i _ => i < m, fun i H x H' => ∃ (T : Addr) (cs : List Nat), x = .ref T ∧ H T = none ∧ H' = upd H T (.tup (cs.map fun c => V.str ⟨#[c]⟩)) ∧ cs.length = xs.length ∧ ∀ (k : Nat) (y : Str), xs[k]? = some y → ∃ c, y.cps[i]? = some c ∧ cs[k]? = some c, fun i _ => i = m⟩
def Tn (xs : List Str) (b : Nat) (i : Nat) (h : Heap) : Prop := ∃ ts : Tx, ts.map Prod.fst = xs ∧ Bet h b ts i
theorem fp_le {b n c : Nat} (h : c ∈ (List.range (n + 3)).map (b + ·)) : b ≤ c ∧ c ≤ b + n + 2 := by
  obtain ⟨k, hk, rfl⟩ := List.mem_map.mp h
  have := List.mem_range.mp hk
  omega
theorem fp_in {b n c : Nat} (h : b ≤ c ∧ c ≤ b + n + 2) : c ∈ (List.range (n + 3)).map (b + ·) := List.mem_map.mpr ⟨c - b, List.mem_range.mpr (by omega), by omega⟩
theorem Bet.kept {h h' : Heap} {b : Nat} {ts : Tx} {i : Nat} (B : Bet h b ts i) (k : ∀ (c : Nat), b ≤ c ∧ c ≤ b + ts.length + 2 → ∀ o, h.get? c = some o → h'.get? c = some o) : Bet h' b ts i := by
  obtain ⟨⟨f0, fb, Z, hf⟩, l, hT, hl⟩ := B
  refine ⟨⟨f0, fb, ⟨k _ (by omega) _ Z.zip, k _ (by omega) _ Z.its, fun j v hj => ?_⟩, hf⟩, l, k _ (by omega) _ hT, hl⟩
  have hjl : j < ts.length := (List.getElem?_eq_some_iff.mp hj).1
  obtain ⟨o, ho, r⟩ := Z.txt j v hj
  exact ⟨o, k (b + j) (by omega) _ ho, r⟩
theorem Bet.obj {h : Heap} {b : Nat} {ts : Tx} {i : Nat} (B : Bet h b ts i) (c : Nat) (hc : b ≤ c ∧ c ≤ b + ts.length + 2) : ∃ o, h.get? c = some o ∧ ∀ v, o.data ≠ .cell v := by
  obtain ⟨⟨f0, fb, Z, hf⟩, l, hT, hl⟩ := B
  by_cases h1 : c = b + ts.length + 2
  · subst h1
    exact ⟨_, Z.zip, fun v q => nomatch q⟩
  · by_cases h2 : c = b + ts.length + 1
    · subst h2
      exact ⟨_, hT, fun v q => nomatch q⟩
    · by_cases h3 : c = b + ts.length
      · subst h3
        exact ⟨_, Z.its, fun v q => nomatch q⟩
      · have hk : c - b < ts.length := by omega
        obtain ⟨o, ho, _, hd⟩ := Z.txt (c - b) _ (List.getElem?_eq_getElem hk)
        have e : b + (c - b) = c := by omega
        rw [e] at ho
        exact ⟨o, ho, fun v q => by rw [hd] at q; cases q⟩
theorem sgn_vals : ∀ (us : List Value) (cs : List Nat), us.length = cs.length → (∀ (k c : Nat), cs[k]? = some c → ∃ u, us[k]? = some (Value.str ⟨#[c]⟩ u)) → Vals (cs.map fun c => V.str ⟨#[c]⟩) us
  | [], [], _, _ => .nil
  | [], _ :: _, e, _ => by simp at e
  | _ :: _, [], e, _ => by simp at e
  | x :: us, c :: cs, e, h => by
    obtain ⟨u, hu⟩ := h 0 c rfl
    have hx : x = Value.str ⟨#[c]⟩ u := by simpa using hu
    refine .cons ⟨u, hx⟩ (sgn_vals us cs (by simpa using e) fun k c' hk => ?_)
    simpa using h (k + 1) c' (by simpa using hk)
/-- the signs that a column holds -/
theorem col_signs : ∀ (ts : Tx) (i : Nat) (us : List Value), ColAt ts i us → ∃ cs : List Nat, us.length = cs.length ∧ (∀ (k c : Nat), cs[k]? = some c → ∃ u, us[k]? = some (Value.str ⟨#[c]⟩ u)) ∧ cs.length = ts.length ∧ ∀ (k : Nat) (v : Str × Tok), ts[k]? = some v → ∃ c, v.1.cps[i]? = some c ∧ cs[k]? = some c
  | [], i, us, ⟨h1, h2⟩ => ⟨[], h1, fun k c hk => by simp at hk, rfl, fun k v hk => by simp at hk⟩
  | v :: ts, i, [], ⟨h1, h2⟩ => by simp at h1
  | v :: ts, i, x :: us, ⟨h1, h2⟩ => by
    obtain ⟨c, u, hc, hx⟩ := h2 0 v rfl
    obtain ⟨cs, e1, e2, e3, e4⟩ := col_signs ts i us ⟨by simpa using h1, fun k w hk => by simpa using h2 (k + 1) w (by simpa using hk)⟩
    refine ⟨c :: cs, by simp [e1], fun k c' hk => ?_, by simp [e3], fun k w hk => ?_⟩
    · cases k with
      | zero =>
        have : c = c' := by simpa using hk
        subst this
        exact ⟨u, by simpa using hx⟩
      | succ k => simpa using e2 k c' (by simpa using hk)
    · cases k with
      | zero =>
        have : v = w := by simpa using hk
        subst this
        exact ⟨c, hc, rfl⟩
      | succ k => simpa using e4 k w (by simpa using hk)
theorem self_zip {prog : Program} {w : World} {A : Around} {E : Value → Shared → Prop} {s : Shared} {z TI TO : Addr} {f0 f1 : Value} {Q : Value → Shared → Prop} (hz : s.heap.get? z = some (zipO f0 f1 TI TO)) (h : Q (.ref z) s) : wpAny (model prog w) A (pyIter (.ref z)) Q E s := by
  have ty : s.TypeIs (.ref z) "zip" := ⟨_, hz, rfl⟩
  refine wpAny_pyIter_slot ty F.slot_zip_iter (wpAny_call_entry F.slot_zip_iter ty F.entry_zip_iter (show wpAny _ _ (ret (.ref z)) _ _ s from ?_) (F.args_zip_iter_1 _))
  exact wpAny_pure ⟨_, rfl, "zip", _, ty, F.slot_zip_next.lookup, h⟩
theorem turn_zips {P : Program} {w : World} {K : PySem.W.Frag} {nm : Str} {np : Pos} {xs : List Str} {m b : Nat} (h1 : 0 < xs.length) (h8 : xs.length ≤ 8) (hm : ∀ x ∈ xs, x.cps.size = m) :
    Turn P w K (.Name nm np) (Itzs xs m) ((List.range (xs.length + 3)).map (b + ·)) (b + xs.length + 2) (Tn xs b) where
  mem := fp_in (by omega)
  obj := fun i h st c hc => by
    obtain ⟨ts, rfl, B⟩ := st
    have q := fp_le hc
    rw [List.length_map] at q
    exact B.obj c q
  keep := fun i h h' st k => by
    obtain ⟨ts, rfl, B⟩ := st
    refine ⟨ts, rfl, B.kept fun c hc o e => k c (fp_in ?_) o e⟩
    rw [List.length_map]
    exact hc
  item := by
    intro X hP hw hK hc i pins s σ H E I hf st hg
    subst hP hw hK
    obtain ⟨ts, rfl, B⟩ := st
    rw [List.length_map] at h1 h8 hf ⊢
    have hin : ∀ (c : Nat), b ≤ c ∧ c ≤ b + ts.length + 2 → c ∈ (List.range (ts.length + 3)).map (b + ·) := fun c q => fp_in q
    refine pyNext_item (I.ok.hd hc) B h1 h8 (fun k v hk => ?_) fun us h' tk' cu B' hT kp => ?_
    · rw [hm v.1 (List.mem_map.mpr ⟨v, List.mem_of_getElem? hk, rfl⟩)]
      exact hg
    · obtain ⟨cs, e1, e2, e3, e4⟩ := col_signs ts i us cu
      refine ⟨_, rfl, wpAny_pure ?_⟩
      have hlen : cs.length ≤ sizeLine := Nat.le_trans (by rw [e3]; exact h8) (by decide)
      have new : ObjOk X.prog X.w (upd H s.heap.objs.size (.tup (cs.map fun c => V.str ⟨#[c]⟩))) h' s.heap.objs.size (.tup (cs.map fun c => V.str ⟨#[c]⟩)) :=
        ⟨by rw [List.length_map]; exact hlen, us, sgn_vals us cs e1 e2, ⟨_, hT, rfl, _, rfl⟩⟩
      have I1 : Inv X pins σ (upd H s.heap.objs.size (.tup (cs.map fun c => V.str ⟨#[c]⟩))) { s with heap := h', toks := tk' } :=
        I.turnedNew (t' := tk') (ch := (List.range (ts.length + 3)).map (b + ·)) (fun c o hc q => kp c o (Classical.byContradiction fun z => hc (hin c (by omega))) q) hf (Nat.le_refl _) new
      refine ⟨.ref s.heap.objs.size, _, I1, rfl, ⟨_, cs, rfl, I.hok.fresh (Nat.le_refl _), rfl, by rw [List.length_map]; exact e3, fun k y hk => ?_⟩, ⟨ts, rfl, B'⟩, fun c hcm => ?_⟩
      · rw [List.getElem?_map] at hk
        cases hv : ts[k]? with
        | none => simp [hv] at hk
        | some v =>
          simp [hv] at hk
          subst hk
          exact e4 k v hv
      · obtain ⟨o, ho, _⟩ := B.obj c (fp_le hcm)
        rw [upd_ne (Nat.ne_of_lt (Heap.lt_size ho))]
        exact (hf c hcm).1
  done := by
    intro X hP hw hK hc i pins s σ H E I hf st hg
    subst hP hw hK
    obtain ⟨ts, rfl, B⟩ := st
    cases ts with
    | nil => exact absurd h1 (by simp)
    | cons v ts =>
      have hv : v.1.cps.size = m := hm v.1 (by simp)
      have hi : i = v.1.cps.size := by rw [hv]; exact hg
      subst hi
      rw [List.length_map] at hf ⊢
      refine pyNext_end (I.ok.hd hc) B fun h' kp => ⟨rfl, I.turnedL (t' := s.toks) (ch := (List.range ((v :: ts).length + 3)).map (b + ·)) (fun c o hc q => kp c o (Classical.byContradiction fun z => hc (fp_in (by omega))) q) hf⟩
  self := fun A i s Q E st h => by
    obtain ⟨ts, rfl, ⟨f0, fb, Z, hf⟩, l, hT, hl⟩ := st
    rw [List.length_map] at h ⊢
    exact self_zip Z.zip h
/-- zip(*e), e a tuple or a list of texts of one length -/
def iZips (K : PySem.W.Frag) (te : TE) : TI := fun σ H R => te σ H fun y H1 => ∃ (a : Addr) (xs : List Str) (m : Nat), y = .ref a ∧ (SqT K H1 a (xs.map V.str) ∨ SqL K H1 a (xs.map V.str)) ∧ 0 < xs.length ∧ xs.length ≤ 8 ∧ (∀ x ∈ xs, x.cps.size = m) ∧ R (Itzs xs m) H1
theorem tx_of : ∀ (xs : List Str) (us : List Value), Vals (xs.map V.str) us → ∃ ts : Tx, us = txv ts ∧ ts.map Prod.fst = xs
  | [], us, h => by cases h; exact ⟨[], rfl, rfl⟩
  | x :: xs, us, h => by
    cases h with
    | @cons _ u _ ur ru rr =>
      obtain ⟨t, rfl⟩ := ru
      obtain ⟨ts, rfl, e⟩ := tx_of xs ur rr
      exact ⟨(x, t) :: ts, rfl, by rw [List.map_cons, e]⟩
theorem pi_zips {X : Cx} {nm : Str} {np : Pos} {e : Expr} {te : TE} {p sp pos : Pos} (hg : Gl X "zip") (hm : X.mg "zip" = none) (he : PE X e te) (hst : starEach [.Starred e sp] X.env = [(true, eval e X.env)] := by rfl) :
    PI X (.Name nm np) (.Call (.Name "zip" p) [.Starred e sp] [] pos) (iZips X.K te) := by
  refine ⟨fun pins s σ H R I h => ?_⟩
  refine wpAny_Call_Name_kw (ld_blt I hg hm PyProof.Rows.boot_zip ?_)
  rw [hst]
  refine PySem.W.ks_call (P := fun _ => True) rfl (fun hp _ => ⟨Keeper.machine, .inr (.inl rfl), PySem.W.Looks.of_pure rfl⟩) (PySem.W.ks_lone (thn (he.run pins s σ H _ I h) fun v s1 ⟨y, H1, I1, ry, a, xs, m, ey, hx, h1, h8, hm', q⟩ => ?_))
  subst ey
  obtain rfl : v = Value.ref a := ry
  refine StX.star_any I1 hx fun us s2 I2 rv => ⟨trivial, ?_⟩
  obtain ⟨ts, rfl, ex⟩ := tx_of xs us rv
  have hl : ts.length = xs.length := by rw [← ex, List.length_map]
  refine call_zip ts (by rw [hl]; exact h8) ?_
  have old : ∀ c o, s2.heap.get? c = some o → (zheap s2.heap ts).get? c = some o := fun c o e => zheap_old e
  have I3 : Inv X pins σ H1 { s2 with heap := zheap s2.heap ts } := I2.kept (t' := s2.toks) old
  obtain ⟨Z, l, hl2, hT⟩ := zheap_at s2.heap ts
  refine self_zip Z.zip ?_
  refine ⟨s2.heap.objs.size + ts.length + 2, (List.range (xs.length + 3)).map (s2.heap.objs.size + ·), Tn xs s2.heap.objs.size, Itzs xs m, H1, rfl, I3, ?_, ⟨ts, ex, ⟨⟨_, false, Z, .inl rfl⟩, l, hT, hl2⟩⟩, fun c hc => ?_, q⟩
  · rw [hl]
    exact turn_zips h1 h8 hm'
  · have hle := (fp_le hc).1
    exact I2.fpOk hle (I2.hok.fresh hle)
end TH
end
section
set_option Elab.async false
set_option maxRecDepth 100000
set_option maxHeartbeats 4000000
set_option linter.all false
namespace TH
open PySem PySem.Spec PyProof.Rows L2
theorem meets_enum_any {v : Value} {o : Obj} {H : Heap → Prop} (B : Begins v o H) :
    Meets (Builtin.«enumerate.__new__» ⟨[.type "enumerate", v], []⟩) (fun _ R s => H s.heap ∧
      R (.ok (.ret (.ref (s.heap.push o).objs.size))) { s with heap := (s.heap.push o).push { cls := .type "enumerate", data := .fields #[.none, .bool false, .ref s.heap.objs.size, rawInt 0, .none, .none] } }) :=
  .of_wp fun prog w A R s hR => by
    obtain ⟨hp, g, d, tk, os⟩ := s
    obtain ⟨hH, hR⟩ := hR
    have hsub := sub_enumerate
    have it1 : ∀ {A' : Around} {E : Value → Shared → Prop} {Q : Value → Shared → Prop}, Q (.ref hp.objs.size) ⟨hp.push o, g, d, tk, os⟩ → wpAny (model prog w) A' (pyIter v) Q E ⟨hp, g, d, tk, os⟩ :=
      fun q => B.iter prog w _ _ ⟨hp, g, d, tk, os⟩ _ hH q
    wp_walk using it1
    refine wpAny_stack_any fun st => wpAny_pure ?_
    split
    · rename_i c _ _ _ _ _
      cases (c == Value.type "enumerate")
      all_goals
        wp_walk using it1
        exact ⟨_, rfl, hR⟩
    · wp_walk using it1
      exact ⟨_, rfl, hR⟩
theorem enum_any {prog : Program} {w : World} {A : Around} {E : Value → Shared → Prop} {s : Shared} {v : Value} {o : Obj} {H : Heap → Prop} {Q : Value → Shared → Prop} (B : Begins v o H) (hH : H s.heap)
    (h : ∀ h', IsEnum h' (s.heap.objs.size + 1) s.heap.objs.size 0 .none → h'.get? s.heap.objs.size = some o → (∀ b o, s.heap.get? b = some o → h'.get? b = some o) → Q (.ref (s.heap.objs.size + 1)) { s with heap := h' }) :
    wpAny (model prog w) A (call (.type "enumerate") [v]) Q E s := by
  refine callType_new F.called_enumerate (by decide) (F.typeCall_enumerate_1 _) (F.newCall_enumerate_1 _) (fun obj => F.args_object_init_2 obj _) F.entry_enumerate_new (meets_enum_any B) ⟨hH, ?_⟩
  have sz : (s.heap.push o).objs.size = s.heap.objs.size + 1 := Heap.size_push ..
  have at1 := Heap.get?_push_size (s.heap.push o) (o := { cls := .type "enumerate", data := .fields #[.none, .bool false, .ref s.heap.objs.size, rawInt 0, .none, .none] }) rfl
  rw [sz] at at1
  show _ ∧ _
  rw [sz]
  exact ⟨⟨_, at1, rfl⟩, h _ at1 (Heap.get?_push_of_some _ (Heap.get?_push_size _ B.free)) fun b o x => Heap.get?_push_of_some _ (Heap.get?_push_of_some _ x)⟩

/-- the signs of a text with their places -/
def Ites (x : Str) : It := ⟨fun i _ => i < x.cps.size, fun i H v H' => ∃ (T : Addr) (c : Nat), v = .ref T ∧ H T = none ∧ H' = upd H T (.tup [.int (i : Nat), .str ⟨#[c]⟩]) ∧ x.cps[i]? = some c, fun i _ => i = x.cps.size⟩
/-- the items of the tuple at a with their places -/
def Itet (K : PySem.W.Frag) (a : Addr) : It :=
  ⟨fun i H => ∃ xs y, SqT K H a xs ∧ xs[i]? = some y, fun i H v H' => ∃ (T : Addr) (y : V), v = .ref T ∧ H T = none ∧ H' = upd H T (.tup [.int (i : Nat), y]) ∧ ∀ xs, SqT K H a xs → xs[i]? = some y, fun i H => ∃ xs, SqT K H a xs ∧ i = xs.length⟩
section
variable {P : Program} {w : World} {K : PySem.W.Frag} {elts : List Expr} {kk : Nat} {tpos : Pos}
theorem turn_enums {x : Str} {t : Tok} (e it : Addr) (hne : e ≠ it) :
    Turn P w K (.Tuple elts kk tpos) (Ites x) [e, it] e (fun i h => (∃ old, IsEnum h e it ((i : Nat) : Int) old) ∧ h.IsStrIter it (strIterType x) x t i) where
  mem := by simp
  obj := fun i h st b hb => by
    obtain ⟨⟨old, he⟩, ⟨o, ho, hc, hd⟩⟩ := st
    rcases (show b = e ∨ b = it by simpa using hb) with z | z
    · rw [z]
      exact ⟨_, he, fun v q => nomatch q⟩
    · rw [z]
      exact ⟨o, ho, fun v q => by rw [hd] at q; cases q⟩
  keep := fun i h h' st k => by
    obtain ⟨⟨old, he⟩, ⟨o, ho, r⟩⟩ := st
    exact ⟨⟨old, k e (by simp) _ he⟩, ⟨o, k it (by simp) _ ho, r⟩⟩
  item := by
    intro X hP hw hK hc i pins s σ H E I hf st hg
    subst hP hw hK
    obtain ⟨⟨old, he⟩, hit⟩ := st
    have hel : e < s.heap.objs.size := Heap.lt_size he
    have hil : it < s.heap.objs.size := by obtain ⟨_, q, _⟩ := hit; exact Heap.lt_size q
    refine wpAny_pyNext_enum_itemD (Draws.text (A := X.A.in1) (I.ok.hd hc) it x t) he hit hg hne (by simpa using hne) fun y h' tk hy ho hit' hT hsz hk => ?_
    obtain ⟨c, u, hcx, rfl⟩ := hy
    refine ⟨_, rfl, wpAny_letOwnedTupleGo_enum (s := { s with heap := h', toks := tk + 1 }) ho fun h'' he' sb => ?_⟩
    have hT2 : h''.get? s.heap.objs.size = some { cls := .type "tuple", data := .seq #[.int i tk, .str ⟨#[c]⟩ u] } := (sb.2 _ (Nat.ne_of_gt hel)).trans hT
    have new : ObjOk X.prog X.w (upd H s.heap.objs.size (.tup [.int (i : Nat), .str ⟨#[c]⟩])) h'' s.heap.objs.size (.tup [.int (i : Nat), .str ⟨#[c]⟩]) :=
      ⟨by show 2 ≤ sizeLine; decide, [.int i tk, .str ⟨#[c]⟩ u], .cons ⟨_, rfl⟩ (.cons ⟨_, rfl⟩ .nil), ⟨_, hT2, rfl, _, rfl⟩⟩
    have I1 : Inv X pins σ (upd H s.heap.objs.size (.tup [.int (i : Nat), .str ⟨#[c]⟩])) { s with heap := h'', toks := tk + 1 } :=
      I.turnedNew (ch := [e, it]) (fun b ob hb q => (sb.2 b (fun z => hb (by simp [z]))).trans (hk b ob (fun z => hb (by simp [z])) (fun z => hb (by simp [z])) q)) hf (Nat.le_refl _) new
    refine ⟨.ref s.heap.objs.size, _, I1, rfl, ⟨_, c, rfl, I.hok.fresh (Nat.le_refl _), rfl, hcx⟩, ⟨⟨Value.str ⟨#[c]⟩ u, ?_⟩, strIter_other hit' sb (Ne.symm hne)⟩, fun b hb => ?_⟩
    · have e1 : ((i + 1 : Nat) : Int) = (i : Int) + 1 := by omega
      rw [e1]
      exact he'
    · have hb' : b < s.heap.objs.size := by
        rcases (show b = e ∨ b = it by simpa using hb) with z | z
        · rw [z]; exact hel
        · rw [z]; exact hil
      rw [upd_ne (Nat.ne_of_lt hb')]
      exact (hf b hb).1
  done := by
    intro X hP hw hK hc i pins s σ H E I hf st hg
    subst hP hw hK
    obtain ⟨⟨old, he⟩, hit⟩ := st
    obtain ⟨f0, f1, f2, f3, f4, f5⟩ := hf it (by simp)
    have hi : i = x.cps.size := hg
    subst hi
    exact wpAny_pyNext_enum_endD (Draws.text (A := X.A.in1) (I.ok.hd hc) it x t) he hit fun h' eb => ⟨rfl, I.turned (t' := s.toks) (fun b o hb q => eb b o hb q) f0 f1 f3 f4 f5⟩
  self := fun A i s Q E st h => by
    obtain ⟨⟨_, he⟩, _⟩ := st
    exact wpAny_pyIter_enum he h
theorem turn_enumt {a : Addr} (e it : Addr) (hne : e ≠ it) (hae : a ≠ e) (hai : a ≠ it) :
    Turn P w K (.Tuple elts kk tpos) (Itet K a) [e, it] e (fun i h => (∃ old, IsEnum h e it ((i : Nat) : Int) old) ∧ h.IsTupleIter it a i) where
  mem := by simp
  obj := fun i h st b hb => by
    obtain ⟨⟨old, he⟩, ⟨o, ho, hc, hd⟩⟩ := st
    rcases (show b = e ∨ b = it by simpa using hb) with z | z
    · rw [z]
      exact ⟨_, he, fun v q => nomatch q⟩
    · rw [z]
      exact ⟨o, ho, fun v q => by rw [hd] at q; cases q⟩
  keep := fun i h h' st k => by
    obtain ⟨⟨old, he⟩, ⟨o, ho, r⟩⟩ := st
    exact ⟨⟨old, k e (by simp) _ he⟩, ⟨o, k it (by simp) _ ho, r⟩⟩
  item := by
    intro X hP hw hK hc i pins s σ H E I hf st hg
    subst hP hw hK
    obtain ⟨⟨old, he⟩, hit⟩ := st
    obtain ⟨xs, y, hq, hx⟩ := hg
    obtain ⟨its, rv, p, hz⟩ := I.tuple hq
    obtain ⟨u, hu, ru⟩ := rv.get hx
    have hel : e < s.heap.objs.size := Heap.lt_size he
    have hil : it < s.heap.objs.size := by obtain ⟨_, q, _⟩ := hit; exact Heap.lt_size q
    have hlt : i < its.toArray.size := by rw [List.size_toArray]; exact (List.getElem?_eq_some_iff.mp hu).1
    refine wpAny_pyNext_enum_itemD (St := fun i h => h.IsTupleIter it a i ∧ h.IsTuple a its.toArray) (Draws.tuple (A := X.A.in1) (I.ok.hd hc) it a hai its.toArray) he ⟨hit, p⟩ hlt hne (by simp [hne, Ne.symm hae]) fun y' h' tk hy ho hit' hT hsz hk => ?_
    have ey : y' = u := by
      have hy' : its.toArray[i]? = some y' := hy
      rw [List.getElem?_toArray, hu] at hy'
      exact (Option.some.inj hy').symm
    subst ey
    refine ⟨_, rfl, wpAny_letOwnedTupleGo_enum (s := { s with heap := h', toks := tk + 1 }) ho fun h'' he' sb => ?_⟩
    have hT2 : h''.get? s.heap.objs.size = some { cls := .type "tuple", data := .seq #[.int i tk, y'] } := (sb.2 _ (Nat.ne_of_gt hel)).trans hT
    have new : ObjOk X.prog X.w (upd H s.heap.objs.size (.tup [.int (i : Nat), y])) h'' s.heap.objs.size (.tup [.int (i : Nat), y]) :=
      ⟨by show 2 ≤ sizeLine; decide, [.int i tk, y'], .cons ⟨_, rfl⟩ (.cons ru .nil), ⟨_, hT2, rfl, _, rfl⟩⟩
    have I1 : Inv X pins σ (upd H s.heap.objs.size (.tup [.int (i : Nat), y])) { s with heap := h'', toks := tk + 1 } :=
      I.turnedNew (ch := [e, it]) (fun b ob hb q => (sb.2 b (fun z => hb (by simp [z]))).trans (hk b ob (fun z => hb (by simp [z])) (fun z => hb (by simp [z])) q)) hf (Nat.le_refl _) new
    refine ⟨.ref s.heap.objs.size, _, I1, rfl, ⟨_, y, rfl, I.hok.fresh (Nat.le_refl _), rfl, fun ys hy => by rw [I.tuple_inj hy hq]; exact hx⟩, ⟨⟨y', ?_⟩, ?_⟩, fun b hb => ?_⟩
    · have e1 : ((i + 1 : Nat) : Int) = (i : Int) + 1 := by omega
      rw [e1]
      exact he'
    · obtain ⟨o, ho2, r⟩ := hit'.1
      exact ⟨o, (sb.2 it (Ne.symm hne)).trans ho2, r⟩
    · have hb' : b < s.heap.objs.size := by
        rcases (show b = e ∨ b = it by simpa using hb) with z | z
        · rw [z]; exact hel
        · rw [z]; exact hil
      rw [upd_ne (Nat.ne_of_lt hb')]
      exact (hf b hb).1
  done := by
    intro X hP hw hK hc i pins s σ H E I hf st hg
    subst hP hw hK
    obtain ⟨⟨old, he⟩, hit⟩ := st
    obtain ⟨f0, f1, f2, f3, f4, f5⟩ := hf it (by simp)
    obtain ⟨xs, hq, hi⟩ := hg
    obtain ⟨its, rv, p, hz⟩ := I.tuple hq
    have hi2 : i = its.toArray.size := by rw [List.size_toArray, hi, rv.length]
    subst hi2
    exact wpAny_pyNext_enum_endD (St := fun i h => h.IsTupleIter it a i ∧ h.IsTuple a its.toArray) (Draws.tuple (A := X.A.in1) (I.ok.hd hc) it a hai its.toArray) he ⟨hit, p⟩ fun h' eb => ⟨rfl, I.turned (t' := s.toks) (fun b o hb q => eb b o hb q) f0 f1 f3 f4 f5⟩
  self := fun A i s Q E st h => by
    obtain ⟨⟨_, he⟩, _⟩ := st
    exact wpAny_pyIter_enum he h
end
def iEnumS (ta : TA) : TI := fun σ H R => ta σ H fun vs H1 => ∃ x, vs = [.str x] ∧ R (Ites x) H1
def iEnumT (K : PySem.W.Frag) (ta : TA) : TI := fun σ H R => ta σ H fun vs H1 => ∃ a xs, vs = [.ref a] ∧ SqT K H1 a xs ∧ R (Itet K a) H1
section
variable {X : Cx} {e : Expr} {ta : TA} {p pos tpos : Pos} {elts : List Expr} {kk : Nat}
theorem pi_enumS (hg : Gl X "enumerate") (hm : X.mg "enumerate" = none) (ha : PA X [e] ta) (hs : starEach [e] X.env = [(false, eval e X.env)] := by rfl) : PI X (.Tuple elts kk tpos) (.Call (.Name "enumerate" p) [e] [] pos) (iEnumS ta) := by
  refine ⟨fun pins s σ H R I h => ?_⟩
  refine Call_ (ld_blt I hg hm boot_enumerate (PyProof.Rows.callWith_type1 (thn (ha.run pos pins s σ H _ I h) fun us s1 ⟨vs, H1, I1, r1, x, ex, q⟩ => ?_) hs rfl))
  subst ex
  cases r1 with
  | @cons _ u _ _ r rr =>
    cases rr
    obtain ⟨t, rfl⟩ := r
    refine enum_any (begins_text x t) trivial fun h' he hit hk => wpAny_pyIter_enum he ?_
    have I2 : Inv X pins σ H1 { s1 with heap := h' } := I1.kept (t' := s1.toks) hk
    refine ⟨s1.heap.objs.size + 1, [s1.heap.objs.size + 1, s1.heap.objs.size], _, _, H1, rfl, I2, turn_enums (x := x) (t := t) _ _ (Nat.succ_ne_self _), ⟨⟨.none, he⟩, ⟨_, hit, rfl, rfl⟩⟩, fun b hb => ?_, q⟩
    have hle : s1.heap.objs.size ≤ b := by
      rcases (show b = s1.heap.objs.size + 1 ∨ b = s1.heap.objs.size by simpa using hb) with z | z
      · rw [z]; exact Nat.le_add_right _ _
      · rw [z]; exact Nat.le_refl _
    exact I1.fpOk hle (I1.hok.fresh hle)
theorem pi_enumT (hg : Gl X "enumerate") (hm : X.mg "enumerate" = none) (ha : PA X [e] ta) (hs : starEach [e] X.env = [(false, eval e X.env)] := by rfl) : PI X (.Tuple elts kk tpos) (.Call (.Name "enumerate" p) [e] [] pos) (iEnumT X.K ta) := by
  refine ⟨fun pins s σ H R I h => ?_⟩
  refine Call_ (ld_blt I hg hm boot_enumerate (PyProof.Rows.callWith_type1 (thn (ha.run pos pins s σ H _ I h) fun us s1 ⟨vs, H1, I1, r1, a, xs, ex, hq, q⟩ => ?_) hs rfl))
  subst ex
  cases r1 with
  | @cons _ u _ _ r rr =>
    cases rr
    obtain rfl : u = Value.ref a := r
    obtain ⟨its, rv, p', hz⟩ := I1.tuple hq
    have hal : a < s1.heap.objs.size := by obtain ⟨_, z, _⟩ := p'; exact Heap.lt_size z
    refine enum_any (begins_tuple a its.toArray) p' fun h' he hit hk => wpAny_pyIter_enum he ?_
    have I2 : Inv X pins σ H1 { s1 with heap := h' } := I1.kept (t' := s1.toks) hk
    refine ⟨s1.heap.objs.size + 1, [s1.heap.objs.size + 1, s1.heap.objs.size], _, _, H1, rfl, I2, turn_enumt (a := a) _ _ (Nat.succ_ne_self _) (Nat.ne_of_lt (Nat.lt_succ_of_lt hal)) (Nat.ne_of_lt hal), ⟨⟨.none, he⟩, ⟨_, hit, rfl, rfl⟩⟩, fun b hb => ?_, q⟩
    have hle : s1.heap.objs.size ≤ b := by
      rcases (show b = s1.heap.objs.size + 1 ∨ b = s1.heap.objs.size by simpa using hb) with z | z
      · rw [z]; exact Nat.le_add_right _ _
      · rw [z]; exact Nat.le_refl _
    exact I1.fpOk hle (I1.hok.fresh hle)
end
/-- enumerate in a for: an instance of Walk -/
theorem walk_enumS {x : Str} : Walk (Ites x) x.cps.size (fun _ => True) (fun i H v H' => ∃ (T : Addr) (c : Nat), v = .ref T ∧ H T = none ∧ H' = upd H T (.tup [.int (i : Nat), .str ⟨#[c]⟩]) ∧ x.cps[i]? = some c) :=
  ⟨fun i H hi _ => hi, fun H _ => rfl, fun i H v H' hi _ y => y⟩
theorem walk_enumT {K : PySem.W.Frag} {a : Addr} {xs : List V} : Walk (Itet K a) xs.length (fun H => SqT K H a xs) (fun i H v H' => ∃ (T : Addr) (y : V), v = .ref T ∧ H T = none ∧ H' = upd H T (.tup [.int (i : Nat), y]) ∧ xs[i]? = some y) :=
  ⟨fun i H hi g => ⟨xs, xs[i], g, List.getElem?_eq_getElem hi⟩, fun H g => ⟨xs, g, rfl⟩, fun i H v H' hi g ⟨T, y, e1, e2, e3, e4⟩ => ⟨T, y, e1, e2, e3, e4 xs g⟩⟩
theorem walk_zips {xs : List Str} {m : Nat} : Walk (Itzs xs m) m (fun _ => True) (fun i H x H' => ∃ (T : Addr) (cs : List Nat), x = .ref T ∧ H T = none ∧ H' = upd H T (.tup (cs.map fun c => V.str ⟨#[c]⟩)) ∧ cs.length = xs.length ∧ ∀ (k : Nat) (y : Str), xs[k]? = some y → ∃ c, y.cps[i]? = some c ∧ cs[k]? = some c) :=
  ⟨fun i H hi _ => hi, fun H _ => rfl, fun i H v H' hi _ y => y⟩
end TH
end
section
set_option Elab.async false
set_option maxRecDepth 100000
set_option maxHeartbeats 4000000
set_option linter.all false
namespace TH
open PySem PySem.Spec PyProof.Rows L2
section
open PySem.W
variable {prog : Program} {w : World} {M : Model} {A : Around} {E : Value → Shared → Prop} {s : Shared} {K : Frag} {x C D f : Addr} {ox : Obj} {od : Option Obj} {nm : String}
/-- the class at D, straight over object, knows nothing of the operator -/
structure NoOp (K : Frag) (D : Addr) (nm : String) : Prop where
  cls : ∃ cd, clsIn K D = some cd ∧ cd.mro = [.ref D, .type "object"]
  f1 : findIn K (.ref D) (PySem.dunder nm) = some none
  r1 : findIn K (.ref D) (dunderR nm) = some none
  f0 : findIn K (.type "object") (PySem.dunder nm) = some none
  r0 : findIn K (.type "object") (dunderR nm) = some none
theorem NoOp.fills {h : Heap} (N : NoOp K D nm) (X : K.In h) : Looks M h (fillsNumberSlot (.ref D) nm) false := by
  intro A Q E s k q
  obtain ⟨cd, hcd, hm⟩ := N.cls
  have X' : K.In s.heap := X.keeps k
  have L1 : Looks M s.heap (typeLookup (.ref D) (PySem.dunder nm)) none := looks_findIn X' N.f1
  have L2 : Looks M s.heap (typeLookup (.ref D) (dunderR nm)) none := looks_findIn X' N.r1
  have L3 : Looks M s.heap (typeLookup (.type "object") (PySem.dunder nm)) none := looks_findIn X' N.f0
  have L4 : Looks M s.heap (typeLookup (.type "object") (dunderR nm)) none := looks_findIn X' N.r0
  unfold fillsNumberSlot
  refine wpAny_bind ((looks_clsIn X' hcd).andThen (f := fun cd => pure cd.mro) .now A _ E s (fun _ _ e => e) ?_)
  rw [hm, List.anyM_cons]
  refine wpAny_bind ?_
  show wpAny M A (List.anyM _ [PySem.dunder nm, dunderR nm]) _ _ _
  rw [List.anyM_cons]
  refine wpAny_bind (wpAny_bind (L1.here (wpAny_pure ?_)))
  rw [if_neg Bool.false_ne_true, List.anyM_cons]
  refine wpAny_bind (wpAny_bind (L2.here (wpAny_pure ?_)))
  rw [if_neg Bool.false_ne_true, List.anyM_nil]
  refine wpAny_pure ?_
  rw [if_neg Bool.false_ne_true, List.anyM_cons]
  refine wpAny_bind (wpAny_bind (L3.here (wpAny_bind (L4.here (wpAny_pure ?_)))))
  show wpAny M A (if false = true then _ else _) _ _ _
  rw [if_neg Bool.false_ne_true, List.anyM_nil]
  exact wpAny_pure q
theorem binop_two {op : Operator} {b : Value} {Q : Value → Shared → Prop} (X : K.In s.heap) (I : InstAt s.heap x ox C od) (hb : Looks (model prog w) s.heap (typeOf b) (.ref D)) (hCD : C ≠ D) (hc : selfFirst K C = true) (N : NoOp K D op.info.2)
    (hs : findIn K (.ref C) (PySem.dunder op.info.2) = some (some (.ref f))) (hf : isFn K (.ref f) = true)
    (h : wpAny (model prog w) A (call (.ref f) [.ref x, b]) (PySem.W.CmpBack Q) E s) : wpAny (model prog w) A (binaryOp op (.ref x) b) Q E s := by
  obtain ⟨cd, rest, hcd, hm⟩ := ksp_first hc
  have hne : (Value.ref C == Value.ref D) = false := by simp [hCD]
  unfold binaryOp
  refine wpAny_holding (wpAny_bind ?_)
  unfold binaryOp1
  refine wpAny_bind (I.type.here (wpAny_bind (hb.here (wpAny_bind ((fills_K X hcd hm hs).here ?_)))))
  simp only [hne, Bool.false_eq_true, if_false]
  refine wpAny_bind ((N.fills X).here ?_)
  simp only [Bool.and_false, Bool.false_eq_true, if_false, Bool.false_and]
  refine wpAny_bind (wpAny_pure ?_)
  simp only [Bool.false_eq_true, if_false, if_true]
  refine wpAny_bind (m := tryMethod (.ref x) _ b) ?_
  unfold tryMethod
  refine wpAny_bind (special_fn X I hs (beq_iff_eq.mp hf) (wpAny_mono h (fun v s' hv => ?_) fun _ _ e => e))
  cases v <;> first | exact hv.elim | exact wpAny_pure (wpAny_pure (wpAny_pure hv))
end
/-- a op b: a an instance of C whose def for it is at g, b one of D -/
def rTwo (C D : Addr) (sp : Sp) (E : XK) : R2 := fun x y H Q => ∃ a dx fs b dy gs, x = .ref a ∧ y = .ref b ∧ H a = some (.ins C dx fs) ∧ H b = some (.ins D dy gs) ∧ sp [x, y] H Q E
/-- C(*e), the class by its name; c(*e), the class in a slot -/
def tMakeS (K : PySem.W.Frag) (C : Addr) (sp : Sp) (E : XK) (te : TE) : TE := fun σ H Q => te σ H fun y H1 => ∃ a xs, y = V.ref a ∧ (SqT K H1 a xs ∨ SqL K H1 a xs) ∧ ∀ x dx, H1 x = Option.none → H1 dx = Option.none → dx ≠ x →
  sp (V.ref x :: xs) (upd (upd H1 dx (.own x)) x (.ins C dx [])) (fun v H2 => v = .non ∧ Q (.ref x) H2) E
section
variable {X : Cx} {CX : CXT} {k : Nat} {f C : Addr} {sp : Sp} {E : XK} {x : Str} {e : Expr} {te tf : TE} {p spo pos : Pos}
theorem pe_makeS (M : Mk X.K C f) (F : FnR X.prog X.w X.K X.mg X.base CX k f sp) (hr : Room (k + 1) X.A) (hg : Gl X x) (hm : X.mg x = some (.ref C)) (hx : Passes CX X E) (he : PE X e te) (hdb : (x == ("__debug__" : Str)) = false := by decide)
    (hst : starEach [.Starred e spo] X.env = [(true, eval e X.env)] := by rfl) : PE X (.Call (.Name x p) [.Starred e spo] [] pos) (tMakeS X.K C sp E te) := by
  refine ⟨fun pins s σ H Q I h => ?_⟩
  refine wpAny_Call_Name_kw (ld_glob I hg hm ?_ hdb)
  refine PySem.W.callWith_S (h₀ := X.base) I.ok.mod.kin M.kp (thn (he.run pins s σ H _ I h) fun v s1 ⟨y, H1, I1, ry, a, xs, ey, hxs, q⟩ => ?_) hst
  subst ey
  obtain rfl : v = Value.ref a := ry
  exact StX.star_any I1 hxs fun us s2 I2 rv => ⟨I2.kIn, StX.run_makeR M F hr hx I2 rv q⟩
/-- the class is what the name of the def holds -/
theorem pe_makeSv (M : Mk X.K C f) (F : FnR X.prog X.w X.K X.mg X.base CX k f sp) (hr : Room (k + 1) X.A) (hf : PE X (.Name x p) tf) (hx : Passes CX X E) (he : PE X e te)
    (hst : starEach [.Starred e spo] X.env = [(true, eval e X.env)] := by rfl) : PE X (.Call (.Name x p) [.Starred e spo] [] pos) (fun σ H Q => tf σ H fun c H1 => c = .ref C ∧ tMakeS X.K C sp E te σ H1 Q) := by
  refine ⟨fun pins s σ H Q I h => ?_⟩
  refine wpAny_Call_Name_kw (thn (hf.run pins s σ H _ I h) fun u s0 ⟨c, H0, I0, rc, ec, h⟩ => ?_)
  subst ec
  obtain rfl : u = Value.ref C := rc
  refine PySem.W.callWith_S (h₀ := X.base) I.ok.mod.kin M.kp (thn (he.run pins s0 σ H0 _ I0 h) fun v s1 ⟨y, H1, I1, ry, a, xs, ey, hxs, q⟩ => ?_) hst
  subst ey
  obtain rfl : v = Value.ref a := ry
  exact StX.star_any I1 hxs fun us s2 I2 rv => ⟨I2.kIn, StX.run_makeR M F hr hx I2 rv q⟩
end
end TH
end
section
set_option Elab.async false
set_option maxRecDepth 100000
set_option maxHeartbeats 4000000
set_option linter.all false
namespace TH
open PySem PySem.Spec PyProof.Rows L2
theorem thnN {α : Type} {n : Nat} {t : Sem α} {Q Q' : α → Shared → Prop} {M : Model} {A : Around} {E : Value → Shared → Prop} {s : Shared} (hn : n ≤ s.toks) (h : wpAny M A t Q E s) (hQ : ∀ a s', n ≤ s'.toks → Q a s' → Q' a s') : wpAny M A t Q' E s :=
  wpAny_mono (wpAny_toks_of hn h) (fun a s' z => hQ a s' z.1 z.2) fun _ _ z => z.2
def PEn (n : Nat) (X : Cx) (e : Expr) (t : TE) : Prop :=
  ∀ (pins : List (Addr × Obj)) (s : Shared) (σ : L2.St) (H : Hp) (Q : VK), n ≤ s.toks → Inv X pins σ H s → t σ H Q → wpAny (model X.prog X.w) X.A (eval e X.env) (EP X pins σ Q) X.xe s
def PTn (n : Nat) (X : Cx) (e : Expr) (t : TT) : Prop :=
  ∀ (pins : List (Addr × Obj)) (s : Shared) (σ : L2.St) (H : Hp) (Q : Bool → Hp → Prop), n ≤ s.toks → Inv X pins σ H s → t σ H Q → wpAny (model X.prog X.w) X.A (isTrue e X.env (eval e X.env)) (TP X pins σ Q) X.xe s
def PWn (n : Nat) (X : Cx) (e : Expr) (t : TT) : Prop :=
  ∀ (whole : Sem Value) (pins : List (Addr × Obj)) (s : Shared) (σ : L2.St) (H : Hp) (Q : Bool → Hp → Prop), n ≤ s.toks → Inv X pins σ H s → t σ H Q → wpAny (model X.prog X.w) X.A (isTrue e X.env whole) (TP X pins σ Q) X.xe s
def PAn (n : Nat) (X : Cx) (es : List Expr) (t : TA) : Prop :=
  ∀ (pos : Pos) (pins : List (Addr × Obj)) (s : Shared) (σ : L2.St) (H : Hp) (Q : List V → Hp → Prop), n ≤ s.toks → Inv X pins σ H s → t σ H Q → wpAny (model X.prog X.w) X.A (spliced (backTo pos (starEach es X.env))) (AP X pins σ Q) X.xe s
def PSn (n : Nat) (X : Cx) (st : Stmt) (t : TS) : Prop :=
  ∀ (pins : List (Addr × Obj)) (s : Shared) (σ : L2.St) (H : Hp) (D : Ends), n ≤ s.toks → Inv X pins σ H s → t D σ H → wpAny (model X.prog X.w) X.A (exec st X.env) (SP X pins D) X.xe s
def PSsn (n : Nat) (X : Cx) (st : List Stmt) (t : TS) : Prop :=
  ∀ (pins : List (Addr × Obj)) (s : Shared) (σ : L2.St) (H : Hp) (D : Ends), n ≤ s.toks → Inv X pins σ H s → t D σ H → wpAny (model X.prog X.w) X.A (execs st X.env) (SP X pins D) X.xe s
def OpRn (n : Nat) (X : Cx) (f : Value → Value → Sem Value) (r : R2) : Prop :=
  ∀ (pins : List (Addr × Obj)) (s : Shared) (σ : L2.St) (H : Hp) (x y : V) (v u : Value) (Q : VK), n ≤ s.toks → Inv X pins σ H s → RelV x v → RelV y u → r x y H Q → wpAny (model X.prog X.w) X.A (f v u) (EP X pins σ Q) X.xe s
/-- a def called, its promise kept wherever n tokens are out -/
def FnRn (n : Nat) (P : Program) (w : World) (K : PySem.W.Frag) (mg : Str → Option Value) (base : Heap) (CX : CXT) (k : Nat) (f : Addr) (sp : Sp) : Prop :=
  ∀ (A : Around) (outer : List Env) (s : Shared) (H : Hp) (us : List Value) (vs : List V) (Q : VK) (E : XK), n ≤ s.toks → Room k A → Env0 P w K mg base A outer s H → Vals vs us → sp vs H Q E →
    codeAny (model P w) A (.call (.ref f) ⟨us, []⟩) (CR CX outer P w H s Q E) s
section
variable {X : Cx} {n : Nat}
theorem _root_.L2.PE.up {e : Expr} {t : TE} (h : PE X e t) : PEn n X e t := fun pins s σ H Q _ I q => h.run pins s σ H Q I q
theorem _root_.L2.PT.up {e : Expr} {t : TT} (h : PT X e t) : PTn n X e t := fun pins s σ H Q _ I q => h.run pins s σ H Q I q
theorem _root_.L2.PA.up {es : List Expr} {t : TA} (h : PA X es t) : PAn n X es t := fun pos pins s σ H Q _ I q => h.run pos pins s σ H Q I q
theorem _root_.L2.PS.up {st : Stmt} {t : TS} (h : PS X st t) : PSn n X st t := fun pins s σ H D _ I q => h.run pins s σ H D I q
theorem _root_.L2.PSs.up {st : List Stmt} {t : TS} (h : PSs X st t) : PSsn n X st t := fun pins s σ H D _ I q => h.run pins s σ H D I q
theorem PWn.pt {e : Expr} {t : TT} (h : PWn n X e t) : PTn n X e t := h _
theorem pssn_cons {st : Stmt} {rest : List Stmt} {t u : TS} (h1 : PSn n X st t) (h2 : PSsn n X rest u) : PSsn n X (st :: rest) (tSeq t u) := by
  intro pins s σ H D hn I h
  refine wpAny_execs_cons (thnN hn (h1 pins s σ H { D with nx := u D } hn I h) fun f s1 hn1 q => ?_)
  cases f with
  | next =>
    obtain ⟨σ1, H1, I1, q1⟩ := q
    exact h2 pins s1 σ1 H1 D hn1 I1 q1
  | ret v => exact q
  | brk => exact q
  | cont => exact q
theorem pssn_one {st : Stmt} {t : TS} (h1 : PSn n X st t) : PSsn n X [st] t := by
  intro pins s σ H D hn I h
  refine wpAny_execs_cons (thnN hn (h1 pins s σ H D hn I h) fun f s1 _ q => ?_)
  cases f with
  | next => exact wpAny_execs_nil q
  | ret v => exact q
  | brk => exact q
  | cont => exact q
theorem psn_ret {e : Expr} {te : TE} {pos : Pos} (he : PEn n X e te) : PSn n X (.Return (some e) pos) (tRet te) := fun pins s σ H D hn I h =>
  wpAny_Return_some (thn (he pins s σ H _ hn I h) fun _ _ ⟨x, H1, I1, r1, q1⟩ => ⟨x, σ, H1, I1, r1, q1⟩)
theorem psn_if {c : Expr} {a b : List Stmt} {tc : TT} {t u : TS} {pos : Pos} (hc : PTn n X c tc) (ha : PSsn n X a t) (hb : PSsn n X b u) : PSn n X (.If c a b pos) (tIfS tc t u) := by
  intro pins s σ H D hn I h
  refine wpAny_If (thnN hn (hc pins s σ H _ hn I h) fun d s1 hn1 ⟨H1, I1, q1⟩ => ?_)
  cases d with
  | true => exact ha pins s1 σ H1 D hn1 I1 q1
  | false => exact hb pins s1 σ H1 D hn1 I1 q1
theorem psn_set {i : Nat} {x : Str} {e : Expr} {te : TE} {pos pos' : Pos} (hN : X.N.Nodup) (hi : X.N[i]? = some x) (hx : Loc X.env.scope x) (he : PEn n X e te) (hs : swapsWith e (some (.Name x pos')) pos.line X.env = pure false := by rfl)
    (hf : X.fn x = true ∨ X.env.scope.names.lookup x = some .local := by first | exact .inl rfl | exact .inr rfl | assumption) : PSn n X (.Assign [.Name x pos'] e pos) (tAsg te (gName i)) := fun pins s σ H D hn I h =>
  wpAny_Assign_Name (thn (he pins s σ H _ hn I h) fun _ s1 ⟨y, H1, I1, r1, q1⟩ => store_ok I1 hN hi hx r1 (fun _ I2 => ⟨_, H1, I2, q1⟩) hf) hs
theorem pan_nil : PAn n X [] tNil := pa_nil.up
theorem pan_cons {e : Expr} {es : List Expr} {te : TE} {ta : TA} (he : PEn n X e te) (hr : PAn n X es ta) (hs : starEach (e :: es) X.env = (false, eval e X.env) :: starEach es X.env := by rfl) : PAn n X (e :: es) (tCons te ta) := by
  intro pos pins s σ H Q hn I h
  rw [hs]
  refine Calls.spliced_cons (thnN hn (he pins s σ H _ hn I h) fun v s1 hn1 ⟨x, H1, I1, r1, q1⟩ => ?_)
  exact thn (hr pos pins s1 σ H1 _ hn1 I1 q1) fun us s2 ⟨vs, H2, I2, r2, q2⟩ => ⟨x :: vs, H2, I2, .cons r1 r2, q2⟩
theorem run_fnRn {pins : List (Addr × Obj)} {σ : L2.St} {H : Hp} {s : Shared} {CX : CXT} {k : Nat} {f : Addr} {sp : Sp} {E : XK} {Q : VK} {us : List Value} {vs : List V} (hn : n ≤ s.toks) (F : FnRn n X.prog X.w X.K X.mg X.base CX k f sp) (hr : Room k X.A) (hx : Passes CX X E) (I : Inv X pins σ H s) (r : Vals vs us) (h : sp vs H Q E) :
    codeAny (model X.prog X.w) X.A (.call (.ref f) ⟨us, []⟩) (fun r s' => match r with | .ok (.ret v) => EP X pins σ Q v s' | .ok _ => False | .error e => X.xe e s') s := by
  refine codeAny_mono (F X.A X.stack s H us vs Q E hn hr I.env0 r h) fun r s' hq => ?_
  cases r with
  | error e => exact hx pins σ H s e s' I hq
  | ok fl =>
    cases fl with
    | ret u => exact I.after hq
    | next => exact False.elim hq
    | brk => exact False.elim hq
    | cont => exact False.elim hq
/-- x(e, ..), x a def of the module -/
def tCal (sp : Sp) (E : XK) (t : TA) : TE := fun σ H Q => t σ H fun vs H1 => sp vs H1 Q E
theorem pen_call {CX : CXT} {k : Nat} {f : Addr} {sp : Sp} {E : XK} {x : Str} {e : Expr} {es : List Expr} {t : TA} {p pos : Pos} (F : FnRn n X.prog X.w X.K X.mg X.base CX k f sp) (hr : Room k X.A) (hg : Gl X x) (hm : X.mg x = some (.ref f)) (hk : PySem.W.keepIn X.K (.ref f) = true) (hx : Passes CX X E)
    (ha : PAn n X (e :: es) t) (hdb : (x == ("__debug__" : Str)) = false := by decide) (he : starEach (e :: es) X.env = (false, eval e X.env) :: starEach es X.env := by rfl) (hpl : (backTo pos (starEach es X.env)).any (·.1) = false := by rfl) :
    PEn n X (.Call (.Name x p) (e :: es) [] pos) (tCal sp E t) := by
  intro pins s σ H Q hn I h
  refine wpAny_Call_Name_kw (ld_glob I hg hm ?_ hdb)
  exact PySem.W.callWith_K (h₀ := X.base) I.ok.mod.kin hk (thnN hn (ha pos pins s σ H _ hn I h) fun us s1 hn1 ⟨vs, H1, I1, r, q⟩ => ⟨I1.kIn, wpAny_call (run_fnRn hn1 F hr hx I1 r q)⟩) he hpl
theorem pen_callTy {T : String} {r : List V → Hp → VK → Prop} {x : Str} {e : Expr} {es : List Expr} {t : TA} {p pos : Pos} (hc : CallR X (.type T) r) (hg : Gl X x) (hm : X.mg x = none) (hv : bootBuiltins x = some (.type T)) (ha : PAn n X (e :: es) t) (hne : x ≠ "__name__" := by decide) (hdb : (x == ("__debug__" : Str)) = false := by decide)
    (he : starEach (e :: es) X.env = (false, eval e X.env) :: starEach es X.env := by rfl) (hpl : (backTo pos (starEach es X.env)).any (·.1) = false := by rfl) : PEn n X (.Call (.Name x p) (e :: es) [] pos) (tCB r t) := by
  intro pins s σ H Q hn I h
  refine wpAny_Call_Name_kw (ld_blt I hg hm hv ?_ hne hdb)
  exact PyProof.Rows.callWith_type1 (thn (ha pos pins s σ H _ hn I h) fun us s1 ⟨vs, H1, I1, r1, q1⟩ => hc pins s1 σ H1 vs us Q I1 r1 q1) he hpl
theorem pen_op {op : Operator} {r : R2} {a b : Expr} {ta tb : TE} {pos : Pos} (ho : OpRn n X (binaryOp op) r) (ha : PEn n X a ta) (hb : PEn n X b tb) : PEn n X (.BinOp a op b pos) (tOp r ta tb) := fun pins s σ H Q hn I h =>
  wpAny_BinOp (thnN hn (ha pins s σ H _ hn I h) fun v s1 hn1 ⟨x, H1, I1, rx, q1⟩ => thnN hn1 (hb pins s1 σ H1 _ hn1 I1 q1) fun u s2 hn2 ⟨y, H2, I2, ry, q2⟩ => ho pins s2 σ H2 x y v u Q hn2 I2 rx ry q2)
theorem ptn_cmpR {op : CmpOp} {r : R2} {a b : Expr} {ta tb : TE} {pos : Pos} (ho : OpR X (compareOp op) r) (ha : PEn n X a ta) (hb : PEn n X b tb) (hm : behindInMarks op b = false) : PTn n X (.Compare a [op] [b] pos) (tTest (tOp r ta tb)) := by
  intro pins s σ H Q hn I h
  refine wpAny_isTrue_Compare1 (thnN hn (ha pins s σ H _ hn I h) fun v s1 hn1 ⟨x, H1, I1, r1, q1⟩ => thn (hb pins s1 σ H1 _ hn1 I1 q1) fun u s2 ⟨y, H2, I2, r2, q2⟩ => thn (ho pins s2 σ H2 x y v u _ I2 r1 r2 q2) fun c s3 ⟨z, H3, I3, r3, k, e, q3⟩ => ?_) hm
  subst e
  cases r3
  exact wpAny_truthy_bool ⟨H3, I3, q3⟩
theorem ptn_val {e : Expr} {t : TE} (h : PEn n X e t) (he : ∀ whole, isTrue e X.env whole = (do let v ← whole; standAt e.pos; holding [v] (truthy v)) := by intro _; rfl) : PTn n X e (tB t) := by
  intro pins s σ H Q hn I hw
  rw [he]
  refine wpAny_bind (thn (h pins s σ H _ hn I hw) fun v s1 ⟨x, H1, I1, r1, c, e1, q1⟩ => ?_)
  subst e1
  cases r1
  exact wpAny_bind (wpAny_standAt (wpAny_holding (wpAny_truthy_bool ⟨H1, I1, q1⟩)))
end
/-- nothing raised: whatever is wished of what is raised -/
theorem pssn_nox {X : Cx} {n : Nat} {st : List Stmt} {t : TS} (h : PSsn n X.nox st t) : PSsn n X st t := fun pins s σ H D hn I q =>
  wpAny_mono (h pins s σ H D hn (I.wish _) q) (fun _ _ z => z.unwish) fun _ _ z => False.elim z
theorem fn_n {CX : CXT} {P : Program} {w : World} {K : PySem.W.Frag} {mg : Str → Option Value} {base : Heap} {n k : Nat} {f : Addr} {x qual : Str} {st : Stmt} {fd : FuncData} {N ps : List Str} {sp : Sp} (F : L2.Fun K x qual st f fd) (b : Binds K fd ps []) (S : FnScope N ps (defScope st)) (len : ∀ vs H Q E, sp vs H Q E → vs.length = ps.length)
    (hbody : ∀ (cdv : Value) (A : Around) (outer : List Env) (s : Shared) (H : Hp) (vs : List V) (Q : VK) (E : XK), Room k (A.deeper (envOfC qual (defScope st) s.heap.objs.size f cdv)) → sp vs H Q E →
      ∃ t, PSsn n (cxOf CX P w K mg base N qual (defScope st) f cdv A outer s H E).nox (defBody st) t ∧ t { nx := fun _ H' => Q .non H', rt := Q } (start N vs) H) : FnRn n P w K mg base CX (k + 1) f sp := by
  obtain ⟨oc, od, kV, doc, pm, an, cdv, ct, osl, rfl, lk, hcd⟩ := F.ex
  intro A outer s H us vs Q E hn hr e0 r hsp
  have hl : vs.length = ps.length := len vs H Q E hsp
  have KX : K.In s.heap := e0.mod.kin.keeps fun b o e => (e0.bs b o e).1
  have lim : s.heap.NoLimit := e0.mod.nolimit.keeps fun b o e => (e0.bs b o e).1
  have hkind : ∀ y ∈ ps.zip us, (defScope st).names.lookup y.1 = some .local ∨ ((defScope st).names.lookup y.1 = some .cell ∧ ((cellsFrom (s.heap.objs.size + 1) (defScope st).names []).lookup y.1).isSome = true) := fun ⟨m, v⟩ hy => by
    rcases S.par m (List.of_mem_zip hy).1 with q | q
    · exact .inl q
    · exact .inr ⟨q, PySem.W.cellsFrom_some _ _ _ (.inl q)⟩
  have hul : us.length = ps.length := by rw [← r.length]; exact hl
  have hb := b s us KX (by rw [List.append_nil]; exact hul)
  rw [List.append_nil] at hb
  refine codeAny_call_function hr.depth (KX _ _ lk) rfl S.co S.gen rfl (PySem.W.codeRec_of KX hcd) (hb _ _ _ _ ?_)
  refine wpAny_with_toks hn (wpAny_mono (wpAny_newFunctionEnv_cells (Q := fun env s1 => n ≤ s1.toks → _) S.kind hkind fun env he s1 x hn1 => ?_) (fun _ _ z => z) fun _ _ z _ => z)
  subst he
  refine ⟨lim.keeps x.toInCall.keep, codeAny_func ?_⟩
  obtain ⟨t, ht, hq⟩ := hbody cdv A outer s H vs Q E (hr.deeper _) hsp
  have I : Inv (cxOf CX P w K mg base N qual (defScope st) f cdv A outer s H E) [] (start N vs) H s1 := inv_start S hr.hd e0 hl r x
  refine wpAny_mono (pssn_nox ht [] s1 (start N vs) H _ hn1 I hq) (fun fl s' hs => ?_) fun e s' hs => hs
  have fin : ∀ {σ' : L2.St} {H' : Hp} {v : V} {u : Value}, Inv (cxOf CX P w K mg base N qual (defScope st) f cdv A outer s H E) [] σ' H' s' → RelV v u → Q v H' → CE outer P w H s Q u s' :=
    fun {σ' H' v u} J rv q => ⟨v, H', J.os, J.bare, J.base, J.hok, rv, q⟩
  cases fl with
  | ret u =>
    obtain ⟨v, σ', H', J, rv, q⟩ := hs
    exact fin J rv q
  | next =>
    obtain ⟨σ', H', J, q⟩ := hs
    exact fin (v := V.non) (u := Value.none) J rfl q
  | brk =>
    obtain ⟨_, _, _, q⟩ := hs
    exact False.elim q
  | cont =>
    obtain ⟨_, _, _, q⟩ := hs
    exact False.elim q
end TH
end
section
set_option Elab.async false
set_option maxRecDepth 100000
set_option maxHeartbeats 4000000
set_option linter.all false
namespace TH
open PySem PySem.Spec PyProof.Rows L2
section
variable {X : Cx} {n : Nat}
/-- what a turn leaves of the iterator's own objects -/
theorem turn_back {pins : List (Addr × Obj)} {fp : List Addr} {it : Addr} {tg : Expr} {J : It} {tn : Nat → Heap → Prop} {i : Nat} {h5 : Heap} {σ7 : L2.St} {H7 : Hp} {s7 : Shared} (T : Turn X.prog X.w X.K tg J fp it tn) (st5 : tn i h5)
    (I7 : Inv X (pins ++ pinsAt fp h5) σ7 H7 s7) : tn i s7.heap ∧ ∀ b ∈ fp, H7 b = none := by
  have key : ∀ b ∈ fp, ∀ o, h5.get? b = some o → s7.heap.get? b = some o ∧ H7 b = none := fun b hb o e => by
    obtain ⟨z1, z2, _⟩ := I7.pin (b, o) (List.mem_append_right _ (List.mem_append_right _ (mem_pinsAt hb e)))
    exact ⟨z1, z2⟩
  refine ⟨T.keep _ _ _ st5 fun b hb o e => (key b hb o e).1, fun b hb => ?_⟩
  obtain ⟨o, e, _⟩ := T.obj _ _ st5 b hb
  exact (key b hb o e).2
theorem psn_for {tg iter : Expr} {body : List Stmt} {wi : TI} {g : TG} {tb : TS} {pos : Pos} (hp : PassesOwn (model X.prog X.w) X.A X.env X.xe) (hc : X.calm = true) (hi : PI X tg iter wi) (hg : PG X tg g) (hb : PSsn n X body tb)
    (hs : ∀ x, foldedSetIterable iter X.env x = pure x := by intro _; rfl) : PSn n X (.For tg iter body [] pos) (tFor wi g tb) := by
  intro pins s σ H D hn I h
  refine wpAny_For (thnN hn (hi.run pins s σ H _ I h) fun v s1 hn1 h1 => thnN hn1 h1 fun itv s2 hn2 h2 => ?_) hs
  obtain ⟨it, fp, tn, J, H2, rfl, I2, T, st2, f2, W, ⟨m0, w0⟩, turn⟩ := h2
  refine codeAny_forLoop_any (fun m s' => n ≤ s'.toks ∧ ∃ i σ' H', Inv X pins σ' H' s' ∧ tn i s'.heap ∧ (∀ b ∈ fp, H' b = none) ∧ W i m σ' H') ?_ m0 ⟨hn2, 0, σ, H2, I2, st2, fun b hb => (f2 b hb).1, w0⟩
  rintro m s3 ⟨hn3, i, σ3, H3, I3, st3, fr3, w3⟩
  have ok3 : ∀ {H' : Hp}, (∀ b ∈ fp, H' b = none) → ∀ b ∈ fp, FpOk X pins H' b := fun z b hb => ⟨z b hb, (f2 b hb).2⟩
  rcases turn i m σ3 H3 w3 with ⟨stop, qn⟩ | ⟨go, N, hN, step⟩
  · refine wpAny_passesOwn hp (thn (T.done X rfl rfl rfl hc i pins s3 σ3 H3 X.xe I3 (ok3 fr3) st3 stop) fun r s4 hr => ?_)
    obtain ⟨rfl, I4⟩ := hr
    exact wpAny_execs_nil ⟨σ3, H3, I4, qn⟩
  · refine wpAny_passesOwn hp (thnN hn3 (T.item X rfl rfl rfl hc i pins s3 σ3 H3 X.xe I3 (ok3 fr3) st3 go) fun r s4 hn4 hr => ?_)
    obtain ⟨u, rfl, h4⟩ := hr
    refine wpAny_passesOwn hp (thnN hn4 h4 fun _ s5 hn5 ⟨x, H5, I5, r5, y5, st5, fr5⟩ => ?_)
    have J5 := I5.pinned (ok3 fr5) (T.obj _ _ st5)
    refine wpAny_passesOwn hp (thnN hn5 (hg.run _ s5 σ3 H5 x u _ J5 r5 (step x H5 y5)) fun _ s6 hn6 ⟨σ6, H6, I6, q6⟩ => ?_)
    refine wpAny_passesOwn hp (thnN hn6 (hb _ s6 σ6 H6 _ hn6 I6 q6) fun f s7 hn7 q7 => ?_)
    have more : ∀ {σ7 : L2.St} {H7 : Hp}, Inv X (pins ++ pinsAt fp s5.heap) σ7 H7 s7 → N σ7 H7 → ∃ m', m' < m ∧ (n ≤ s7.toks ∧ ∃ i σ' H', Inv X pins σ' H' s7 ∧ tn i s7.heap ∧ (∀ b ∈ fp, H' b = none) ∧ W i m' σ' H') := fun {σ7 H7} I7 z => by
      obtain ⟨m', hm, w7⟩ := hN σ7 H7 z
      obtain ⟨t1, t2⟩ := turn_back T st5 I7
      exact ⟨m', hm, hn7, i + 1, σ7, H7, I7.unpinned, t1, t2, w7⟩
    cases f with
    | next => obtain ⟨σ7, H7, I7, z⟩ := q7; exact more I7 z
    | cont => obtain ⟨σ7, H7, I7, z⟩ := q7; exact more I7 z
    | brk => obtain ⟨σ7, H7, I7, z⟩ := q7; exact ⟨σ7, H7, I7.unpinned, z⟩
    | ret v => obtain ⟨x7, σ7, H7, I7, r7, z⟩ := q7; exact ⟨x7, σ7, H7, I7.unpinned, r7, z⟩
theorem pwn_or1 {a : Expr} {tA : TT} {pos : Pos} (ha : PTn n X a tA) : PWn n X (.BoolOp .Or [a] pos) tA := by
  intro whole pins s σ H Q hn I h
  refine isTrue_or (thn (ha pins s σ H Q hn I h) fun c s1 e => ?_)
  cases c with
  | false => exact isTrue_or_nil e
  | true => exact e
theorem pwn_or {a b : Expr} {rest : List Expr} {tA tB : TT} {pos : Pos} (ha : PTn n X a tA) (hb : PWn n X (.BoolOp .Or (b :: rest) pos) tB) : PWn n X (.BoolOp .Or (a :: b :: rest) pos) (tOr tA tB) := by
  intro whole pins s σ H Q hn I h
  refine isTrue_or (thnN hn (ha pins s σ H _ hn I h) fun c s1 hn1 ⟨H1, I1, q1⟩ => ?_)
  cases c with
  | true => exact ⟨H1, I1, q1⟩
  | false => exact hb whole pins s1 σ H1 Q hn1 I1 q1
theorem ptn_not {a : Expr} {tA : TT} {pos : Pos} (ha : PTn n X a tA) : PTn n X (.UnaryOp .Not a pos) (tNot tA) := fun pins s σ H Q hn I h => isTrue_not (ha pins s σ H (fun c H1 => Q (!c) H1) hn I h)
/-- where nothing may be raised -/
theorem thnFN {α : Type} {t : Sem α} {Q Q' : α → Shared → Prop} {M : Model} {A : Around} {E : Value → Shared → Prop} {s : Shared} (hn : n ≤ s.toks) (h : wpAny M A t Q (fun _ _ => False) s) (hQ : ∀ a s', n ≤ s'.toks → Q a s' → Q' a s') : wpAny M A t Q' E s :=
  wpAny_mono (wpAny_toks_of hn h) (fun a s' z => hQ a s' z.1 z.2) fun _ _ z => False.elim z.2
end
section
variable {X : Cx} {n : Nat} {pins : List (Addr × Obj)} {σ : L2.St}
/-- the loop's own context -/
abbrev blkE (X : Cx) (scope : Scope) (s : Shared) : Env := compEnvC scope (cellsFrom (s.heap.objs.size + 1) scope.names (cloFrom X.env.cells scope.names [])) s.heap.objs.size X.env
/-- the iterator's own objects, within the block: as they were, not tracked -/
theorem blk_fp {B : Cx} {fp : List Addr} (hx : ∀ b ∈ fp, b ∈ B.ex) (hp : B.pn = []) {σ' : L2.St} {H' : Hp} {s' : Shared} (J : Inv B [] σ' H' s') (z : ∀ b ∈ fp, H' b = none) : ∀ b ∈ fp, FpOk B [] H' b := fun b hb =>
  ⟨z b hb, (J.ok.exf b (hx b hb)).1, J.ok.exfs b (hx b hb), .inl (hx b hb), fun x c e => (J.ok.exf b (hx b hb)).2 x c e, fun p hp' => by
    rw [hp] at hp'
    cases hp'⟩
/-- a turn's end: the loop's word again -/
theorem blk_turn {B : Cx} {tg : Expr} {J : It} {fp : List Addr} {it : Addr} {tn : Nat → Heap → Prop} {i : Nat} {h7 : Heap} {vs : List Nat} {σ8 : L2.St} {H' : Hp} {s' : Shared} (T : Turn B.prog B.w B.K tg J fp it tn) (st : tn i h7)
    (w8 : wipe σ8 vs = wipe σ vs) (I' : Inv B ([] ++ pinsAt fp h7) σ8 H' s') : Inv B [] (wipe σ vs) H' s' ∧ tn i s'.heap ∧ ∀ b ∈ fp, H' b = none := by
  obtain ⟨t1, t2⟩ := turn_back T st I'
  refine ⟨(I'.unpinned (pins := [])).weak (by rw [← w8, wipe_length]) fun j v e => ?_, t1, t2⟩
  rw [← w8] at e
  exact (wipe_some e).1
/-- what a comprehension with `tYes` reads of its loop -/
abbrev LcW (g : TG) (te : TE) (vs : List Nat) (σ : L2.St) (J : It) (D : Addr) (W : Nat → Nat → Hp → Prop) (Qd : Hp → Prop) : Prop := ∀ i m H, W i m H →
  (J.stop i H ∧ Qd H) ∨ (J.go i H ∧ ∃ Nx : Hp → Prop, (∀ H', Nx H' → ∃ m', m' < m ∧ W (i + 1) m' H') ∧ ∀ x H', J.yld i H x H' → g x (wipe σ vs) H' fun σ2 H2 => wipe σ2 vs = wipe σ vs ∧ tYes σ2 H2 fun b H3 =>
    if b = true then te σ2 H3 fun y H4 => ∃ acc, H4 D = some (.lst acc) ∧ acc.length < sizeLine ∧ Nx (upd H4 D (.lst (acc ++ [y]))) else Nx H3)
/-- the loop of the block, in the block's own context B -/
theorem lcn_loop {B : Cx} {elt tg iter : Expr} {scope : Scope} {pos : Pos} {g : TG} {te : TE} {vs : List Nat} {J : It} {fp : List Addr} {it D : Addr} {tn : Nat → Heap → Prop} {W : Nat → Nat → Hp → Prop} {Qd : Hp → Prop} {R : Result → Shared → Prop} {H : Hp} {s : Shared} {m0 : Nat}
    (hx : ∀ b ∈ fp, b ∈ B.ex) (hpn : B.pn = []) (hxe : B.xe = fun _ _ => False) (hc : B.calm = true) (T : Turn B.prog B.w B.K tg J fp it tn) (pg : PG B tg g) (pe : PEn n B elt te) (turn : LcW g te vs σ J D W Qd)
    (fin : ∀ H' s', Inv B [] (wipe σ vs) H' s' → Qd H' → R (.ok .next) s') (hn : n ≤ s.toks) (I : Inv B [] (wipe σ vs) H s) (st : tn 0 s.heap) (hf : ∀ b ∈ fp, H b = none) (w0 : W 0 m0 H) :
    codeAny (model B.prog B.w) B.A (.compLoop (.ListComp elt [⟨tg, iter, [], 0⟩] scope pos) 0 (.ref it) (.ref D) B.env) R s := by
  refine compLoop_any (fun m t => n ≤ t.toks ∧ ∃ i H', Inv B [] (wipe σ vs) H' t ∧ tn i t.heap ∧ (∀ b ∈ fp, H' b = none) ∧ W i m H') ?_ m0 ⟨hn, 0, H, I, st, hf, w0⟩
  rintro m t ⟨hm, i, H1, I1, st1, f1, w1⟩
  rcases turn i m H1 w1 with ⟨stop, qd⟩ | ⟨go, Nx, hNx, step⟩
  · refine thnFN hm (T.done B rfl rfl rfl hc i [] t _ H1 (fun _ _ => False) I1 (blk_fp hx hpn I1 f1) st1 stop) fun r t2 _ ⟨e, I2⟩ => ?_
    rw [e]
    exact fin H1 t2 I2 qd
  · refine thnFN hm (T.item B rfl rfl rfl hc i [] t _ H1 (fun _ _ => False) I1 (blk_fp hx hpn I1 f1) st1 go) fun r t2 hm2 ⟨u, e, more⟩ => ?_
    rw [e]
    refine thnFN hm2 more fun _ t3 hm3 ⟨x, H3, I3, rx, y3, st3, f3⟩ => ?_
    have pinned := I3.pinned (blk_fp hx hpn I3 f3) (T.obj _ _ st3)
    have h4 := pg.run _ t3 _ H3 x u _ pinned rx (step x H3 y3)
    rw [hxe] at h4
    refine thnFN hm3 h4 fun _ t4 hm4 ⟨σ4, H4, I4, w4, q4⟩ => ?_
    refine wpAny_tests_nil ?_
    have h5 := pe _ t4 σ4 H4 _ hm4 I4 (show te σ4 H4 _ from q4)
    rw [hxe] at h5
    show if true = true then _ else _
    rw [if_pos rfl]
    refine thnFN hm4 h5 fun z t5 hm5 ⟨yv, H5, I5, r5, acc, hD, hz, nx⟩ => ?_
    refine thnFN hm5 (app_ok (X := B) (E := fun _ _ => False) (Q := fun _ t6 => ∃ H6, Inv B _ σ4 H6 t6 ∧ Nx H6) I5 hD hz r5 fun t6 I6 => ⟨_, I6, nx⟩) fun _ t6 hm6 ⟨H6, I6, nx6⟩ => ?_
    obtain ⟨m', lt, w6⟩ := hNx H6 nx6
    obtain ⟨k1, k2, k3⟩ := blk_turn T st3 w4 I6
    exact ⟨m', lt, hm6, i + 1, H6, k1, k2, k3, w6⟩
theorem lcn_core {s : Shared} {H : Hp} {Q : VK} {elt tg iter : Expr} {scope : Scope} {own : List (Str × Nat)} {pos pos' : Pos} {wi : TI} {g : TG} {te : TE} {use : Option (Value → Sem Unit)} {Qf : Value → Shared → Prop}
    (hc : X.calm = true) (hN : X.N.Nodup) (hn : n ≤ s.toks) (I : Inv X pins σ H s) (hi : PI X tg iter wi) (ok : BlkOk X.N X.env.scope scope own)
    (hg : ∀ (s : Shared) (H : Hp) (C : Addr) (cl : List (Str × Addr)) (fp : List Addr), PG (X.blk s H scope (compEnvC scope cl C X.env) fp) tg g)
    (he : ∀ (s : Shared) (H : Hp) (C : Addr) (cl : List (Str × Addr)) (fp : List Addr), PEn n (X.blk s H scope (compEnvC scope cl C X.env) fp) elt te) (hs : ∀ x, foldedSetIterable iter X.env x = pure x)
    (h : tLc wi g tYes te (own.map (·.2)) σ H Q)
    (hRR : ∀ D C s' m H', Inv X pins σ H' s' → Q (.ref D) H' → s'.heap.Ns C m → FpOk X pins H' C → compPost (model X.prog X.w) X.A X.xe use Qf (.ref D) C (.ok .next) s') :
    wpAny (model X.prog X.w) X.A (comprehension (.ListComp elt [⟨tg, iter, [], 0⟩] scope pos) scope X.env pos' (newList []) false (eval iter X.env) use) Qf X.xe s := by
  have known : ∀ y ∈ scope.names, y.2 = .free → ∃ c, X.env.cells.lookup y.1 = some c := fun y hy e => (ok.free y hy e).elim (fun k => I.ok.has _ (.inl k)) fun k => I.ok.has _ (.inr k)
  refine wpAny_comprehension_free (use := use) rfl hs (closure_ok known) ok.kind (fun y hy e => by rw [ok.uniq y hy, e]) ?_
  refine thnN hn (hi.run pins s σ H _ I h) fun xv s1 hn1 hx => thnN hn1 hx fun itv s2 hn2 h2 => ?_
  obtain ⟨it, fp, tn, J, H2, rfl, I2, T, st2, f2, q⟩ := h2
  refine wpAny_newObj_type (newEnv_comp ?_) (by show 0 ≤ sizeLine; decide)
  have free2 : H2 s2.heap.objs.size = none := I2.hok.fresh (Nat.le_refl _)
  have below : ∀ b ∈ fp, b < s2.heap.objs.size := fun b hb => by
    obtain ⟨o, e, _⟩ := T.obj _ _ st2 b hb
    exact Heap.lt_size e
  have laid3 : Inv X pins σ (upd H2 s2.heap.objs.size (.lst [])) { s2 with heap := s2.heap.push { cls := .type "list", data := .seq ([] : List Value).toArray } } :=
    I2.laid (t' := s2.toks) (fun b o e => Heap.get?_push_of_some _ e) (Nat.le_refl _) ⟨Nat.zero_le _, [], 0, .nil, Heap.get?_push_size _ rfl⟩
  have st3 : tn 0 (s2.heap.push { cls := .type "list", data := .seq ([] : List Value).toArray }) := T.keep _ _ _ st2 fun b _ o e => Heap.get?_push_of_some _ e
  obtain ⟨W, ⟨m0, w0⟩, turn⟩ := q _ free2
  generalize hD : s2.heap.objs.size = D at free2 below laid3 turn w0 ⊢
  generalize hH3 : upd H2 D (.lst []) = H3 at laid3 w0
  have f3 : ∀ b ∈ fp, FpOk X pins H3 b ∧ b < ({ s2 with heap := s2.heap.push { cls := .type "list", data := .seq ([] : List Value).toArray } } : Shared).heap.objs.size := fun b hb => by
    have lt := below b hb
    refine ⟨⟨?_, (f2 b hb).2⟩, ?_⟩
    · rw [← hH3, upd_ne (Nat.ne_of_lt lt)]
      exact (f2 b hb).1
    · show b < (s2.heap.push _).objs.size
      rw [Heap.size_push, hD]
      exact Nat.lt_succ_of_lt lt
  generalize hs3 : ({ s2 with heap := s2.heap.push { cls := .type "list", data := .seq ([] : List Value).toArray } } : Shared) = s3 at laid3 f3
  have h3 : s2.heap.push { cls := .type "list", data := .seq ([] : List Value).toArray } = s3.heap := by rw [← hs3]
  have hn3 : n ≤ s3.toks := by rw [← hs3]; exact hn2
  rw [h3] at st3
  have I4 := block_start laid3 ok hN f3
  have st4 : tn 0 (pushCells (s3.heap.push { cls := .type "dict", data := .dict #[] }) scope.names) := T.keep _ _ _ st3 fun b _ o e => pushCells_keeps _ _ _ _ (Heap.get?_push_of_some _ e)
  show codeAny _ _ (.compStart (.ListComp elt [⟨tg, iter, [], 0⟩] scope pos) 0 (.ref it) (.ref D) (blkE X scope s3)) (compPost (model X.prog X.w) X.A X.xe use Qf (.ref D) s3.heap.objs.size) { s3 with heap := pushCells (s3.heap.push { cls := .type "dict", data := .dict #[] }) scope.names }
  have loop : codeAny (model X.prog X.w) X.A (.compLoop (.ListComp elt [⟨tg, iter, [], 0⟩] scope pos) 0 (.ref it) (.ref D) (blkE X scope s3)) (compPost (model X.prog X.w) X.A X.xe use Qf (.ref D) s3.heap.objs.size) { s3 with heap := pushCells (s3.heap.push { cls := .type "dict", data := .dict #[] }) scope.names } := by
    refine lcn_loop (B := X.blk s3 H3 scope (blkE X scope s3) fp) (n := n) (J := J) (Qd := Q (.ref D)) (W := W) (vs := own.map (·.2)) (σ := σ) (fun b hb => hb) rfl rfl hc T (hg _ _ _ _ _) (he _ _ _ _ _) turn ?_ hn3 I4 st4 (fun b hb => (f3 b hb).1.1) w0
    intro H' s' J' qd
    have back : Inv X pins σ H' s' := laid3.call' (ch := fp) J'.os J'.base J'.hok J'.bare fun b hb => ⟨(f3 b hb).1.2.2.2.1, (f3 b hb).1.2.1, (f3 b hb).1.2.2.2.2.1, (f3 b hb).1.2.2.2.2.2⟩
    obtain ⟨m, hm, _⟩ := J'.loc
    exact hRR D s3.heap.objs.size s' m H' back qd hm (laid3.fpOk (Nat.le_refl _) J'.free)
  exact codeAny_compStart_list loop (T.self X.A 0 _ _ _ st4 loop)
/-- [e for x in xs], e wants n tokens out -/
theorem pen_lc {elt tg iter : Expr} {scope : Scope} {own : List (Str × Nat)} {pos : Pos} {wi : TI} {g : TG} {te : TE} (hc : X.calm = true) (hN : X.N.Nodup) (hi : PI X tg iter wi) (ok : BlkOk X.N X.env.scope scope own)
    (hg : ∀ (s : Shared) (H : Hp) (C : Addr) (cl : List (Str × Addr)) (fp : List Addr), PG (X.blk s H scope (compEnvC scope cl C X.env) fp) tg g)
    (he : ∀ (s : Shared) (H : Hp) (C : Addr) (cl : List (Str × Addr)) (fp : List Addr), PEn n (X.blk s H scope (compEnvC scope cl C X.env) fp) elt te) (hs : ∀ x, foldedSetIterable iter X.env x = pure x := by intro _; rfl) :
    PEn n X (.ListComp elt [⟨tg, iter, [], 0⟩] scope pos) (tLc wi g tYes te (own.map (·.2))) := by
  intro pins s σ H Q hn I h
  rw [eval_ListComp]
  refine lcn_core hc hN hn I hi ok hg he hs h fun D C s' m H' I' q hns f => ⟨m, hns, fun h2 sb => ?_⟩
  obtain ⟨a0, a1, _, a3, a4, a5⟩ := f
  exact ⟨.ref D, H', I'.turned (t' := s'.toks) (fun b o hb e => (sb.2 b hb).trans e) a0 a1 a3 a4 a5, rfl, q⟩
/-- y = [e for x in xs] on one line, y a local -/
theorem psn_setLc {i : Nat} {y : Str} {py : Pos} {elt tg iter : Expr} {scope : Scope} {own : List (Str × Nat)} {pos spos : Pos} {wi : TI} {g : TG} {te : TE} (hc : X.calm = true) (hN : X.N.Nodup) (hy : X.N[i]? = some y) (hyl : X.env.scope.names.lookup y = some .local)
    (hsw : swapsWith (.ListComp elt [⟨tg, iter, [], 0⟩] scope pos) (some (.Name y py)) spos.line X.env = pure true) (hi : PI X tg iter wi) (ok : BlkOk X.N X.env.scope scope own)
    (hg : ∀ (s : Shared) (H : Hp) (C : Addr) (cl : List (Str × Addr)) (fp : List Addr), PG (X.blk s H scope (compEnvC scope cl C X.env) fp) tg g)
    (he : ∀ (s : Shared) (H : Hp) (C : Addr) (cl : List (Str × Addr)) (fp : List Addr), PEn n (X.blk s H scope (compEnvC scope cl C X.env) fp) elt te) (hs : ∀ x, foldedSetIterable iter X.env x = pure x := by intro _; rfl) :
    PSn n X (.Assign [.Name y py] (.ListComp elt [⟨tg, iter, [], 0⟩] scope pos) spos) (tAsg (tLc wi g tYes te (own.map (·.2))) (gName i)) := by
  intro pins s σ H D hn I h
  rw [exec_Assign_Name_used _ _ _ _ hsw]
  refine wpAny_bind (wpAny_standAt (wpAny_bind ?_))
  show wpAny _ X.A (do let _ ← comprehension (.ListComp elt [⟨tg, iter, [], 0⟩] scope pos) scope X.env (firstIterPos [⟨tg, iter, [], 0⟩] pos) (newList []) false (eval iter X.env) (some (assign (.Name y py) X.env))) _ _ s
  have h' : tLc wi g tYes te (own.map (·.2)) σ H (fun x H1 => gName i x σ H1 D.nx) := h
  refine wpAny_bind (thn (lcn_core (Qf := fun _ s' => SP X pins D .next s') hc hN hn I hi ok hg he hs h' fun L C s' m H' I' q hns f => ?_) fun _ s' hq => wpAny_pure (wpAny_pure hq))
  show wpAny _ _ (assign (.Name y py) X.env (.ref L)) _ _ _
  refine wpAny_assign_Name (store_ok2 (v := V.ref L) I' hN hy (.inl hyl) rfl (fun s2 I2 ⟨a, sb, ha⟩ => ?_) (.inr hyl))
  obtain ⟨a0, a1, _, a3, a4, a5⟩ := f
  have haC : C ≠ a := ha.elim (fun z => by rw [z]; exact a1) fun z e => a4 y a z e.symm
  exact ⟨m, hns.sameBut sb haC, fun h3 sb3 => ⟨_, H', I2.turned (t' := s2.toks) (fun b o hb e => (sb3.2 b hb).trans e) a0 a1 a3 a4 a5, q⟩⟩
end
end TH
end
section
set_option maxHeartbeats 4000000
set_option linter.all false
namespace TM
/-- is it a tilt along rows -/
def isH (c : Nat) : Bool := c == 108 || c == 114
end TM
end
section
set_option maxHeartbeats 4000000
set_option linter.all false
namespace TM
def mb (l : List Nat) : List Nat := l.filter fun c => c != 46
def dots (n : Nat) : List Nat := List.replicate n 46
def sl (s : Bool) (l : List Nat) : List Nat := if s then mb l ++ dots (l.length - (mb l).length) else dots (l.length - (mb l).length) ++ mb l
theorem mb_le (l : List Nat) : (mb l).length ≤ l.length := List.length_filter_le _ _
theorem mb_dots (n : Nat) : mb (dots n) = [] := by
  unfold mb dots
  rw [List.filter_eq_nil_iff]
  intro a ha
  rw [(List.mem_replicate.mp ha).2]
  decide
theorem mb_app (a b : List Nat) : mb (a ++ b) = mb a ++ mb b := List.filter_append ..
theorem mb_mb (l : List Nat) : mb (mb l) = mb l := by unfold mb; rw [List.filter_filter]; simp
theorem sl_len (s : Bool) (l : List Nat) : (sl s l).length = l.length := by
  have := mb_le l
  cases s <;> simp [sl, dots] <;> omega
theorem mb_sl (s : Bool) (l : List Nat) : mb (sl s l) = mb l := by
  cases s <;> simp [sl, mb_app, mb_dots, mb_mb]
theorem sl_sl (s s' : Bool) (l : List Nat) : sl s (sl s' l) = sl s l := by
  have h := sl_len s' l
  have h2 := mb_sl s' l
  unfold sl at h h2 ⊢
  rw [h, h2]
/-- where a slid line is empty -/
theorem sl_at (s : Bool) (l : List Nat) (j : Nat) (hj : j < l.length) : ((sl s l).getD j 46 = 46) ↔ (if s then (mb l).length ≤ j else j < l.length - (mb l).length) := by
  have hm : ∀ c ∈ mb l, c ≠ 46 := fun c hc => by
    have := (List.mem_filter.mp hc).2
    simpa using this
  have hle := mb_le l
  rw [List.getD_eq_getElem?_getD]
  cases s with
  | true =>
    simp only [sl, if_true]
    by_cases h : j < (mb l).length
    · rw [List.getElem?_append_left h, List.getElem?_eq_getElem h]
      have := hm _ (List.getElem_mem h)
      constructor
      · intro e
        exact absurd e this
      · intro e
        omega
    · rw [List.getElem?_append_right (by omega)]
      unfold dots
      rw [List.getElem?_replicate]
      constructor
      · intro _
        omega
      · intro _
        split <;> rfl
  | false =>
    simp only [sl, Bool.false_eq_true, if_false]
    by_cases h : j < l.length - (mb l).length
    · rw [List.getElem?_append_left (by simp [dots]; omega)]
      unfold dots
      rw [List.getElem?_replicate, if_pos h]
      exact ⟨fun _ => h, fun _ => rfl⟩
    · have hk : j - (l.length - (mb l).length) < (mb l).length := by omega
      rw [List.getElem?_append_right (by simp [dots]; omega)]
      have e : (dots (l.length - (mb l).length)).length = l.length - (mb l).length := by simp [dots]
      rw [e, List.getElem?_eq_getElem hk]
      have := hm _ (List.getElem_mem hk)
      exact ⟨fun q => absurd q this, fun q => absurd q h⟩
/-- pushed to one end -/
def Ju (s : Bool) (l : List Nat) : Prop := ∀ j, j + 1 < l.length → if s then l.getD j 46 = 46 → l.getD (j + 1) 46 = 46 else l.getD (j + 1) 46 = 46 → l.getD j 46 = 46
theorem all_dots : ∀ {l : List Nat}, (∀ j, j + 1 < l.length → l.getD j 46 = 46 → l.getD (j + 1) 46 = 46) → l.getD 0 46 = 46 → l = dots l.length
  | [], _, _ => rfl
  | [a], _, h0 => by
    have : a = 46 := h0
    subst this
    rfl
  | a :: b :: r, h, h0 => by
    have ha : a = 46 := h0
    have hb : b = 46 := h 0 (by simp) h0
    have z := all_dots (l := b :: r) (fun j hj q => h (j + 1) (by simp at hj ⊢; omega) q) hb
    subst ha
    rw [z]
    simp [dots, List.replicate_succ]
theorem ju_left : ∀ {l : List Nat}, Ju true l → sl true l = l
  | [], _ => rfl
  | a :: r, h => by
    have h' : ∀ j, j + 1 < (a :: r).length → (a :: r).getD j 46 = 46 → (a :: r).getD (j + 1) 46 = 46 := fun j hj => by simpa using h j hj
    by_cases e : a = 46
    · have z := all_dots h' (show a = 46 from e)
      rw [z]
      simp only [sl, if_true, mb_dots]
      simp [dots]
    · have z := ju_left (l := r) fun j hj => by
        have q := h' (j + 1) (by simp at hj ⊢; omega)
        simpa using q
      simp only [sl, if_true] at z ⊢
      have em : mb (a :: r) = a :: mb r := by simp [mb, List.filter_cons, e]
      have el : (a :: r).length - (mb (a :: r)).length = r.length - (mb r).length := by rw [em]; simp
      rw [el, em, List.cons_append, z]
theorem ju_rev {l : List Nat} (h : Ju false l) : Ju true l.reverse := fun j hj => by
  have hj' : j + 1 < l.length := by simpa using hj
  have z := h (l.length - 1 - (j + 1)) (by omega)
  simp only [if_true]
  simp only [Bool.false_eq_true, if_false] at z
  have e : l.length - 1 - (j + 1) + 1 = l.length - 1 - j := by omega
  rw [e] at z
  rw [List.getD_eq_getElem?_getD, List.getElem?_reverse (by omega), List.getD_eq_getElem?_getD, List.getElem?_reverse (by omega)]
  rw [List.getD_eq_getElem?_getD, List.getD_eq_getElem?_getD] at z
  exact z
theorem sl_rev (l : List Nat) : sl false l = (sl true l.reverse).reverse := by
  have e : mb l.reverse = (mb l).reverse := by unfold mb; rw [List.filter_reverse]
  simp [sl, e, dots]
theorem ju_sl {s : Bool} {l : List Nat} (h : Ju s l) : sl s l = l := by
  cases s with
  | true => exact ju_left h
  | false => rw [sl_rev, ju_left (ju_rev h), List.reverse_reverse]
theorem sl_ju (s : Bool) (l : List Nat) : Ju s (sl s l) := fun j hj => by
  rw [sl_len] at hj
  have h1 := sl_at s l j (by omega)
  have h2 := sl_at s l (j + 1) hj
  cases s with
  | true =>
    simp only [if_true] at h1 h2 ⊢
    rw [h1, h2]
    omega
  | false =>
    simp only [Bool.false_eq_true, if_false] at h1 h2 ⊢
    rw [h1, h2]
    omega
abbrev Grid := List (List Nat)
def tr (m : Nat) (g : Grid) : Grid := (List.range m).map fun j => g.map fun r => r.getD j 46
def Rect (n m : Nat) (g : Grid) : Prop := g.length = n ∧ ∀ r ∈ g, r.length = m
theorem tr_rect {n m : Nat} {g : Grid} (h : Rect n m g) : Rect m n (tr m g) := by
  refine ⟨by simp [tr], fun r hr => ?_⟩
  obtain ⟨j, _, rfl⟩ := List.mem_map.mp hr
  simp [h.1]
theorem tr_get {m j : Nat} {g : Grid} (hj : j < m) : (tr m g)[j]? = some (g.map fun r => r.getD j 46) := by
  unfold tr
  rw [List.getElem?_map, List.getElem?_range hj]
  rfl
theorem tr_tr {n m : Nat} {g : Grid} (h : Rect n m g) : tr n (tr m g) = g := by
  refine List.ext_getElem? fun i => ?_
  by_cases hi : i < n
  · rw [tr_get hi]
    have hi' : i < g.length := by rw [h.1]; exact hi
    rw [List.getElem?_eq_getElem hi']
    congr 1
    have hl : g[i].length = m := h.2 _ (List.getElem_mem hi')
    refine List.ext_getElem? fun j => ?_
    rw [List.getElem?_map]
    by_cases hj : j < m
    · rw [tr_get hj]
      show some ((g.map fun r => r.getD j 46).getD i 46) = _
      rw [List.getD_eq_getElem?_getD, List.getElem?_map, List.getElem?_eq_getElem hi']
      show some (g[i].getD j 46) = _
      rw [List.getD_eq_getElem?_getD, List.getElem?_eq_getElem (by omega)]
      rfl
    · rw [List.getElem?_eq_none (by rw [(tr_rect h).1]; omega), List.getElem?_eq_none (by omega)]
      rfl
  · rw [List.getElem?_eq_none (by rw [(tr_rect (tr_rect h)).1]; omega), List.getElem?_eq_none (by rw [h.1]; omega)]
def LT (s : Bool) (g : Grid) : Grid := g.map (sl s)
def UT (s : Bool) (n m : Nat) (g : Grid) : Grid := tr n (LT s (tr m g))
theorem lt_rect {s : Bool} {n m : Nat} {g : Grid} (h : Rect n m g) : Rect n m (LT s g) := by
  refine ⟨by simp [LT, h.1], fun r hr => ?_⟩
  obtain ⟨q, hq, rfl⟩ := List.mem_map.mp hr
  rw [sl_len]
  exact h.2 q hq
theorem ut_rect {s : Bool} {n m : Nat} {g : Grid} (h : Rect n m g) : Rect n m (UT s n m g) := tr_rect (lt_rect (tr_rect h))
theorem lt_lt (a b : Bool) (g : Grid) : LT b (LT a g) = LT b g := by
  unfold LT
  rw [List.map_map]
  refine List.map_congr_left fun r _ => ?_
  exact sl_sl b a r
theorem ut_ut {a b : Bool} {n m : Nat} {g : Grid} (h : Rect n m g) : UT b n m (UT a n m g) = UT b n m g := by
  unfold UT
  rw [tr_tr (lt_rect (tr_rect h)), lt_lt]
/-- the core: a tray pushed to one side stays pushed to it when it is tilted along the other axis -/
theorem lul {a o : Bool} {n m : Nat} {g : Grid} (h : Rect n m g) : LT a (UT o n m (LT a g)) = UT o n m (LT a g) := by
  have hy := lt_rect (s := a) h
  generalize ey : LT a g = y at hy
  have hju : ∀ r ∈ y, Ju a r := fun r hr => by
    rw [← ey] at hr
    obtain ⟨q, _, rfl⟩ := List.mem_map.mp hr
    exact sl_ju a q
  have hz := ut_rect (s := o) hy
  suffices H : ∀ r ∈ UT o n m y, Ju a r by
    unfold LT
    conv => rhs; rw [← List.map_id (UT o n m y)]
    exact List.map_congr_left fun r hr => ju_sl (H r hr)
  intro r hr
  obtain ⟨i, hi, rfl⟩ := List.mem_map.mp hr
  have hi' := List.mem_range.mp hi
  have cnt : ∀ j, j + 1 < m → if a then (mb (y.map fun r => r.getD (j + 1) 46)).length ≤ (mb (y.map fun r => r.getD j 46)).length else (mb (y.map fun r => r.getD j 46)).length ≤ (mb (y.map fun r => r.getD (j + 1) 46)).length := by
    intro j hj
    have key : ∀ (z : Grid), (∀ r ∈ z, r.length = m ∧ Ju a r) → if a then (mb (z.map fun r => r.getD (j + 1) 46)).length ≤ (mb (z.map fun r => r.getD j 46)).length else (mb (z.map fun r => r.getD j 46)).length ≤ (mb (z.map fun r => r.getD (j + 1) 46)).length := by
      intro z
      induction z with
      | nil => intro _; cases a <;> simp [mb]
      | cons r z ih =>
        intro hz
        have q1 := ih fun r' hr' => hz r' (List.mem_cons_of_mem _ hr')
        obtain ⟨hl, hJ⟩ := hz r (List.mem_cons_self ..)
        have hJ' := hJ j (by omega)
        cases a with
        | true =>
          simp only [if_true] at q1 hJ' ⊢
          simp only [mb, List.map_cons, List.filter_cons] at q1 ⊢
          by_cases e : r.getD j 46 = 46
          · rw [hJ' e, e]
            simpa using q1
          · by_cases e2 : r.getD (j + 1) 46 = 46
            · rw [e2]
              simp only [bne_self_eq_false, Bool.false_eq_true, if_false]
              rw [if_pos (by simpa using e)]
              simp only [List.length_cons]
              omega
            · rw [if_pos (by simpa using e2), if_pos (by simpa using e)]
              simp only [List.length_cons]
              omega
        | false =>
          simp only [Bool.false_eq_true, if_false] at q1 hJ' ⊢
          simp only [mb, List.map_cons, List.filter_cons] at q1 ⊢
          by_cases e : r.getD (j + 1) 46 = 46
          · rw [hJ' e, e]
            simpa using q1
          · by_cases e2 : r.getD j 46 = 46
            · rw [e2]
              simp only [bne_self_eq_false, Bool.false_eq_true, if_false]
              rw [if_pos (by simpa using e)]
              simp only [List.length_cons]
              omega
            · rw [if_pos (by simpa using e2), if_pos (by simpa using e)]
              simp only [List.length_cons]
              omega
    exact key y fun r hr => ⟨hy.2 r hr, hju r hr⟩
  have at_ : ∀ j, j < m → ((LT o (tr m y)).map fun r => r.getD i 46).getD j 46 = (sl o (y.map fun r => r.getD j 46)).getD i 46 := fun j hj => by
    rw [List.getD_eq_getElem?_getD, List.getElem?_map, LT, List.getElem?_map, tr_get hj]
    rfl
  intro j hj
  have hjm : j + 1 < m := by
    have : ((LT o (tr m y)).map fun r => r.getD i 46).length = m := by simp [LT, (tr_rect hy).1]
    omega
  rw [at_ j (by omega), at_ (j + 1) hjm]
  have s1 := sl_at o (y.map fun r => r.getD j 46) i (by simp [hy.1]; exact hi')
  have s2 := sl_at o (y.map fun r => r.getD (j + 1) 46) i (by simp [hy.1]; exact hi')
  have c := cnt j hjm
  have l1 : (y.map fun r => r.getD j 46).length = n := by simp [hy.1]
  have l2 : (y.map fun r => r.getD (j + 1) 46).length = n := by simp [hy.1]
  rw [l1] at s1
  rw [l2] at s2
  cases a <;> cases o <;> simp only [if_true, Bool.false_eq_true, if_false] at c s1 s2 ⊢ <;> rw [s1, s2] <;> omega
theorem ulu {a o : Bool} {n m : Nat} {g : Grid} (h : Rect n m g) : UT a n m (LT o (UT a n m g)) = LT o (UT a n m g) := by
  have z := lul (a := a) (o := o) (tr_rect h)
  have e1 : LT o (UT a n m g) = tr n (UT o m n (LT a (tr m g))) := by
    unfold UT
    rw [tr_tr (lt_rect (tr_rect (lt_rect (tr_rect h))))]
  have hr : Rect m n (UT o m n (LT a (tr m g))) := ut_rect (lt_rect (tr_rect h))
  rw [e1]
  show tr n (LT a (tr m (tr n (UT o m n (LT a (tr m g)))))) = _
  rw [tr_tr hr, z]
/-- a tilt -/
def tilt (n m : Nat) (g : Grid) (c : Nat) : Grid := if isH c then LT (c == 108) g else UT (c == 117) n m g
theorem tilt_rect {n m c : Nat} {g : Grid} (h : Rect n m g) : Rect n m (tilt n m g c) := by
  unfold tilt
  split
  · exact lt_rect h
  · exact ut_rect h
def tilts (n m : Nat) (t : List Nat) (g : Grid) : Grid := t.foldl (tilt n m) g
theorem tilts_rect {n m : Nat} : ∀ (t : List Nat) {g : Grid}, Rect n m g → Rect n m (tilts n m t g)
  | [], _, h => h
  | c :: t, g, h => tilts_rect t (tilt_rect (c := c) h)
theorem tilts_snoc {n m c : Nat} (t : List Nat) (g : Grid) : tilts n m (t ++ [c]) g = tilt n m (tilts n m t g) c := by simp [tilts]
end TM
end
section
set_option Elab.async false
set_option maxRecDepth 100000
set_option linter.all false
namespace TK
open PySem L2
def top (i : Nat) : Stmt := PySem.Challenge.pw_tiltheap_k15_whole_circles_and_exchanges.main.body.getD i (.Pass ⟨0, 0, 0, 0⟩)
abbrev sUnknownMarbleInit : Stmt := inClass (top 6) 0
abbrev sIsNumber : Stmt := top 10
abbrev sIsPlace : Stmt := top 11
abbrev sCheckNumber : Stmt := top 12
abbrev sCheckMarble : Stmt := top 13
abbrev sCheckPlace : Stmt := top 14
abbrev sIsTilt : Stmt := top 20
abbrev sWordInit : Stmt := inClass (top 21) 1
abbrev sWordText : Stmt := inClass (top 21) 2
abbrev sFirstWrongIndex : Stmt := top 22
abbrev sTrayInit : Stmt := inClass (top 27) 0
abbrev sTrayOfText : Stmt := inClass (top 27) 1
abbrev sTrayMarbles : Stmt := inClass (top 27) 3
abbrev sTrayHeight : Stmt := inClass (top 27) 4
abbrev sTrayWidth : Stmt := inClass (top 27) 5
abbrev sTrayAt : Stmt := inClass (top 27) 6
abbrev sTrayCall : Stmt := inClass (top 27) 7
abbrev sTrayContains : Stmt := inClass (top 27) 8
abbrev sTrayRshift : Stmt := inClass (top 27) 9
abbrev sTrayEq : Stmt := inClass (top 27) 10
abbrev sFirstWrongCell : Stmt := top 28
abbrev sIsRow : Stmt := top 29
abbrev sTilted : Stmt := top 30
abbrev sSlid : Stmt := top 31
abbrev sAfterRounds : Stmt := top 34
abbrev sMarbleAfter : Stmt := top 35
abbrev sExchange : Stmt := top 36
abbrev sCircles : Stmt := top 37
abbrev sBackAfter : Stmt := top 38
abbrev sIsBack : Stmt := top 39
abbrev sCircleFrom : Stmt := top 40
abbrev sLawTaken : Stmt := top 42
abbrev sLawGreat : Stmt := top 43
abbrev sLawRows : Stmt := top 44
abbrev sLawText : Stmt := top 45
abbrev sLawTray : Stmt := top 46
abbrev sLawMoved : Stmt := top 47
abbrev sLawAreCircles : Stmt := top 48
abbrev sLaw : Stmt := top 49
/-- a text by its signs; one sign -/
abbrev S (t : List Nat) : Str := ⟨t.toArray⟩
abbrev sg (c : Nat) : V := .str ⟨#[c]⟩
theorem S_len (t : List Nat) : (S t).length = t.length := SX.S_len t
theorem S_size (t : List Nat) : (S t).cps.size = t.length := by simp [S]
theorem S_at (t : List Nat) (i : Nat) : (S t).cps[i]? = t[i]? := by simp [S]
theorem S_list (t : List Nat) : (S t).cps.toList = t := by simp [S]
theorem S_of (z : Str) : z = S z.cps.toList := (SX.S_tl z).symm
theorem S_inj {a b : List Nat} (h : S a = S b) : a = b := SX.S_inj h
theorem join_S (a : List Nat) (ys : List (List Nat)) : Txt.join (S a) (ys.map S) = S (TL.joinL a ys) := SX.join_S a ys
theorem joinL_nil : ∀ l : List (List Nat), TL.joinL [] l = l.flatten
  | [] => rfl
  | [p] => by simp [TL.joinL]
  | p :: q :: r => by
    have := joinL_nil (q :: r)
    simp only [TL.joinL, List.nil_append, this, List.flatten_cons]
theorem flat_ones : ∀ l : List Nat, (l.map fun c => [c]).flatten = l
  | [] => rfl
  | c :: r => by simp [flat_ones r]
theorem join_signs (l : List Nat) : Txt.join (Str.ofString "") (l.map fun c => S [c]) = S l := by
  have e := join_S [] (l.map fun c => [c])
  rw [List.map_map, joinL_nil, flat_ones] at e
  exact e
theorem sum_ones (l : List Nat) : ((l.map fun c => S [c]).map (·.length)).sum = l.length := by
  induction l with
  | nil => rfl
  | cons c r ih =>
    rw [List.map_cons, List.map_cons, List.sum_cons, ih]
    show 1 + r.length = r.length + 1
    omega
theorem same_new {H : Hp} {l : Addr} {o : HO} (h : H l = none) : Same H (upd H l o) := fun b o' e => by
  rw [upd_ne (ne_of_none e h)]
  exact e
theorem _root_.L2.Same.tup {K : PySem.W.Frag} {H H' : Hp} {a : Addr} {xs : List V} (e : Same H H') (h : SqT K H a xs) : SqT K H' a xs := by
  rcases h with (h | ⟨o, h⟩) | h
  · exact .inl (.inl (e _ _ h))
  · exact .inl (.inr ⟨o, e _ _ h⟩)
  · exact .inr h
/-- a store at an address that was new -/
theorem same_put {H H1 : Hp} {l : Addr} {o : HO} (s : Same H H1) (h : H l = none) : Same H (upd H1 l o) := fun b o' e => by
  rw [upd_ne (ne_of_none e h)]
  exact s b o' e
end TK
end
section
set_option Elab.async false
set_option maxRecDepth 100000
set_option linter.all false
namespace TK
open PySem L2 TM
/-- what is written about words -/
structure TxtW (K : PySem.W.Frag) (mg : Str → Option Value) : Prop where
  len : mg "len" = none
  isi : mg "isinstance" = none
  str : mg "str" = none
  enum : mg "enumerate" = none
  AR : ∃ u, mg "ALONG_ROWS" = some u ∧ RelV (.str (S [108, 114])) u
  AC : ∃ u, mg "ALONG_COLUMNS" = some u ∧ RelV (.str (S [117, 100])) u
section
variable {P : Program} {w : World} {K : PySem.W.Frag} {mg : Str → Option Value} {base : Heap}
theorem dAR (c : Nat) : decide (c ∈ (S [108, 114]).cps.toList) = isH c := by
  rw [S_list]
  by_cases h : isH c = true
  · rw [h, decide_eq_true]
    simpa [isH] using h
  · rw [Bool.not_eq_true] at h
    rw [h, decide_eq_false]
    simpa [isH] using h
end
end TK
end
section
set_option Elab.async false
set_option maxRecDepth 100000
set_option linter.all false
namespace TK
open PySem L2 TM
/-- is it a tilt's letter -/
def isT (c : Nat) : Bool := decide (c ∈ [108, 114, 117, 100])
/-- a word's text: tilts, so many at most -/
def Good (t : List Nat) : Prop := t.length ≤ 60 ∧ ∀ c ∈ t, isT c = true
def WordAt (C : Addr) (H : Hp) (a : Addr) (t : List Nat) : Prop := ∃ dx, H a = some (.ins C dx [("_text", .str (S t))])
theorem WordAt.same {C a : Addr} {H H' : Hp} {t : List Nat} (h : WordAt C H a t) (s : Same H H') : WordAt C H' a t := by
  obtain ⟨dx, h⟩ := h
  exact ⟨dx, s _ _ h⟩
/-- the class Word as the top has made it -/
structure ClsW (K : PySem.W.Frag) (mg : Str → Option Value) (C : Addr) : Prop where
  cl : Cls K C
  nT : NoAttr K C "_text"
  mgC : mg "Word" = some (.ref C)
  mx : ∃ mc u, ClX.CRead K C mc ∧ ClX.CVal K C mc "MAX_TILTS" (.int 60) u
section
variable {P : Program} {w : World} {K : PySem.W.Frag} {mg : Str → Option Value} {base : Heap} {C fT : Addr} {fdT : FuncData}
theorem scIt : FnScope ["value"] ["value"] (defScope sIsTilt) := ⟨rfl, rfl, rfl, by decide +kernel, rfl, by decide +kernel, by decide +kernel⟩
def spIt : Sp := fun vs H Q _ => ∃ c : Nat, vs = [sg c] ∧ Q (.bl (isT c)) H
theorem ok_it {f : Addr} {fd : FuncData} (F : Fun K "is_tilt" "is_tilt" sIsTilt f fd) (T : TxtW K mg) : FnOk P w K mg base CX0 1 f fd ["value"] spIt := by
  refine F.ok scIt (fun vs H Q E h => ?_) (fun cdv A outer s H vs Q E hr h => ?_)
  · obtain ⟨t, rfl, _⟩ := h
    rfl
  · obtain ⟨c, rfl, k⟩ := h
    refine ⟨_, pss_one (ps_ret (pe_and (pe_callB call_isi (by rfl) T.isi (by decide +kernel) (pa_cons (pv 0) (pa_cons (pe_bltn (v := .ty "str") (by rfl) T.str (by decide +kernel) rfl) pa_nil)))
      (pe_and (pe_cmpR op_eq (pe_callB call_len_str (by rfl) T.len PySem.boot_len (pa_cons (pv 0) pa_nil)) pe_int (nomark _))
        (pe_one (pe_cmpR op_in_sign (pv 0) (pe_op op_add_str (C8.pe_gc rfl T.AR) (C8.pe_gc rfl T.AC)) (by rfl)))))), ?_⟩
    refine ⟨_, rfl, _, _, _, _, true, rfl, .ty _, .base (.str _), kit_ty (by decide +kernel), true, rfl, iteT ?_⟩
    refine ⟨_, rfl, _, rfl, by show 1 ≤ sizeLine; decide, rfl, true, rfl, iteT ?_⟩
    refine ⟨_, rfl, _, _, rfl, rfl, by show 4 ≤ sizeLine; decide, c, _, rfl, rfl, ?_⟩
    exact k
theorem scFwi : FnScope ["text", "index", "letter"] ["text"] (defScope sFirstWrongIndex) := ⟨rfl, rfl, rfl, by decide +kernel, rfl, by decide +kernel, by decide +kernel⟩
def spFwi : Sp := fun vs H Q _ => ∃ t : List Nat, vs = [.str (S t)] ∧ Good t ∧ ∀ H', Same H H' → Q .non H'
theorem ok_fwi {f : Addr} {fd : FuncData} (F : Fun K "_first_wrong_index" "_first_wrong_index" sFirstWrongIndex f fd) (T : TxtW K mg) (CW : ClsW K mg C) (FT : Fun K "is_tilt" "is_tilt" sIsTilt fT fdT) (bT : Binds K fdT ["value"] []) (mT : mg "is_tilt" = some (.ref fT)) :
    FnOk P w K mg base CX0 2 f fd ["text"] spFwi := by
  have GT : FnOk P w K mg base CX0 1 fT fdT ["value"] spIt := ok_it FT T
  refine F.ok scFwi (fun vs H Q E h => ?_) (fun cdv A outer s H vs Q E hr h => ?_)
  · obtain ⟨t, rfl, _⟩ := h
    rfl
  · obtain ⟨t, rfl, ⟨hl, hg⟩, k⟩ := h
    refine ⟨_, pss_cons (ps_if (pt_not (pt_val (pe_callB call_isi (by rfl) T.isi (by decide +kernel) (pa_cons (pv 0) (pa_cons (pe_bltn (v := .ty "str") (by rfl) T.str (by decide +kernel) rfl) pa_nil))))) pss_never pss_nil)
      (pss_cons (ps_for PassesOwn.never rfl (TH.pi_enumS (by rfl) T.enum (pa_cons (pv 0) pa_nil)) (pg_tup rfl (pgs_cons (pg_name (i := 1) scFwi.nd rfl (.inl rfl)) (pgs_cons (pg_name (i := 2) scFwi.nd rfl (.inl rfl)) pgs_nil)))
        (pss_one (ps_if (PW.pt (pw_or (pt_cmpR op_ge (pv 1) (ClX.pe_cval (pe_glob (v := .ref C) rfl CW.mgC rfl)) (nomark _)) (pw_or1 (pt_not (pt_val (pe_call GT hr rfl mT FT.kp bT .nil pass0 (pa_cons (pv 2) pa_nil))))))) pss_never pss_nil)))
      (pss_one (ps_ret pe_non))), ?_⟩
    refine ⟨_, rfl, _, _, _, _, true, rfl, .ty _, .base (.str _), kit_ty (by decide +kernel), true, rfl, iteF ?_⟩
    refine ⟨_, rfl, _, rfl, for_it TH.walk_enumS (fun i σ H1 => ∃ v1 v2, σ = [some (.str (S t)), v1, v2] ∧ Same H H1) ⟨none, none, rfl, Same.refl H⟩ (fun _ _ _ _ _ => True.intro) ?_ ?_⟩
    · rintro i x σ H1 H2 hi ⟨v1, v2, rfl, sm⟩ ⟨p, c, rfl, hn, rfl, hc⟩
      rw [S_at] at hc
      have hit : i < t.length := (List.getElem?_eq_some_iff.mp hc).1
      have hcm : isT c = true := hg c (List.mem_of_getElem? hc)
      refine ⟨p, _, rfl, SqT.of upd_same, rfl, ?_⟩
      obtain ⟨mc, u, cr, cv⟩ := CW.mx
      refine ⟨_, _, rfl, _, _, rfl, rfl, _, rfl, C, mc, _, u, rfl, cr, cv, _, _, rfl, rfl, _, rfl, ?_⟩
      have e1 : decide ((i : Int) ≥ (60 : Int)) = false := decide_eq_false (by omega)
      rw [e1]
      refine iteF ⟨_, rfl, c, rfl, true, by rw [hcm], iteF ⟨_, _, rfl, sm.trans (same_new hn)⟩⟩
    · rintro σ H1 ⟨v1, v2, rfl, sm⟩
      exact k _ sm
theorem scWi : FnScope ["self", "text", "wrong"] ["self", "text"] (defScope sWordInit) := ⟨rfl, rfl, rfl, by decide +kernel, rfl, by decide +kernel, by decide +kernel⟩
def spWi (C : Addr) : Sp := fun vs H Q _ => ∃ (p dx : Addr) (t : List Nat), vs = [.ref p, .str (S t)] ∧ H p = some (.ins C dx []) ∧ Good t ∧ ∀ H', WordAt C H' p t → (∀ b o, H b = some o → b ≠ p → H' b = some o) → Q .non H'
theorem ok_wi {f fW : Addr} {fd fdW : FuncData} (F : Fun K "__init__" "Word.__init__" sWordInit f fd) (CW : ClsW K mg C) (GW : FnOk P w K mg base CX0 2 fW fdW ["text"] spFwi) (kW : PySem.W.keepIn K (.ref fW) = true) (bW : Binds K fdW ["text"] []) (mW : mg "_first_wrong_index" = some (.ref fW)) :
    FnOk P w K mg base CX0 3 f fd ["self", "text"] (spWi C) := by
  refine F.ok scWi (fun vs H Q E h => ?_) (fun cdv A outer s H vs Q E hr h => ?_)
  · obtain ⟨p, dx, t, rfl, _⟩ := h
    rfl
  · obtain ⟨p, dx, t, rfl, hp, hg, k⟩ := h
    refine ⟨_, pss_cons (ps_set (i := 2) scWi.nd rfl (.inl rfl) (pe_call GW hr rfl mW kW bW .nil pass0 (pa_cons (pv 1) pa_nil)))
      (pss_cons (ps_if (pt_cmpR op_notN (pv 2) pe_non (nomark _)) pss_never pss_nil)
      (pss_one (ps_fld (pv 0) (pv 1) rfl))), ?_⟩
    refine ⟨_, rfl, t, rfl, hg, fun H1 sm => ?_⟩
    refine ⟨_, rfl, rfl, _, rfl, iteF ?_⟩
    refine ⟨_, rfl, _, rfl, p, C, dx, [], rfl, sm _ _ hp, CW.cl, CW.nT, (by show 0 < 1000; decide), ?_⟩
    exact k _ ⟨dx, upd_same⟩ fun b o e hb => by rw [upd_ne hb]; exact sm _ _ e
end
end TK
end
section
set_option Elab.async false
set_option maxRecDepth 100000
set_option linter.all false
namespace TK
open PySem L2 TM
def letters : List Nat := [97, 98, 99, 100, 101, 102, 103, 104, 105, 106, 107, 108, 109, 110, 111, 112, 113, 114, 115, 116, 117, 118, 119, 120, 121, 122]
/-- a cell's sign: empty or a marble -/
def Cell (c : Nat) : Prop := c = 46 ∨ (97 ≤ c ∧ c ≤ 122)
theorem cell_in {c : Nat} (h : Cell c) : c ∈ [46] ++ letters := by
  unfold Cell at h
  simp only [letters, List.mem_append, List.mem_cons, List.not_mem_nil, or_false]
  omega
/-- rows that make a tray -/
structure VG (n m : Nat) (g : Grid) : Prop where
  rc : Rect n m g
  n1 : 1 ≤ n
  n8 : n ≤ 8
  m1 : 1 ≤ m
  m8 : m ≤ 8
  ok : ∀ r ∈ g, ∀ c ∈ r, Cell c
  nd : (mb g.flatten).Nodup
abbrev rowV (g : Grid) : List V := g.map fun r => V.str (S r)
theorem fresh {a b : List Nat} {c : Nat} (h : (mb (a ++ c :: b)).Nodup) : c ∉ mb a := fun hc => by
  have h46 : (c != 46) = true := (List.mem_filter.mp hc).2
  have e : mb (c :: b) = c :: mb b := by
    unfold mb
    rw [List.filter_cons, if_pos h46]
  rw [mb_app, e] at h
  exact (List.nodup_append.mp h).2.2 c hc c List.mem_cons_self rfl
/-- what comes ahead of the cell in column j of row i -/
def ahead (g : Grid) (r : List Nat) (i j : Nat) : List Nat := (g.take i).flatten ++ r.take j
theorem ahead_step {g : Grid} {r : List Nat} {i j c : Nat} (hc : r[j]? = some c) : ahead g r i (j + 1) = ahead g r i j ++ [c] := by
  unfold ahead
  rw [List.take_add_one, hc, List.append_assoc]
  rfl
theorem ahead_row {g : Grid} {r : List Nat} {i : Nat} (hr : g[i]? = some r) : (g.take (i + 1)).flatten = ahead g r i r.length := by
  unfold ahead
  rw [List.take_add_one, hr, List.take_length]
  simp
theorem ahead_all {g : Grid} {r : List Nat} {i j c : Nat} (hr : g[i]? = some r) (hc : r[j]? = some c) : ∃ b, g.flatten = ahead g r i j ++ c :: b := by
  have hi := (List.getElem?_eq_some_iff.mp hr).1
  have hj := (List.getElem?_eq_some_iff.mp hc).1
  have e1 : g = g.take i ++ r :: g.drop (i + 1) := by
    have := (List.getElem?_eq_some_iff.mp hr).2
    rw [← this]
    simp
  have e2 : r = r.take j ++ c :: r.drop (j + 1) := by
    have := (List.getElem?_eq_some_iff.mp hc).2
    rw [← this]
    simp
  refine ⟨r.drop (j + 1) ++ (g.drop (i + 1)).flatten, ?_⟩
  unfold ahead
  conv => lhs; rw [e1, List.flatten_append, List.flatten_cons, e2]
  simp
theorem mb_step {a : List Nat} {c : Nat} (h : c ≠ 46) : mb (a ++ [c]) = mb a ++ [c] := by
  rw [mb_app]
  simp [mb, h]
theorem mb_dot {a : List Nat} : mb (a ++ [46]) = mb a := by
  rw [mb_app]
  simp [mb]
/-- what is written about trays; t0: the text EMPTY's own token -/
structure TxtT (K : PySem.W.Frag) (mg : Str → Option Value) (t0 : Tok) : Prop where
  EM : mg "EMPTY" = some (.str (S [46]) t0)
  LE : ∃ u, mg "LETTERS" = some u ∧ RelV (.str (S letters)) u
  MS : ∃ u, mg "MAX_SIDE" = some u ∧ RelV (.int 8) u
  set : mg "set" = none
  zip : mg "zip" = none
  tup : mg "tuple" = none
theorem TxtT.em {K : PySem.W.Frag} {mg : Str → Option Value} {t0 : Tok} (T : TxtT K mg t0) : ∃ u, mg "EMPTY" = some u ∧ RelV (.str (S [46])) u := ⟨_, T.EM, ⟨_, rfl⟩⟩
section
variable {P : Program} {w : World} {K : PySem.W.Frag} {mg : Str → Option Value} {base : Heap} {t0 : Tok} {fR : Addr} {fdR : FuncData}
theorem scIr : FnScope ["row"] ["row"] (defScope sIsRow) := ⟨rfl, rfl, rfl, by decide +kernel, rfl, by decide +kernel, by decide +kernel⟩
def spIr : Sp := fun vs H Q _ => ∃ r : List Nat, vs = [.str (S r)] ∧ 1 ≤ r.length ∧ r.length ≤ 8 ∧ Q (.bl true) H
theorem ok_ir {f : Addr} {fd : FuncData} (F : Fun K "_is_row" "_is_row" sIsRow f fd) (T : TxtW K mg) (U : TxtT K mg t0) : FnOk P w K mg base CX0 1 f fd ["row"] spIr := by
  refine F.ok scIr (fun vs H Q E h => ?_) (fun cdv A outer s H vs Q E hr h => ?_)
  · obtain ⟨t, rfl, _⟩ := h
    rfl
  · obtain ⟨r, rfl, h1, h8, k⟩ := h
    refine ⟨_, pss_one (ps_ret (pe_and (pe_callB call_isi (by rfl) T.isi (by decide +kernel) (pa_cons (pv 0) (pa_cons (pe_bltn (v := .ty "str") (by rfl) T.str (by decide +kernel) rfl) pa_nil)))
      (pe_one (pe_chain op_le op_le pe_int (pe_callB call_len_str (by rfl) T.len PySem.boot_len (pa_cons (pv 0) pa_nil)) (C8.pe_gc rfl U.MS))))), ?_⟩
    refine ⟨_, rfl, _, _, _, _, true, rfl, .ty _, .base (.str _), kit_ty (by decide +kernel), true, rfl, iteT ?_⟩
    have hs : (S r).length ≤ sizeLine := by
      rw [S_len]
      show _ ≤ 16777216
      omega
    refine ⟨_, rfl, _, rfl, hs, _, _, rfl, rfl, _, rfl, ?_⟩
    have e1 : decide ((1 : Int) ≤ ((S r).length : Int)) = true := decide_eq_true (by rw [S_len]; omega)
    have e2 : decide (((S r).length : Int) ≤ (8 : Int)) = true := decide_eq_true (by rw [S_len]; omega)
    rw [e1]
    refine iteT ⟨_, _, rfl, rfl, ?_⟩
    show Q (V.bl (decide (((S r).length : Int) ≤ (8 : Int)))) H
    rw [e2]
    exact k
/-- the marbles of l are in the set at p -/
def Seen (P : Program) (w : World) (H : Hp) (p : Addr) (l : List Nat) (k : Nat) : Prop := ∃ (Z : Key → Bool) (n : Nat), H p = some (SetK P w p Z n) ∧ n ≤ k ∧ ∀ c : Nat, Z (.inr (S [c])) = decide (c ∈ mb l)
theorem one_inj {c d : Nat} : (Sum.inr (S [c]) : Key) = .inr (S [d]) ↔ c = d := ⟨fun h => by
  have := S_inj (Sum.inr.inj h)
  simpa using this, fun h => by rw [h]⟩
theorem scFc : FnScope ["rows", "seen", "number", "row", "column", "cell"] ["rows"] (defScope sFirstWrongCell) := ⟨rfl, rfl, rfl, by decide +kernel, rfl, by decide +kernel, by decide +kernel⟩
def spFc (K : PySem.W.Frag) : Sp := fun vs H Q _ => ∃ (a : Addr) (n m : Nat) (g : Grid), vs = [.ref a] ∧ SqT K H a (rowV g) ∧ VG n m g ∧ ∀ H', Same H H' → Q .non H'
theorem ok_fc {f : Addr} {fd : FuncData} (F : Fun K "_first_wrong_cell" "_first_wrong_cell" sFirstWrongCell f fd) (T : TxtW K mg) (U : TxtT K mg t0) (FR : Fun K "_is_row" "_is_row" sIsRow fR fdR) (bR : Binds K fdR ["row"] []) (mR : mg "_is_row" = some (.ref fR)) :
    FnOk P w K mg base CX0 2 f fd ["rows"] (spFc K) := by
  have GR : FnOk P w K mg base CX0 1 fR fdR ["row"] spIr := ok_ir FR T U
  refine F.ok scFc (fun vs H Q E h => ?_) (fun cdv A outer s H vs Q E hr h => ?_)
  · obtain ⟨a, n, m, g, rfl, _⟩ := h
    rfl
  · obtain ⟨a, n, m, g, rfl, hS, G, k⟩ := h
    refine ⟨_, pss_cons (ps_if (pt_not (pt_truth (pv 0) (by intro _; rfl))) pss_never pss_nil)
      (pss_cons (ps_set (i := 1) scFc.nd rfl (.inl rfl) (pe_callTy0 cr_set0K (by rfl) U.set (by decide +kernel)))
      (pss_cons (ps_for PassesOwn.never rfl (TH.pi_enumT (by rfl) T.enum (pa_cons (pv 0) pa_nil)) (pg_tup rfl (pgs_cons (pg_name (i := 2) scFc.nd rfl (.inl rfl)) (pgs_cons (pg_name (i := 3) scFc.nd rfl (.inl rfl)) pgs_nil)))
        (pss_cons (ps_if (PW.pt (pw_or (pt_cmpR op_ge (pv 2) (C8.pe_gc rfl U.MS) (nomark _)) (pw_or (pt_not (pt_val (pe_call GR hr rfl mR FR.kp bR .nil pass0 (pa_cons (pv 3) pa_nil))))
            (pw_or1 (pt_cmpR op_ne (pe_callB call_len_str (by rfl) T.len PySem.boot_len (pa_cons (pv 3) pa_nil)) (pe_callB call_len_str (by rfl) T.len PySem.boot_len (pa_cons (pe_ix ix_tup (pv 0) pe_int (fun _ _ => rfl)) pa_nil)) (nomark _)))))) pss_never pss_nil)
        (pss_one (ps_for PassesOwn.never rfl (TH.pi_enumS (by rfl) T.enum (pa_cons (pv 3) pa_nil)) (pg_tup rfl (pgs_cons (pg_name (i := 4) scFc.nd rfl (.inl rfl)) (pgs_cons (pg_name (i := 5) scFc.nd rfl (.inl rfl)) pgs_nil)))
          (pss_cons (ps_if (PW.pt (pw_or (pt_cmpR or_sinK (pv 5) (pv 1) (by rfl)) (pw_or1 (pt_cmpR op_notIn_sign (pv 5) (pe_op op_add_str (C8.pe_gc rfl U.em) (C8.pe_gc rfl U.LE)) (by rfl))))) pss_never pss_nil)
          (pss_one (ps_if (pt_cmpR op_ne (pv 5) (C8.pe_gc rfl U.em) (nomark _)) (pss_one (ps_expr (pe_saddK (pv 1) (pa_cons (pv 5) pa_nil)))) pss_nil)))))))
      (pss_one (ps_ret pe_non)))), ?_⟩
    have hg0 : (rowV g).isEmpty = false := by
      have := G.rc.1
      have := G.n1
      cases g with
      | nil => simp at *; omega
      | cons _ _ => rfl
    refine ⟨_, rfl, true, .inr (.inl ⟨_, hS, by rw [hg0]; rfl⟩), iteF ?_⟩
    refine ⟨rfl, fun p hp => ?_⟩
    refine ⟨_, rfl, a, rowV g, rfl, (same_new hp).tup hS, for_it TH.walk_enumT (fun i σ H1 => ∃ v2 v3 v4 v5, σ = [some (.ref a), some (.ref p), v2, v3, v4, v5] ∧ Same H H1 ∧ Seen P w H1 p (g.take i).flatten (i * 8))
      ⟨none, none, none, none, rfl, same_new hp, _, 0, upd_same, Nat.zero_le _, fun c => by simp [mb]⟩ (fun i σ H1 _ ⟨_, _, _, _, _, sm, _⟩ => sm.tup hS) ?_ ?_⟩
    · rintro i x σ H1 H2 hi ⟨v2, v3, v4, v5, rfl, sm, se⟩ ⟨q, y, rfl, hq, rfl, hy⟩
      obtain ⟨r, hr', rfl⟩ : ∃ r, g[i]? = some r ∧ y = V.str (S r) := by
        rw [List.getElem?_map] at hy
        cases e : g[i]? with
        | none => rw [e] at hy; cases hy
        | some r => rw [e] at hy; exact ⟨r, rfl, (Option.some.inj hy).symm⟩
      have hin : i < n := by
        have := (List.getElem?_eq_some_iff.mp hr').1
        rw [G.rc.1] at this
        exact this
      have hrm : r ∈ g := List.mem_of_getElem? hr'
      have hrl : r.length = m := G.rc.2 r hrm
      have n8 := G.n8
      have m1 := G.m1
      have m8 := G.m8
      refine ⟨_, _, rfl, SqT.of upd_same, rfl, _, _, rfl, _, _, rfl, rfl, ?_⟩
      have e1 : decide ((i : Int) ≥ (8 : Int)) = false := decide_eq_false (by omega)
      refine ⟨_, rfl, _, _, rfl, rfl, _, rfl, ?_⟩
      rw [e1]
      refine iteF ⟨_, rfl, r, rfl, by omega, by omega, true, rfl, iteF ?_⟩
      have sm2 : Same H (upd H1 q (.tup [.int (i : Nat), .str (S r)])) := sm.trans (same_new hq)
      have hs : (S r).length ≤ sizeLine := by
        rw [S_len]
        show _ ≤ 16777216
        omega
      obtain ⟨r0, hr0, hr0l⟩ : ∃ r0, g[0]? = some r0 ∧ r0.length = m := by
        have h0 : 0 < g.length := by rw [G.rc.1]; exact G.n1
        exact ⟨g[0], List.getElem?_eq_getElem h0, G.rc.2 _ (List.getElem_mem h0)⟩
      have hs0 : (S r0).length ≤ sizeLine := by
        rw [S_len]
        show _ ≤ 16777216
        omega
      refine ⟨_, rfl, _, rfl, hs, _, rfl, a, _, _, _, rfl, rfl, sm2.tup hS, atI_nat (j := 0) (v := V.str (S r0)) (by rw [List.getElem?_map, hr0]; all_goals rfl), _, rfl, hs0, rfl, _, rfl, ?_⟩
      have e2 : (!decide (V.int ((S r).length : Int) = V.int ((S r0).length : Int))) = false := by
        rw [S_len, S_len, hrl, hr0l]
        simp
      rw [e2]
      refine iteF ?_
      have se2 : Seen P w (upd H1 q (.tup [.int (i : Nat), .str (S r)])) p (g.take i).flatten (i * 8) := by
        obtain ⟨Z, n', h1, h2, h3⟩ := se
        exact ⟨Z, n', by rw [upd_ne (ne_of_none h1 hq)]; exact h1, h2, h3⟩
      refine ⟨_, rfl, S r, rfl, for_it TH.walk_enumS (fun j σ H2 => ∃ v4 v5, σ = [some (.ref a), some (.ref p), some (.int (i : Nat)), some (.str (S r)), v4, v5] ∧ Same H H2 ∧ Seen P w H2 p (ahead g r i j) (i * 8 + j))
        ⟨v4, v5, rfl, sm2, by unfold ahead; rw [List.take_zero, List.append_nil]; exact se2⟩ (fun _ _ _ _ _ => True.intro) ?_ ?_⟩
      · rintro j x σ H2 H3 hj ⟨v4, v5, rfl, sm, Z, k', hZ, hk', hz⟩ ⟨q', c, rfl, hq', rfl, hc⟩
        rw [S_at] at hc
        have hjm : j < m := by
          have := (List.getElem?_eq_some_iff.mp hc).1
          omega
        have hcell : Cell c := G.ok r hrm c (List.mem_of_getElem? hc)
        obtain ⟨b, hb⟩ := ahead_all hr' hc
        have hnew : c ∉ mb (ahead g r i j) := fresh (by rw [← hb]; exact G.nd)
        have hZ2 : upd H2 q' (.tup [.int (j : Nat), .str ⟨#[c]⟩]) p = some (SetK P w p Z k') := by rw [upd_ne (ne_of_none hZ hq')]; exact hZ
        refine ⟨_, _, rfl, SqT.of upd_same, rfl, _, _, rfl, _, _, rfl, rfl, ?_⟩
        have e3 : Z (.inr (S [c])) = false := by rw [hz c]; exact decide_eq_false hnew
        refine ⟨_, rfl, _, rfl, .inr (S [c]), p, Z, k', rfl, rfl, hZ2, _, rfl, ?_⟩
        rw [show (if false = true then !Z (.inr (S [c])) else Z (.inr (S [c]))) = false from e3]
        refine iteF ⟨_, rfl, _, _, rfl, rfl, by show 27 ≤ sizeLine; decide, c, _, rfl, rfl, _, rfl, ?_⟩
        have e4 : decide (c ∈ ((S [46] ++ S letters) : Str).cps.toList) = true := by
          rw [SX.S_cat]
          exact decide_eq_true (by rw [S_list]; exact cell_in hcell)
        rw [e4]
        refine iteF ⟨_, rfl, rfl, _, rfl, ?_⟩
        by_cases h46 : c = 46
        · subst h46
          refine iteF ⟨_, _, rfl, sm.trans (same_new hq'), Z, k', hZ2, by omega, fun d => ?_⟩
          rw [ahead_step hc, mb_dot]
          exact hz d
        · rw [show (!decide (sg c = V.str (S [46]))) = true by simp [h46]]
          refine iteT ⟨_, rfl, ⟨p, Z, k', rfl, hZ2⟩, _, rfl, p, .inr (S [c]), Z, k', rfl, rfl, hZ2, ?_, ?_⟩
          · show _ < 4096
            omega
          · refine ⟨_, _, rfl, same_put (sm.trans (same_new hq')) hp, _, _, upd_same, ?_, fun d => ?_⟩
            · rw [if_neg (by rw [e3]; exact Bool.false_ne_true)]
              omega
            · rw [ahead_step hc, mb_step h46, hz d]
              by_cases hd : d = c
              · subst hd; simp
              · rw [show decide ((Sum.inr (S [d]) : Key) = .inr (S [c])) = false from decide_eq_false fun z => hd (one_inj.mp z), Bool.or_false]
                simp [hd]
      · rintro σ H2 ⟨v4, v5, rfl, sm, se⟩
        refine ⟨_, _, _, _, rfl, sm, ?_⟩
        rw [ahead_row hr']
        rw [S_size] at se
        obtain ⟨Z, k', h1, h2, h3⟩ := se
        exact ⟨Z, k', h1, by omega, h3⟩
    · rintro σ H1 ⟨v2, v3, v4, v5, rfl, sm, se⟩
      exact k _ sm
end
end TK
end
section
set_option Elab.async false
set_option maxRecDepth 100000
set_option linter.all false
namespace TK
open PySem L2 TM
structure ClsT (K : PySem.W.Frag) (mg : Str → Option Value) (D : Addr) : Prop where
  cl : Cls K D
  nR : NoAttr K D "_rows"
  mgC : mg "Tray" = some (.ref D)
def TrayAt (K : PySem.W.Frag) (D : Addr) (H : Hp) (p : Addr) (g : Grid) : Prop := ∃ dx a, H p = some (.ins D dx [("_rows", .ref a)]) ∧ SqT K H a (rowV g)
theorem TrayAt.same {K : PySem.W.Frag} {D p : Addr} {H H' : Hp} {g : Grid} (h : TrayAt K D H p g) (s : Same H H') : TrayAt K D H' p g := by
  obtain ⟨dx, a, h, t⟩ := h
  exact ⟨dx, a, s _ _ h, s.tup t⟩
theorem VG.len {n m : Nat} {g : Grid} (G : VG n m g) : g.length ≤ 8 := by rw [G.rc.1]; exact G.n8
theorem VG.row {n m : Nat} {g : Grid} (G : VG n m g) {r : List Nat} (h : r ∈ g) : r.length ≤ 8 := by rw [G.rc.2 r h]; exact G.m8
theorem VG.ne {n m : Nat} {g : Grid} (G : VG n m g) : g ≠ [] := fun e => by
  have := G.n1
  have := G.rc.1
  subst e
  simp at *
  omega
theorem joinL_len (sep : List Nat) (k : Nat) : ∀ g : Grid, (∀ r ∈ g, r.length ≤ k) → (TL.joinL sep g).length ≤ g.length * (k + sep.length)
  | [], _ => Nat.zero_le _
  | [p], h => by
    have := h p List.mem_cons_self
    show p.length ≤ 1 * _
    omega
  | p :: q :: r, h => by
    have h1 := joinL_len sep k (q :: r) fun z hz => h z (List.mem_cons_of_mem _ hz)
    have h2 := h p List.mem_cons_self
    simp only [TL.joinL, List.length_append, List.length_cons, Nat.add_mul, Nat.mul_add] at *
    omega
theorem lf_not {n m : Nat} {g : Grid} (G : VG n m g) : ∀ r ∈ g, 10 ∉ r := fun r hr h10 => by
  have := G.ok r hr 10 h10
  unfold Cell at this
  omega
theorem split_back {n m : Nat} {g : Grid} (G : VG n m g) : Txt.split (S (TL.joinL [10] g)) (S [10]) = g.map S := by
  rw [SX.split_S (by simp) (by rfl), SX.spl_join G.ne (lf_not G)]
section
variable {P : Program} {w : World} {K : PySem.W.Frag} {mg : Str → Option Value} {base : Heap} {D fF : Addr} {fdF : FuncData}
theorem scTi : FnScope ["self", "rows", "wrong", "row", "column"] ((["self"] : List Str) ++ (["rows"] : List Str)) (defScope sTrayInit) := ⟨rfl, rfl, rfl, by decide +kernel, rfl, by decide +kernel, by decide +kernel⟩
def spTi (K : PySem.W.Frag) (D : Addr) : Sp := fun vs H Q _ => ∃ (p dx a : Addr) (n m : Nat) (g : Grid), vs = [.ref p, .ref a] ∧ H p = some (.ins D dx []) ∧ SqT K H a (rowV g) ∧ VG n m g ∧ ∀ H', TrayAt K D H' p g → (∀ b o, H b = some o → b ≠ p → H' b = some o) → Q .non H'
theorem seq_but {K : PySem.W.Frag} {H H' : Hp} {p a : Addr} {o : HO} {xs : List V} (h : SqT K H a xs) (hp : H p = some o) (ho : ∀ u xs, o ≠ .frz u (.tup xs) ∧ o ≠ .tup xs) (kp : ∀ b o, H b = some o → b ≠ p → H' b = some o) : SqT K H' a xs := by
  rcases h with (h | ⟨u, h⟩) | h
  · exact .inl (.inl (kp _ _ h fun e => by subst e; exact (ho ⟨.none, none, .plain, #[]⟩ xs).2 (Option.some.inj (hp.symm.trans h))))
  · exact .inl (.inr ⟨u, kp _ _ h fun e => by subst e; exact (ho u xs).1 (Option.some.inj (hp.symm.trans h))⟩)
  · exact .inr h
theorem ok_ti {f : Addr} {fd : FuncData} (F : Fun K "__init__" "Tray.__init__" sTrayInit f fd) (CT : ClsT K mg D) (GF : FnOk P w K mg base CX0 2 fF fdF ["rows"] (spFc K)) (kF : PySem.W.keepIn K (.ref fF) = true) (bF : Binds K fdF ["rows"] []) (mF : mg "_first_wrong_cell" = some (.ref fF)) :
    FnR P w K mg base CX0 3 f (fun vs H Q E => ∃ ws rest, vs = ws ++ rest ∧ ws.length = 1 ∧ rest.length ≤ sizeLine ∧ ∀ p, H p = Option.none → spTi K D (ws ++ [V.ref p]) (upd H p (.tup rest)) Q E) := by
  obtain ⟨oc, od, kV, doc, pm, an, cdv, ct, osl, rfl, lk, hcd⟩ := F.ex
  refine StX.fn_star (ps := ["self"]) (pv := "rows") lk hcd scTi StX.cxUp_none (StX.bind_star1 (B := fun us => bindArgs (PySem.W.fnOf "__init__" "Tray.__init__" (defArgs sTrayInit) (defBody sTrayInit) (defScope sTrayInit) .none kV doc pm an cdv ct) ⟨us, []⟩) (p1 := "self") (pv := "rows") (fun _ => rfl) fun _ _ _ => rfl) fun A outer s H vs Q E hr h => ?_
  obtain ⟨p, dx, a, n, m, g, rfl, hp, hS, G, k⟩ := h
  refine ⟨_, pss_cons (ps_set (i := 2) scTi.nd rfl (.inl rfl) (pe_call GF hr rfl mF kF bF .nil pass0 (pa_cons (pv 1) pa_nil)))
    (pss_cons (ps_if (pt_cmpR op_notN (pv 2) pe_non (nomark _)) pss_never pss_nil)
    (pss_one (ps_fld (pv 0) (pv 1) rfl))), ?_⟩
  refine ⟨_, rfl, a, n, m, g, rfl, hS, G, fun H1 sm => ?_⟩
  refine ⟨_, rfl, rfl, _, rfl, iteF ?_⟩
  refine ⟨_, rfl, _, rfl, p, D, dx, [], rfl, sm _ _ hp, CT.cl, CT.nR, (by show 0 < 1000; decide), ?_⟩
  refine k _ ⟨dx, a, upd_same, ?_⟩ fun b o e hb => by rw [upd_ne hb]; exact sm _ _ e
  exact seq_but (sm.tup hS) (sm _ _ hp) (fun _ _ => ⟨by simp, by simp⟩) fun b o e hb => by rw [upd_ne hb]; exact e
theorem scOt : FnScope ["cls", "text", "rows"] ["cls", "text"] (defScope sTrayOfText) := ⟨rfl, rfl, rfl, by decide +kernel, rfl, by decide +kernel, by decide +kernel⟩
def spOt (K : PySem.W.Frag) (D : Addr) : Sp := fun vs H Q _ => ∃ (n m : Nat) (g : Grid), vs = [.ref D, .str (S (TL.joinL [10] g))] ∧ VG n m g ∧ ∀ H' p, Same H H' → TrayAt K D H' p g → Q (.ref p) H'
theorem ok_ot {f fI : Addr} {fd : FuncData} (F : Fun K "of_text" "Tray.of_text" sTrayOfText f fd) (T : TxtW K mg) (M : Mk K D fI)
    (GI : FnR P w K mg base CX0 3 fI (fun vs H Q E => ∃ ws rest, vs = ws ++ rest ∧ ws.length = 1 ∧ rest.length ≤ sizeLine ∧ ∀ p, H p = Option.none → spTi K D (ws ++ [V.ref p]) (upd H p (.tup rest)) Q E)) :
    FnOk P w K mg base CX0 5 f fd ["cls", "text"] (spOt K D) := by
  refine F.ok scOt (fun vs H Q E h => ?_) (fun cdv A outer s H vs Q E hr h => ?_)
  · obtain ⟨n, m, g, rfl, _⟩ := h
    rfl
  · obtain ⟨n, m, g, rfl, G, k⟩ := h
    refine ⟨_, pss_cons (ps_if (pt_not (pt_val (pe_callB call_isi (by rfl) T.isi (by decide +kernel) (pa_cons (pv 1) (pa_cons (pe_bltn (v := .ty "str") (by rfl) T.str (by decide +kernel) rfl) pa_nil))))) pss_never pss_nil)
      (pss_cons (ps_set (i := 2) scOt.nd rfl (.inl rfl) (pe_split (pv 1) pe_str))
      (pss_one (ps_ret (TH.pe_makeSv M GI hr (pv 0) pass0 (pv 2))))), ?_⟩
    refine ⟨_, rfl, _, _, _, _, true, rfl, .ty _, .base (.str _), kit_ty (by decide +kernel), true, rfl, iteF ?_⟩
    have hl : (S (TL.joinL [10] g)).length + 2 ≤ sizeLine := by
      have h1 := joinL_len [10] 8 g fun r hr => G.row hr
      have h2 := G.len
      rw [S_len]
      show _ ≤ 16777216
      have : g.length * (8 + [10].length) = g.length * 9 := rfl
      omega
    refine ⟨_, rfl, ⟨_, rfl⟩, _, _, rfl, rfl, rfl, hl, fun l hl => ?_⟩
    have e : (Txt.split (S (TL.joinL [10] g)) (Str.ofString "\n")).map V.str = rowV g := by
      have := split_back G
      rw [show Str.ofString "\n" = S [10] from rfl, this, List.map_map]
      rfl
    rw [e]
    refine ⟨_, rfl, rfl, _, rfl, l, rowV g, rfl, .inr (SqL.of upd_same), fun x dx nx ndx nex => ?_⟩
    refine ⟨[.ref x], rowV g, rfl, rfl, ?_, fun p hp => ?_⟩
    · have := G.len
      rw [List.length_map]
      show _ ≤ 16777216
      omega
    have hpx : x ≠ p := fun z => by rw [← z, upd_same] at hp; cases hp
    refine ⟨x, dx, p, n, m, g, rfl, by rw [upd_ne hpx, upd_same], SqT.of upd_same, G, fun H' ht kp => ⟨rfl, ?_⟩⟩
    refine k _ _ (fun b o e => ?_) ht
    have hbl : b ≠ l := ne_of_none e hl
    have e1 : upd H l (.lst (rowV g)) b = some o := by rw [upd_ne hbl]; exact e
    have hbx : b ≠ x := ne_of_none e1 nx
    have hbd : b ≠ dx := ne_of_none e1 ndx
    have e2 : (upd (upd (upd H l (.lst (rowV g))) dx (.own x)) x (.ins D dx [])) b = some o := by rw [upd_ne hbx, upd_ne hbd]; exact e1
    exact kp b o (by rw [upd_ne (ne_of_none e2 hp)]; exact e2) hbx
end
end TK
end
section
set_option Elab.async false
set_option maxRecDepth 100000
set_option linter.all false
namespace TK
open PySem L2 TM
open PySem.Spec PyProof.Rows TH
section
variable {X : Cx} {n : Nat} {t0 : Tok}
theorem mt_ljustF : MtR X "str.ljust" (fun x xs H Q => ∃ (a : Str) (i : Int) (c : Nat), x = .str a ∧ xs = [.int i, .str ⟨#[c]⟩] ∧ PadOk i = true ∧ Q (.str (Txt.ljustF a i c)) H) := by
  intro pins s σ H x xs v us Q I rx rs h
  obtain ⟨a, i, c, rfl, rfl, hp, q⟩ := h
  obtain ⟨t, rfl⟩ := rx
  obtain ⟨u1, u2, rfl, r1, r2⟩ := vals2 rs
  obtain ⟨t1, rfl⟩ := (show ∃ t, u1 = Value.int i t from r1)
  obtain ⟨t2, rfl⟩ := (show ∃ t, u2 = Value.str ⟨#[c]⟩ t from r2)
  exact ljust_fill hp rfl fun t' k => ⟨.str (Txt.ljustF a i c), H, I.tok k, ⟨t', rfl⟩, q⟩
theorem mt_rjustF : MtR X "str.rjust" (fun x xs H Q => ∃ (a : Str) (i : Int) (c : Nat), x = .str a ∧ xs = [.int i, .str ⟨#[c]⟩] ∧ PadOk i = true ∧ Q (.str (Txt.rjustF a i c)) H) := by
  intro pins s σ H x xs v us Q I rx rs h
  obtain ⟨a, i, c, rfl, rfl, hp, q⟩ := h
  obtain ⟨t, rfl⟩ := rx
  obtain ⟨u1, u2, rfl, r1, r2⟩ := vals2 rs
  obtain ⟨t1, rfl⟩ := (show ∃ t, u1 = Value.int i t from r1)
  obtain ⟨t2, rfl⟩ := (show ∃ t, u2 = Value.str ⟨#[c]⟩ t from r2)
  exact rjust_fill hp rfl fun t' k => ⟨.str (Txt.rjustF a i c), H, I.tok k, ⟨t', rfl⟩, q⟩
/-- o.replace(EMPTY, ''): the signs that are left -/
def tStrike (y : Str) (to : TE) : TE := fun σ H Q => to σ H fun x H1 => ∃ a : Str, x = .str a ∧ a.length + (a.length + 1) * 0 ≤ 16777216 ∧ Q (.str (Txt.replace a y Str.empty)) H1
theorem pen_strike {o : Expr} {to : TE} {x : Str} {y : Str} {k : Nat} {p c apos pos : Pos} (ho : PE X o to) (hg : Gl X x) (hm : X.mg x = some (.str y t0)) (h0 : t0 ≠ 0) (ht : t0 < n) (hy : (y == Str.empty) = false) (hd : (x == ("__debug__" : Str)) = false := by decide)
    (hst : starEach [.Name x p, .Constant (.str Str.empty) k c] X.env = [(false, eval (.Name x p) X.env), (false, eval (.Constant (.str Str.empty) k c) X.env)] := by rfl)
    (hbase : attributeBase o "replace" X.env (eval o X.env) = eval o X.env := by rfl) (hline : (apos.endLine == pos.line) = true := by rfl) :
    PEn n X (.Call (.Attribute o "replace" apos) [.Name x p, .Constant (.str Str.empty) k c] [] pos) (tStrike y to) := by
  intro pins s σ H Q hn I h
  refine PySem.Call_method2 hbase hst hline (thnN hn (ho.run pins s σ H _ I h) fun v s1 hn1 ⟨x1, H1, I1, r1, a, e, hb, q⟩ => ?_)
  subst e
  obtain ⟨ta, rfl⟩ := r1
  refine ⟨"str", _, PySem.F.plainAttrs_str, PySem.F.slot_str_replace, PySem.F.type_str_replace, typeIs_str _ _ _, (fun _ e => nomatch e), Calls.callWith_builtin rfl (Calls.evalArgs_plain (Calls.spliced_cons ?_))⟩
  refine ld_glob I1 hg hm ?_ hd
  refine Calls.spliced_cons (Calls.Constant_str (Calls.spliced_nil ?_))
  have hs : s1.toks ≠ 0 := fun e => by
    rw [e] at hn1
    exact Nat.not_lt_zero _ (Nat.lt_of_lt_of_le ht hn1)
  exact PySem.SC.replace h0 hs (fun e => by rw [e] at ht; exact Nat.lt_irrefl _ (Nat.lt_of_lt_of_le ht hn1)) hy hb fun t' j => ⟨.str (Txt.replace a y Str.empty), H1, I1.tok j, ⟨t', rfl⟩, q⟩
end
theorem strike_mb (l : List Nat) : Txt.replace (S l) (S [46]) Str.empty = S (mb l) := by
  have e := PyProof.Rows.replace_strikes (S l) 46
  rw [S_of (Txt.replace (S l) (S [46]) Str.empty)]
  refine congrArg S ?_
  rw [show (S [46] : Str) = ⟨#[46]⟩ from rfl, show (Str.empty : Str) = ⟨#[]⟩ from rfl, e, S_list]
  rfl
theorem ljust_sl (l : List Nat) : Txt.ljustF (S (mb l)) (l.length : Int) 46 = S (sl true l) := by
  have hle := mb_le l
  unfold Txt.ljustF sl dots
  rw [S_len]
  split
  · rename_i h
    have e : l.length - (mb l).length = 0 := by omega
    rw [if_pos rfl, e]
    simp
  · rw [if_pos rfl]
    unfold Builtin.Str.padded
    simp
theorem rjust_sl (l : List Nat) : Txt.rjustF (S (mb l)) (l.length : Int) 46 = S (sl false l) := by
  have hle := mb_le l
  unfold Txt.rjustF sl dots
  rw [S_len]
  split
  · rename_i h
    have e : l.length - (mb l).length = 0 := by omega
    rw [if_neg Bool.false_ne_true, e]
    simp
  · rw [if_neg Bool.false_ne_true]
    unfold Builtin.Str.padded
    simp
section
variable {P : Program} {w : World} {K : PySem.W.Frag} {mg : Str → Option Value} {base : Heap} {t0 : Tok} {n : Nat}
theorem scSl : FnScope ["line", "to_beginning", "marbles"] ["line", "to_beginning"] (defScope sSlid) := ⟨rfl, rfl, rfl, by decide +kernel, rfl, by decide +kernel, by decide +kernel⟩
def spSl : Sp := fun vs H Q _ => ∃ (l : List Nat) (b : Bool), vs = [.str (S l), .bl b] ∧ l.length ≤ 8 ∧ Q (.str (S (sl b l))) H
theorem ok_sl {f : Addr} {fd : FuncData} (F : Fun K "_slid" "_slid" sSlid f fd) (T : TxtW K mg) (U : TxtT K mg t0) (b : Binds K fd ["line", "to_beginning"] []) (h0 : t0 ≠ 0) (ht : t0 < n) : FnRn n P w K mg base CX0 1 f spSl := by
  refine fn_n F b scSl (fun vs H Q E h => ?_) fun cdv A outer s H vs Q E hr h => ?_
  · obtain ⟨l, b, rfl, _⟩ := h
    rfl
  · obtain ⟨l, b, rfl, h8, k⟩ := h
    have hlen : (S l).length ≤ sizeLine := by
      rw [S_len]
      show _ ≤ 16777216
      omega
    have hpad : PadOk (((S l).length : Nat) : Int) = true := by
      rw [S_len]
      exact padOk_of (by omega) (by omega)
    refine ⟨_, pssn_cons (psn_set (i := 2) scSl.nd rfl (.inl rfl) (pen_strike (pv 0) rfl U.EM h0 ht (by decide +kernel)))
      (pssn_cons (PS.up (ps_if (pt_val (pv 1)) (pss_one (ps_ret (pe_bm PySem.F.plainAttrs_str PySem.F.slot_str_ljust PySem.F.type_str_ljust mt_ljustF (pv 2) (pa_cons (pe_callB call_len_str (by rfl) T.len PySem.boot_len (pa_cons (pv 0) pa_nil)) (pa_cons (C8.pe_gc rfl U.em) pa_nil))))) pss_nil))
      (pssn_one (PS.up (ps_ret (pe_bm PySem.F.plainAttrs_str PySem.F.slot_str_rjust PySem.F.type_str_rjust mt_rjustF (pv 2) (pa_cons (pe_callB call_len_str (by rfl) T.len PySem.boot_len (pa_cons (pv 0) pa_nil)) (pa_cons (C8.pe_gc rfl U.em) pa_nil))))))), ?_⟩
    refine ⟨_, rfl, S l, rfl, ?_, ?_⟩
    · rw [S_len]
      omega
    rw [strike_mb]
    refine ⟨_, rfl, b, rfl, ?_⟩
    cases b with
    | true =>
      refine iteT ⟨_, rfl, rfl, _, rfl, _, rfl, hlen, _, _, 46, rfl, rfl, hpad, ?_⟩
      rw [S_len, ljust_sl]
      exact k
    | false =>
      refine iteF ⟨_, rfl, rfl, _, rfl, _, rfl, hlen, _, _, 46, rfl, rfl, hpad, ?_⟩
      rw [S_len, rjust_sl]
      exact k
end
end TK
end
section
set_option Elab.async false
set_option maxRecDepth 100000
set_option linter.all false
namespace TK
open PySem L2 TM
open PySem.Spec PyProof.Rows TH
theorem at_map {α β : Type} {l : List α} {f : α → β} {i : Nat} {y : β} (h : (l.map f)[i]? = some y) : ∃ r, l[i]? = some r ∧ y = f r := by
  rw [List.getElem?_map] at h
  cases e : l[i]? with
  | none => rw [e] at h; cases h
  | some r => rw [e] at h; exact ⟨r, rfl, (Option.some.inj h).symm⟩
theorem take_map_snoc {α β : Type} {l : List α} {f : α → β} {i : Nat} {r : α} (h : l[i]? = some r) : (l.take (i + 1)).map f = (l.take i).map f ++ [f r] := by
  rw [List.take_add_one, h, List.map_append]
  rfl
/-- what zip hands out: a column -/
theorem col_of {g : Grid} {n m i : Nat} {cs : List Nat} (hr : Rect n m g) (hi : i < m) (hl : cs.length = (g.map S).length) (h : ∀ (k : Nat) (y : Str), (g.map S)[k]? = some y → ∃ c, y.cps[i]? = some c ∧ cs[k]? = some c) : (tr m g)[i]? = some cs := by
  rw [tr_get hi]
  refine congrArg some (List.ext_getElem? fun k => ?_)
  rw [List.getElem?_map]
  cases e : g[k]? with
  | none =>
    have : g.length ≤ k := List.getElem?_eq_none_iff.mp e
    rw [List.length_map] at hl
    rw [List.getElem?_eq_none_iff.mpr (by omega)]
    rfl
  | some r =>
    obtain ⟨c, h1, h2⟩ := h k (S r) (by rw [List.getElem?_map, e]; all_goals rfl)
    rw [S_at] at h1
    rw [h2]
    show some (r.getD i 46) = some c
    rw [List.getD_eq_getElem?_getD, h1]
    rfl
theorem dL (c d : Nat) : decide (sg c = V.str (S [d])) = (c == d) := by
  by_cases h : c = d
  · subst h; simp
  · simp [h]
/-- o.join(e), its reading by K -/
def rJn (K : PySem.W.Frag) : V → List V → Hp → VK → Prop := fun x xs H Q => ∃ a p, ∃ ys : List Str, x = .str a ∧ xs = [.ref p] ∧ (SqL K H p (ys.map V.str) ∨ SqT K H p (ys.map V.str)) ∧ (ys.map (·.length)).sum + ys.length * a.length ≤ 16777216 ∧ Q (.str (Txt.join a ys)) H
theorem pe_joinK {X : Cx} {K : PySem.W.Frag} {o e : Expr} {to te : TE} {apos pos : Pos} (hK : X.K = K) (ho : PE X o to) (he : PE X e te) (hs : starEach [e] X.env = [(false, eval e X.env)] := by rfl) (hbase : attributeBase o "join" X.env (eval o X.env) = eval o X.env := by rfl) (hline : (apos.endLine == pos.line) = true := by rfl) :
    PE X (.Call (.Attribute o "join" apos) [e] [] pos) (tM1 (rJn K) to te) := by
  subst hK
  exact pe_join ho he hs hbase hline
section
variable {P : Program} {w : World} {K : PySem.W.Frag} {mg : Str → Option Value} {base : Heap} {t0 : Tok} {n : Nat} {fS : Addr}
abbrev NTd : List Str := ["rows", "tilt", "columns", "row", "column"]
theorem scTd : FnScope NTd ["rows", "tilt"] (defScope sTilted) := ⟨rfl, rfl, rfl, by decide +kernel, rfl, by decide +kernel, by decide +kernel⟩
def spTd (K : PySem.W.Frag) : Sp := fun vs H Q _ => ∃ (a c h w : Nat) (g : Grid), vs = [.ref a, sg c] ∧ SqT K H a (rowV g) ∧ Rect h w g ∧ 1 ≤ h ∧ h ≤ 8 ∧ 1 ≤ w ∧ w ≤ 8 ∧ ∀ H' b, Same H H' → SqT K H' b (rowV (tilt h w g c)) → Q (.ref b) H'
theorem ok_td {f : Addr} {fd : FuncData} (F : Fun K "_tilted" "_tilted" sTilted f fd) (T : TxtW K mg) (U : TxtT K mg t0) (b : Binds K fd ["rows", "tilt"] []) (GS : FnRn n P w K mg base CX0 1 fS spSl) (kS : PySem.W.keepIn K (.ref fS) = true) (mS : mg "_slid" = some (.ref fS)) : FnRn n P w K mg base CX0 2 f (spTd K) := by
  refine fn_n F b scTd (fun vs H Q E h => ?_) fun cdv A outer s H vs Q E hr h => ?_
  · obtain ⟨a, c, h, w, g, rfl, _⟩ := h
    rfl
  · obtain ⟨a, c, h, w, g, rfl, hS, hr', h1, h8, w1, w8, k⟩ := h
    refine ⟨_, pssn_cons (psn_if (PT.up (pt_cmpR op_in_sign (pv 1) (C8.pe_gc rfl T.AR) (by rfl)))
        (pssn_one (psn_ret (pen_callTy call_tuple_of (by rfl) U.tup (by decide +kernel) (pan_cons (pen_lc (own := [("row", 3)]) (g := gName 3) rfl scTd.nd (pi_tup (pv 0)) (blkOk_by (N := NTd) (sc := defScope sTilted) (by decide +kernel)) (fun _ _ _ _ _ => pg_name (i := 3) scTd.nd rfl (.inl rfl))
          (fun _ _ _ _ _ => pen_call GS hr rfl mS kS pass0 (pan_cons (PE.up (pv 3)) (pan_cons (PE.up (pe_cmpR op_eq (pv 1) pe_str (nomark _))) pan_nil)))) pan_nil)))) (PSs.up pss_nil))
      (pssn_cons (psn_setLc (i := 2) (own := [("column", 4)]) (g := gName 4) rfl scTd.nd rfl rfl (sw_true rfl rfl rfl (by decide +kernel)) (pi_zips (by rfl) U.zip (pv 0)) (blkOk_by (N := NTd) (sc := defScope sTilted) (by decide +kernel)) (fun _ _ _ _ _ => pg_name (i := 4) scTd.nd rfl (.inl rfl))
          (fun _ _ _ _ _ => pen_call GS hr rfl mS kS pass0 (pan_cons (PE.up (pe_joinK (K := K) rfl pe_str (pv 4))) (pan_cons (PE.up (pe_cmpR op_eq (pv 1) pe_str (nomark _))) pan_nil))))
      (pssn_one (PS.up (ps_ret (pe_callTy call_tuple_of (by rfl) U.tup (by decide +kernel) (pa_cons (pe_lc (own := [("row", 3)]) (g := gName 3) (tt := tYes) rfl scTd.nd (pi_zips (by rfl) U.zip (pv 2)) (blkOk_by (N := NTd) (sc := defScope sTilted) (by decide +kernel)) (fun _ _ _ _ _ => pg_name (i := 3) scTd.nd rfl (.inl rfl)) (fun _ _ _ _ _ => pts_nil)
          (fun _ _ _ _ _ => pe_joinK (K := K) rfl pe_str (pv 3))) pa_nil)))))), ?_⟩
    have hrl : ∀ r ∈ g, r.length ≤ 8 := fun r hr => by rw [hr'.2 r hr]; exact w8
    refine ⟨_, rfl, c, S [108, 114], rfl, rfl, _, rfl, ?_⟩
    rw [dAR]
    by_cases hc : isH c = true
    · rw [hc]
      have et : tilt h w g c = TM.LT (c == 108) g := if_pos hc
      refine iteT ⟨_, rfl, a, rfl, ⟨_, hS⟩, fun D hD => lc_tup (K := K) (a := a) (xs := rowV g) (fun i H1 => Same H H1 ∧ H1 D = some (.lst ((g.take i).map fun r => V.str (S (sl (c == 108) r)))))
        ⟨same_new hD, upd_same⟩ (fun i H1 _ ⟨sm, _⟩ => sm.tup hS) ?_ ?_⟩
      · rintro i x H1 hi ⟨sm, hL⟩
        obtain ⟨r, hri, rfl⟩ := at_map hi
        have hrm := List.mem_of_getElem? hri
        refine ⟨rfl, ?_⟩
        refine ⟨_, rfl, _, rfl, rfl, r, c == 108, ?_, hrl r hrm, _, hL, ?_, ?_⟩
        · show [V.str (S r), V.bl (decide (sg c = V.str (S [108])))] = _
          rw [dL]
        · rw [List.length_map, List.length_take]
          show _ < 16777216
          have := hr'.1
          omega
        · refine ⟨same_put sm hD, ?_⟩
          rw [upd_same, take_map_snoc hri]
      · rintro H1 ⟨sm, hL⟩
        rw [List.length_map, List.take_length] at hL
        refine ⟨D, _, rfl, .inl ⟨SqL.of hL, fun l hl => ?_⟩⟩
        refine k _ l (sm.trans (same_new hl)) ?_
        rw [et]
        unfold TM.LT rowV
        rw [List.map_map]
        exact SqT.of upd_same
    · rw [Bool.not_eq_true] at hc
      rw [hc]
      have et : tilt h w g c = UT (c == 117) h w g := if_neg (by rw [hc]; exact Bool.false_ne_true)
      refine iteF ?_
      have hm : ∀ x ∈ g.map S, x.cps.size = w := fun x hx => by
        obtain ⟨r, hr, rfl⟩ := List.mem_map.mp hx
        rw [S_size]
        exact hr'.2 r hr
      have hS' : SqT K H a ((g.map S).map V.str) := by
        rw [List.map_map]
        exact hS
      refine ⟨_, rfl, a, g.map S, w, rfl, .inl hS', ?_, ?_, hm, fun D hD => lc_it walk_zips (fun i H1 => Same H H1 ∧ H1 D = some (.lst (((tr w g).take i).map fun r => V.str (S (sl (c == 117) r)))))
        ⟨same_new hD, upd_same⟩ (fun _ _ _ _ => True.intro) ?_ ?_⟩
      · rw [List.length_map, hr'.1]; omega
      · rw [List.length_map, hr'.1]; omega
      · rintro i x H1 H2 hi ⟨sm, hL⟩ ⟨T, cs, rfl, hT, rfl, hl, hcs⟩
        have hcol := col_of hr' hi hl hcs
        have hlc : cs.length = h := by rw [hl, List.length_map, hr'.1]
        have hL2 : upd H1 T (.tup (cs.map fun c => V.str ⟨#[c]⟩)) D = some (.lst (((tr w g).take i).map fun r => V.str (S (sl (c == 117) r)))) := by
          rw [upd_ne (ne_of_none hL hT)]
          exact hL
        refine ⟨rfl, ?_⟩
        refine ⟨⟨_, rfl⟩, _, rfl, _, T, cs.map fun c => S [c], rfl, rfl, .inr ?_, ?_, _, rfl, rfl, cs, c == 117, ?_, by omega, _, hL2, ?_, ?_⟩
        · rw [List.map_map]
          exact SqT.of upd_same
        · rw [sum_ones, List.length_map]
          show _ + _ * 0 ≤ _
          omega
        · show [V.str (Txt.join (Str.ofString "") (cs.map fun c => S [c])), V.bl (decide (sg c = V.str (S [117])))] = _
          rw [dL, join_signs]
        · rw [List.length_map, List.length_take]
          show _ < 16777216
          omega
        · refine ⟨same_put (sm.trans (same_new hT)) hD, ?_⟩
          rw [upd_same, take_map_snoc hcol]
      · rintro H1 ⟨sm, hL⟩
        have hrt := tr_rect hr'
        have hlt := lt_rect (s := c == 117) hrt
        rw [show (tr w g).take w = tr w g from List.take_of_length_le (by rw [hrt.1]; exact Nat.le_refl _)] at hL
        have hm2 : ∀ x ∈ (TM.LT (c == 117) (tr w g)).map S, x.cps.size = h := fun x hx => by
          obtain ⟨r, hr, rfl⟩ := List.mem_map.mp hx
          rw [S_size]
          exact hlt.2 r hr
        have hL' : SqL K H1 D (((TM.LT (c == 117) (tr w g)).map S).map V.str) := by
          unfold TM.LT
          rw [List.map_map, List.map_map]
          exact SqL.of hL
        refine ⟨_, rfl, D, (TM.LT (c == 117) (tr w g)).map S, h, rfl, .inr hL', ?_, ?_, hm2, fun D2 hD2 => lc_it walk_zips (fun i H2 => Same H H2 ∧ H2 D2 = some (.lst (((UT (c == 117) h w g).take i).map fun r => V.str (S r))))
          ⟨sm.trans (same_new hD2), upd_same⟩ (fun _ _ _ _ => True.intro) ?_ ?_⟩
        · rw [List.length_map, hlt.1]; omega
        · rw [List.length_map, hlt.1]; omega
        · rintro i x H2 H3 hi ⟨sm2, hL2⟩ ⟨T, cs, rfl, hT, rfl, hl, hcs⟩
          have hcol := col_of hlt hi hl hcs
          have hlc : cs.length = w := by rw [hl, List.length_map, hlt.1]
          have hL3 : upd H2 T (.tup (cs.map fun c => V.str ⟨#[c]⟩)) D2 = some (.lst (((UT (c == 117) h w g).take i).map fun r => V.str (S r))) := by
            rw [upd_ne (ne_of_none hL2 hT)]
            exact hL2
          refine ⟨rfl, ?_⟩
          refine ⟨⟨_, rfl⟩, _, rfl, _, T, cs.map fun c => S [c], rfl, rfl, .inr ?_, ?_, _, hL3, ?_, ?_⟩
          · rw [List.map_map]
            exact SqT.of upd_same
          · rw [sum_ones, List.length_map]
            show _ + _ * 0 ≤ _
            omega
          · rw [List.length_map, List.length_take]
            show _ < 16777216
            omega
          · refine ⟨same_put (sm2.trans (same_new hT)) (sm.free hD2), ?_⟩
            rw [upd_same, take_map_snoc (l := UT (c == 117) h w g) hcol, join_signs]
        · rintro H2 ⟨sm2, hL2⟩
          rw [show (UT (c == 117) h w g).take h = UT (c == 117) h w g from List.take_of_length_le (by rw [(ut_rect hr').1]; exact Nat.le_refl _)] at hL2
          refine ⟨D2, _, rfl, .inl ⟨SqL.of hL2, fun l hl => ?_⟩⟩
          refine k _ l (sm2.trans (same_new hl)) ?_
          rw [et]
          exact SqT.of upd_same
end
end TK
end
section
set_option Elab.async false
set_option maxRecDepth 100000
set_option linter.all false
namespace TK
open PySem L2 TM
open PySem.Spec PyProof.Rows TH
theorem mb_flat : ∀ g : Grid, mb g.flatten = (g.map mb).flatten
  | [] => rfl
  | r :: g => by rw [List.flatten_cons, mb_app, mb_flat g]; rfl
theorem flat_cons {f : Nat → Nat} {h : Nat → List Nat} : ∀ l : List Nat, ((l.map fun j => f j :: h j).flatten).Perm (l.map f ++ (l.map h).flatten)
  | [] => List.Perm.refl _
  | a :: l => by
    have ih := flat_cons (f := f) (h := h) l
    simp only [List.map_cons, List.flatten_cons, List.cons_append]
    refine List.Perm.cons _ ((List.Perm.append_left _ ih).trans ?_)
    rw [← List.append_assoc, ← List.append_assoc]
    exact List.Perm.append_right _ List.perm_append_comm
theorem flat_none : ∀ l : List Nat, ((l.map fun _ => ([] : List Nat)).flatten) = []
  | [] => rfl
  | _ :: l => by simp [flat_none l]
theorem get_all {m : Nat} {r : List Nat} (h : r.length = m) : (List.range m).map (fun j => r.getD j 46) = r := by
  subst h
  refine List.ext_getElem? fun k => ?_
  rw [List.getElem?_map]
  by_cases hk : k < r.length
  · rw [List.getElem?_range hk, List.getElem?_eq_getElem hk]
    simp [hk]
  · rw [List.getElem?_eq_none_iff.mpr (by simpa using hk), List.getElem?_eq_none_iff.mpr (by omega)]
    rfl
theorem tr_perm {m : Nat} : ∀ {g : Grid}, (∀ r ∈ g, r.length = m) → ((tr m g).flatten).Perm g.flatten
  | [], _ => by
    unfold tr
    rw [show ((List.range m).map fun j => ([] : Grid).map fun r => r.getD j 46) = (List.range m).map fun _ => [] from rfl, flat_none]
    exact List.Perm.refl _
  | r :: g, h => by
    have ih := tr_perm (g := g) fun z hz => h z (List.mem_cons_of_mem _ hz)
    unfold tr at ih ⊢
    refine (flat_cons (f := fun j => r.getD j 46) (h := fun j => g.map fun r => r.getD j 46) (List.range m)).trans ?_
    rw [get_all (h r List.mem_cons_self), List.flatten_cons]
    exact List.Perm.append_left _ ih
theorem lt_mb (s : Bool) (g : Grid) : mb (TM.LT s g).flatten = mb g.flatten := by
  rw [mb_flat, mb_flat]
  unfold TM.LT
  rw [List.map_map]
  congr 1
  exact List.map_congr_left fun r _ => mb_sl s r
/-- as many marbles, the same ones; and signs that are cells -/
structure Like (g g' : Grid) : Prop where
  pm : (mb g'.flatten).Perm (mb g.flatten)
  ok : (∀ c ∈ g.flatten, Cell c) → ∀ c ∈ g'.flatten, Cell c
theorem Like.trans {a b c : Grid} (x : Like a b) (y : Like b c) : Like a c := ⟨y.pm.trans x.pm, fun h => y.ok (x.ok h)⟩
theorem cell_of {l l' : List Nat} (e : mb l' = mb l) (h : ∀ c ∈ l, Cell c) : ∀ c ∈ l', Cell c := fun c hc => by
  by_cases h46 : c = 46
  · exact .inl h46
  · have : c ∈ mb l' := List.mem_filter.mpr ⟨hc, by simp [h46]⟩
    rw [e] at this
    exact h c (List.mem_filter.mp this).1
theorem like_lt (s : Bool) (g : Grid) : Like g (TM.LT s g) := ⟨by rw [lt_mb], cell_of (lt_mb s g)⟩
theorem like_tr {n m : Nat} {g : Grid} (h : Rect n m g) : Like g (tr m g) :=
  have p := tr_perm (m := m) h.2
  ⟨p.filter _, fun k c hc => k c (p.mem_iff.mp hc)⟩
theorem like_tilt {n m c : Nat} {g : Grid} (h : Rect n m g) : Like g (tilt n m g c) := by
  unfold tilt
  split
  · exact like_lt _ g
  · unfold UT
    exact ((like_tr h).trans (like_lt _ _)).trans (like_tr (lt_rect (tr_rect h)))
theorem VG.tilt {n m c : Nat} {g : Grid} (G : VG n m g) : VG n m (TM.tilt n m g c) := by
  have L := like_tilt (c := c) G.rc
  refine ⟨tilt_rect G.rc, G.n1, G.n8, G.m1, G.m8, fun r hr d hd => ?_, L.pm.nodup_iff.mpr G.nd⟩
  exact L.ok (fun d hd => by
    obtain ⟨r, hr, hd⟩ := List.mem_flatten.mp hd
    exact G.ok r hr d hd) d (List.mem_flatten.mpr ⟨r, hr, hd⟩)
theorem VG.tilts {n m : Nat} : ∀ (t : List Nat) {g : Grid}, VG n m g → VG n m (TM.tilts n m t g)
  | [], _, G => G
  | c :: t, g, G => VG.tilts t (G.tilt (c := c))
section
variable {P : Program} {w : World} {K : PySem.W.Frag} {mg : Str → Option Value} {base : Heap} {t0 : Tok} {n : Nat} {C D pT gT fD fI : Addr} {fdG : FuncData}
theorem scRs : FnScope ["self", "other", "rows", "tilt"] ["self", "other"] (defScope sTrayRshift) := ⟨rfl, rfl, rfl, by decide +kernel, rfl, by decide +kernel, by decide +kernel⟩
def spRs (K : PySem.W.Frag) (C D : Addr) : Sp := fun vs H Q _ => ∃ (p q : Addr) (h w : Nat) (g : Grid) (t : List Nat), vs = [.ref p, .ref q] ∧ TrayAt K D H p g ∧ VG h w g ∧ WordAt C H q t ∧ ∀ H' r, Same H H' → TrayAt K D H' r (tilts h w t g) → Q (.ref r) H'
theorem ok_rs {f : Addr} {fd : FuncData} (F : Fun K "__rshift__" "Tray.__rshift__" sTrayRshift f fd) (T : TxtW K mg) (CW : ClsW K mg C) (CT : ClsT K mg D) (IC : C8.InsC K C) (b : Binds K fd ["self", "other"] [])
    (PT : PropOf K C "text" pT gT) (GT : FnOk P w K mg base CX0 1 gT fdG ["self"] (getSp C "_text")) (bT : Binds K fdG ["self"] [])
    (GD : FnRn n P w K mg base CX0 2 fD (spTd K)) (kD : PySem.W.keepIn K (.ref fD) = true) (mD : mg "_tilted" = some (.ref fD)) (M : Mk K D fI)
    (GI : FnR P w K mg base CX0 3 fI (fun vs H Q E => ∃ ws rest, vs = ws ++ rest ∧ ws.length = 1 ∧ rest.length ≤ sizeLine ∧ ∀ p, H p = Option.none → spTi K D (ws ++ [V.ref p]) (upd H p (.tup rest)) Q E)) :
    FnRn n P w K mg base CX0 5 f (spRs K C D) := by
  refine fn_n F b scRs (fun vs H Q E h => ?_) fun cdv A outer s H vs Q E hr h => ?_
  · obtain ⟨p, q, h, w, g, t, rfl, _⟩ := h
    rfl
  · obtain ⟨p, q, h, w, g, t, rfl, ⟨dx, a, hp, hS⟩, G, ⟨dy, hq⟩, k⟩ := h
    refine ⟨_, pssn_cons (PS.up (ps_if (pt_not (pt_val (pe_callB (C8.call_isC IC) (by rfl) T.isi (by decide +kernel) (pa_cons (pv 1) (pa_cons (pe_glob (v := .ref C) rfl CW.mgC rfl) pa_nil))))) pss_never pss_nil))
      (pssn_cons (PS.up (ps_set (i := 2) scRs.nd rfl (.inl rfl) (pe_fld (pv 0) rfl)))
      (pssn_cons (psn_for PassesOwn.never rfl (pi_str (pe_prop (pv 1) CW.cl PT GT (hr.mono (by decide)) bT .nil pass0 rfl)) (pg_name (i := 3) scRs.nd rfl (.inl rfl))
        (pssn_one (psn_set (i := 2) scRs.nd rfl (.inl rfl) (pen_call GD (hr.mono (by decide)) rfl mD kD pass0 (pan_cons (PE.up (pv 2)) (pan_cons (PE.up (pv 3)) pan_nil))))))
      (pssn_one (PS.up (ps_ret (pe_makeS M GI hr rfl CT.mgC pass0 (pv 2))))))), ?_⟩
    refine ⟨_, rfl, q, dy, _, rfl, hq, true, rfl, iteF ?_⟩
    refine ⟨_, rfl, p, D, dx, _, _, rfl, hp, CT.cl, CT.nR, rfl, ?_⟩
    refine ⟨_, rfl, q, dy, _, rfl, hq, q, dy, _, _, rfl, hq, rfl, S t, rfl, for_it (walk_str (z := S t)) (fun i σ H1 => ∃ b v, σ = [some (.ref p), some (.ref q), some (.ref b), v] ∧ Same H H1 ∧ SqT K H1 b (rowV (tilts h w (t.take i) g)))
      ⟨a, none, rfl, Same.refl H, hS⟩ (fun _ _ _ _ _ => True.intro) ?_ ?_⟩
    · rintro i x σ H1 H2 hi ⟨b, v, rfl, sm, hb⟩ ⟨rfl, c, hc, rfl⟩
      rw [S_at] at hc
      have et : tilts h w (t.take (i + 1)) g = TM.tilt h w (tilts h w (t.take i) g) c := by
        rw [List.take_add_one, hc]
        exact tilts_snoc _ _
      have G2 := VG.tilts (t.take i) G
      refine ⟨_, rfl, _, rfl, b, c, h, w, _, rfl, hb, G2.rc, G.n1, G.n8, G.m1, G.m8, fun H3 b3 sm3 hb3 => ?_⟩
      rw [et]
      exact ⟨b3, _, rfl, sm.trans sm3, hb3⟩
    · rintro σ H1 ⟨b, v, rfl, sm, hb⟩
      rw [S_size, List.take_length] at hb
      have G2 := VG.tilts t G
      refine ⟨_, rfl, b, _, rfl, .inl hb, fun x dx nx ndx nex => ?_⟩
      refine ⟨[.ref x], rowV (tilts h w t g), rfl, rfl, ?_, fun p hp => ?_⟩
      · have := G2.len
        rw [List.length_map]
        show _ ≤ 16777216
        omega
      have hpx : x ≠ p := fun z => by rw [← z, upd_same] at hp; cases hp
      refine ⟨x, dx, p, h, w, _, rfl, by rw [upd_ne hpx, upd_same], SqT.of upd_same, G2, fun H' ht kp => ⟨rfl, ?_⟩⟩
      refine k _ _ (sm.trans fun b o e => ?_) ht
      have hbx : b ≠ x := ne_of_none e nx
      have hbd : b ≠ dx := ne_of_none e ndx
      have e2 : (upd (upd H1 dx (.own x)) x (.ins D dx [])) b = some o := by rw [upd_ne hbx, upd_ne hbd]; exact e
      exact kp b o (by rw [upd_ne (ne_of_none e2 hp)]; exact e2) hbx
end
end TK
end
section
set_option Elab.async false
set_option maxRecDepth 100000
set_option linter.all false
namespace TK
open PySem L2 TM
structure TxtL (K : PySem.W.Frag) (mg : Str → Option Value) : Prop where
  int : mg "int" = none
  range : mg "range" = none
  min : mg "min" = none
/-- the script's list at a, where the drawing stands at r -/
def RowAt (K : PySem.W.Frag) (a : Addr) (ns : List Int) (H : Hp) (r : Addr) : Prop := ∃ i seed rest : Int, H r = some (.lst [.ref a, .int i, .int seed, .int rest]) ∧ 0 ≤ i ∧ SqL K H a (ns.map V.int)
def But (r : Addr) (H H' : Hp) : Prop := ∀ b o, H b = some o → b ≠ r → H' b = some o
theorem But.refl (r : Addr) (H : Hp) : But r H H := fun _ _ h _ => h
theorem But.trans {r : Addr} {H H1 H2 : Hp} (a : But r H H1) (b : But r H1 H2) : But r H H2 := fun c o h n => b c o (a c o h n) n
theorem But.same {r : Addr} {H H' : Hp} (s : Same H H') : But r H H' := fun b o h _ => s b o h
theorem RowAt.same {K : PySem.W.Frag} {a r : Addr} {ns : List Int} {H H' : Hp} (R : RowAt K a ns H r) (s : Same H H') : RowAt K a ns H' r := by
  obtain ⟨i, d, e, h, hi, q⟩ := R
  exact ⟨i, d, e, s _ _ h, hi, s.seq q⟩
theorem row_seq {K : PySem.W.Frag} {a r : Addr} {ns : List Int} {H : Hp} {i d e : Int} {o : HO} (h : H r = some (.lst [.ref a, .int i, .int d, .int e])) (q : SqL K H a (ns.map V.int)) : SqL K (upd H r o) a (ns.map V.int) := by
  have hne : ∀ {u : HO}, H a = some u → (∀ xs, u = .lst xs → xs ≠ [.ref a, .int i, .int d, .int e]) → a ≠ r := fun hu hn e' => by
    subst e'
    exact hn _ (Option.some.inj (hu.symm.trans h)) rfl
  rcases q with (q | ⟨u, q⟩) | q
  · refine .inl (.inl ?_)
    rw [upd_ne (hne q fun xs e => by
      cases e
      intro z
      cases ns with
      | nil => simp at z
      | cons n r => simp at z)]
    exact q
  · refine .inl (.inr ⟨u, ?_⟩)
    rw [upd_ne (hne q fun xs e => by cases e)]
    exact q
  · exact .inr q
theorem fmod_in {k m : Int} (h : 1 ≤ m) : 0 ≤ k.fmod m ∧ k.fmod m < m := by
  rw [Int.fmod_eq_emod_of_nonneg _ (by omega)]
  exact ⟨Int.emod_nonneg _ (by omega), Int.emod_lt_of_pos _ (by omega)⟩
section
variable {P : Program} {w : World} {K : PySem.W.Frag} {mg : Str → Option Value} {base : Heap}
theorem scTk : FnScope ["_law_row", "_law_many", "_law_found", "_law_cell"] ["_law_row", "_law_many"] (defScope sLawTaken) := ⟨rfl, rfl, rfl, by decide +kernel, rfl, by decide +kernel, by decide +kernel⟩
def spTk (K : PySem.W.Frag) (a : Addr) (ns : List Int) : Sp := fun vs H Q _ => ∃ (r : Addr) (m : Int), vs = [.ref r, .int m] ∧ RowAt K a ns H r ∧ 1 ≤ m ∧ m ≤ 1000000000 ∧ ∀ H' (k : Nat), (k : Int) < m → RowAt K a ns H' r → But r H H' → Q (.int k) H'
theorem ok_tk {a : Addr} {ns : List Int} {f : Addr} {fd : FuncData} (F : Fun K "_law_taken" "_law_taken" sLawTaken f fd) (T : TxtW K mg) (L : TxtL K mg) : FnOk P w K mg base CX0 1 f fd ["_law_row", "_law_many"] (spTk K a ns) := by
  refine F.ok scTk (fun vs H Q E h => ?_) (fun cdv A outer s H vs Q E hr h => ?_)
  · obtain ⟨r, m, rfl, _⟩ := h
    rfl
  · obtain ⟨r, m, rfl, ⟨i, d, e, hR, hi, hS⟩, m1, m2, k⟩ := h
    have nd := scTk.nd
    refine ⟨_, pss_cons (ps_if (pt_cmpR op_gt (pe_ix ix_list (pv 0) pe_int (fun _ _ => rfl)) pe_int (nomark _))
        (pss_cons (ps_set (i := 2) nd rfl (.inl rfl) (pe_op op_modN (pe_callTy call_int1 (by rfl) L.int (by decide +kernel) (pa_cons (pe_ix ix_list (pv 0) pe_int (fun _ _ => rfl)) pa_nil)) (pv 1)))
        (pss_cons (ps_asg (pe_op op_fdivN (pe_ix ix_list (pv 0) pe_int (fun _ _ => rfl)) (pv 1)) (pg_sub (pv 0) pe_int set_list))
        (pss_one (ps_ret (pv 2))))) pss_nil)
      (C8.pss_cut (ps_asg (pe_op op_add (pe_ix ix_list (pv 0) pe_int (fun _ _ => rfl)) pe_int) (pg_sub (pv 0) pe_int set_list))
      (pss_cons (ps_if (pt_cmpR op_gt (pe_ix ix_list (pv 0) pe_int (fun _ _ => rfl)) (pe_callB call_len_seq (by rfl) T.len PySem.boot_len (pa_cons (pe_ix ix_list (pv 0) pe_int (fun _ _ => rfl)) pa_nil)) (nomark _))
        (pss_cons (ps_asg (pe_op op_modN (pe_callTy call_int1 (by rfl) L.int (by decide +kernel) (pa_cons (pe_op op_add (pe_op op_mul (pe_ix ix_list (pv 0) pe_int (fun _ _ => rfl)) pe_int) pe_int) pa_nil)) pe_int) (pg_sub (pv 0) pe_int set_list))
        (pss_one (ps_ret (pe_op op_modN (pe_callTy call_int1 (by rfl) L.int (by decide +kernel) (pa_cons (pe_op op_fdivN (pe_ix ix_list (pv 0) pe_int (fun _ _ => rfl)) pe_int) pa_nil)) (pv 1))))) pss_nil)
      (pss_cons (ps_set (i := 3) nd rfl (.inl rfl) (pe_ix ix_list (pe_ix ix_list (pv 0) pe_int (fun _ _ => rfl)) (pe_op op_sub (pe_ix ix_list (pv 0) pe_int (fun _ _ => rfl)) pe_int) (fun _ _ => rfl)))
      (C8.pss_cut (ps_asg (pe_op op_modN (pe_callTy call_int1 (by rfl) L.int (by decide +kernel) (pa_cons (pe_op op_add (pe_op op_add (pe_op op_mul (pe_ix ix_list (pv 0) pe_int (fun _ _ => rfl)) pe_int) (pv 3)) pe_int) pa_nil)) pe_int) (pg_sub (pv 0) pe_int set_list))
      (C8.pss_cut (ps_if (pt_cmpR op_ge (pv 3) (pe_op op_pow pe_int pe_int) (nomark _)) (pss_one (ps_asg (pe_op op_fdivN (pv 3) (pv 1)) (pg_sub (pv 0) pe_int set_list))) pss_nil)
      (pss_one (ps_ret (pe_op op_modN (pe_callTy call_int1 (by rfl) L.int (by decide +kernel) (pa_cons (pv 3) pa_nil)) (pv 1))))))))), ?_⟩
    have m0 : m ≠ 0 := by omega
    have mb : m ≠ 0 ∧ m.natAbs < 1073741824 := ⟨m0, by omega⟩
    have row : ∀ {H1 : Hp} {i d e : Int}, H1 r = some (.lst [.ref a, .int i, .int d, .int e]) → 0 ≤ i → SqL K H1 a (ns.map V.int) → RowAt K a ns H1 r := fun h1 h2 h3 => ⟨_, _, _, h1, h2, h3⟩
    have but : ∀ {H1 : Hp} {o : HO}, But r H H1 → But r H (upd H1 r o) := fun b c o h n => by rw [upd_ne n]; exact b c o h n
    refine ⟨_, rfl, r, _, _, _, rfl, rfl, SqL.of hR, rfl, _, _, rfl, rfl, _, rfl, ?_⟩
    by_cases he : e > 0
    · rw [decide_eq_true he]
      refine iteT ⟨_, rfl, r, _, _, _, rfl, rfl, SqL.of hR, rfl, .inl ⟨_, rfl, _, rfl, _, _, rfl, rfl, m0, ?_⟩⟩
      refine ⟨_, rfl, r, _, _, _, rfl, rfl, SqL.of hR, rfl, _, rfl, _, _, rfl, rfl, mb, _, rfl, r, _, _, 3, rfl, rfl, hR, rfl, ?_⟩
      refine ⟨_, rfl, ?_⟩
      have hk := fmod_in (k := e) m1
      have := k (upd H r (.lst [.ref a, .int i, .int d, .int (e.fdiv m)])) (e.fmod m).toNat (by omega) (row upd_same hi (row_seq hR hS)) (but (But.refl r H))
      rw [Int.toNat_of_nonneg hk.1] at this
      exact this
    · rw [decide_eq_false he]
      refine iteF ?_
      refine ⟨fun σ H1 => σ = [some (.ref r), some (.int m), none, none] ∧ H1 r = some (.lst [.ref a, .int (i + 1), .int d, .int e]) ∧ SqL K H1 a (ns.map V.int) ∧ But r H H1, ?_, ?_⟩
      · refine ⟨_, rfl, r, _, _, _, rfl, rfl, SqL.of hR, rfl, _, _, rfl, rfl, _, rfl, r, _, _, 1, rfl, rfl, hR, rfl, ?_⟩
        exact ⟨rfl, upd_same, row_seq hR hS, but (But.refl r H)⟩
      rintro σ H1 ⟨rfl, hR1, hS1, b1⟩
      refine ⟨_, rfl, r, _, _, _, rfl, rfl, SqL.of hR1, rfl, _, rfl, r, _, _, _, rfl, rfl, SqL.of hR1, rfl, a, _, rfl, .inl hS1, _, _, rfl, rfl, _, rfl, ?_⟩
      rw [List.length_map]
      by_cases hl : i + 1 > (ns.length : Int)
      · rw [decide_eq_true hl]
        refine iteT ⟨_, rfl, r, _, _, _, rfl, rfl, SqL.of hR1, rfl, _, _, rfl, rfl, .inr (by decide), _, _, rfl, rfl, .inl ⟨_, rfl, _, _, rfl, rfl, (by show (2147483647 : Int) ≠ 0; decide), _, rfl, r, _, _, 2, rfl, rfl, hR1, rfl, ?_⟩⟩
        refine ⟨_, rfl, r, _, _, _, rfl, rfl, SqL.of upd_same, rfl, _, _, rfl, rfl, (by show (7 : Int) ≠ 0 ∧ (7 : Int).natAbs < 1073741824; decide), .inl ⟨_, rfl, _, rfl, _, _, rfl, rfl, m0, ?_⟩⟩
        have hk := fmod_in (k := ((d * 48271 + 11).fmod 2147483647).fdiv 7) m1
        have := k (upd H1 r (.lst [.ref a, .int (i + 1), .int ((d * 48271 + 11).fmod 2147483647), .int e])) (((d * 48271 + 11).fmod 2147483647).fdiv 7 |>.fmod m).toNat (by omega) (row upd_same (by omega) (row_seq hR1 hS1)) (but b1)
        rw [Int.toNat_of_nonneg hk.1] at this
        exact this
      · rw [decide_eq_false hl]
        refine iteF ?_
        obtain ⟨c, hc⟩ : ∃ c, ns[i.toNat]? = some c := ⟨_, List.getElem?_eq_getElem (by omega)⟩
        refine ⟨_, rfl, r, _, _, _, rfl, rfl, SqL.of hR1, rfl, _, rfl, r, _, _, _, rfl, rfl, SqL.of hR1, rfl, _, _, rfl, rfl, a, _, _, .int c, rfl, rfl, hS1, ?_, ?_⟩
        · rw [show i + 1 - 1 = ((i.toNat : Nat) : Int) by omega]
          exact atI_nat (by rw [List.getElem?_map, hc]; all_goals rfl)
        refine ⟨fun σ H2 => ∃ d' : Int, σ = [some (.ref r), some (.int m), none, some (.int c)] ∧ H2 r = some (.lst [.ref a, .int (i + 1), .int d', .int e]) ∧ SqL K H2 a (ns.map V.int) ∧ But r H H2, ?_, ?_⟩
        · refine ⟨_, rfl, r, _, _, _, rfl, rfl, SqL.of hR1, rfl, _, _, rfl, rfl, .inr (by decide), _, rfl, _, _, rfl, rfl, _, _, rfl, rfl, .inl ⟨_, rfl, _, _, rfl, rfl, (by show (2147483647 : Int) ≠ 0; decide), _, rfl, r, _, _, 2, rfl, rfl, hR1, rfl, ?_⟩⟩
          exact ⟨_, rfl, upd_same, row_seq hR1 hS1, but b1⟩
        rintro σ H2 ⟨d', rfl, hR2, hS2, b2⟩
        refine ⟨fun σ H3 => ∃ e' : Int, σ = [some (.ref r), some (.int m), none, some (.int c)] ∧ H3 r = some (.lst [.ref a, .int (i + 1), .int d', .int e']) ∧ SqL K H3 a (ns.map V.int) ∧ But r H H3, ?_, ?_⟩
        · refine ⟨_, rfl, _, _, rfl, rfl, ⟨by decide, by decide, by decide⟩, _, _, rfl, rfl, _, rfl, ?_⟩
          refine ite2 (fun _ => ?_) fun _ => ?_
          · refine ⟨_, rfl, _, rfl, _, _, rfl, rfl, mb, _, rfl, r, _, _, 3, rfl, rfl, hR2, rfl, ?_⟩
            exact ⟨_, rfl, upd_same, row_seq hR2 hS2, but b2⟩
          · exact ⟨e, rfl, hR2, hS2, b2⟩
        rintro σ H3 ⟨e', rfl, hR3, hS3, b3⟩
        refine ⟨_, rfl, .inl ⟨_, rfl, _, rfl, _, _, rfl, rfl, m0, ?_⟩⟩
        have hk := fmod_in (k := c) m1
        have := k H3 (c.fmod m).toNat (by omega) (row hR3 (by omega) hS3) b3
        rw [Int.toNat_of_nonneg hk.1] at this
        exact this
end
end TK
end
section
set_option Elab.async false
set_option maxRecDepth 100000
set_option linter.all false
namespace TK
open PySem L2 TM
/-- the letters of a way -/
def lets (k : Nat) : List Nat := match k with
  | 0 => [108, 114, 117, 100]
  | 1 => [108, 117]
  | 2 => [114, 100, 108, 117]
  | _ => [108, 114]
theorem lets_ok : ∀ k, ∀ c ∈ lets k, isT c = true
  | 0 => by decide
  | 1 => by decide
  | 2 => by decide
  | _ + 3 => by show ∀ c ∈ [108, 114], isT c = true; decide
theorem lets_1 : ∀ k, 1 ≤ (lets k).length ∧ (lets k).length ≤ 4
  | 0 => by decide
  | 1 => by decide
  | 2 => by decide
  | _ + 3 => ⟨(by show 1 ≤ 2; decide), (by show 2 ≤ 4; decide)⟩
theorem way_text {k : Nat} (h : k < 4) : ([V.str (S [108, 114, 117, 100]), V.str (S [108, 117]), V.str (S [114, 100, 108, 117]), V.str (S [108, 114])] : List V)[k]? = some (.str (S (lets k))) := by
  match k, h with
  | 0, _ => rfl
  | 1, _ => rfl
  | 2, _ => rfl
  | 3, _ => rfl
theorem way_len {k : Nat} (h : k < 4) : ([V.int 4, V.int 2, V.int 4, V.int 2] : List V)[k]? = some (.int ((lets k).length : Nat)) := by
  match k, h with
  | 0, _ => rfl
  | 1, _ => rfl
  | 2, _ => rfl
  | 3, _ => rfl
section
variable {P : Program} {w : World} {K : PySem.W.Frag} {mg : Str → Option Value} {base : Heap} {a : Addr} {ns : List Int} {fT : Addr} {fdT : FuncData}
abbrev NTx : List Str := ["_law_row", "_law_most", "_law_text_here", "_law_way", "_law_k"]
theorem scTx : FnScope NTx ["_law_row", "_law_most"] (defScope sLawText) := ⟨rfl, rfl, rfl, by decide +kernel, rfl, by decide +kernel, by decide +kernel⟩
def spTx (K : PySem.W.Frag) (a : Addr) (ns : List Int) : Sp := fun vs H Q _ => ∃ (r : Addr) (m : Nat), vs = [.ref r, .int m] ∧ RowAt K a ns H r ∧ m ≤ 60 ∧ ∀ H' t, Good t → t.length ≤ m → RowAt K a ns H' r → But r H H' → Q (.str (S t)) H'
theorem ok_tx {f : Addr} {fd : FuncData} (F : Fun K "_law_text" "_law_text" sLawText f fd) (L : TxtL K mg) (GT : FnOk P w K mg base CX0 1 fT fdT ["_law_row", "_law_many"] (spTk K a ns)) (kT : PySem.W.keepIn K (.ref fT) = true) (bT : Binds K fdT ["_law_row", "_law_many"] []) (mT : mg "_law_taken" = some (.ref fT)) :
    FnOk P w K mg base CX0 2 f fd ["_law_row", "_law_most"] (spTx K a ns) := by
  refine F.ok scTx (fun vs H Q E h => ?_) (fun cdv A outer s H vs Q E hr h => ?_)
  · obtain ⟨r, m, rfl, _⟩ := h
    rfl
  · obtain ⟨r, m, rfl, hR, hm, k⟩ := h
    have nd := scTx.nd
    refine ⟨_, pss_cons (ps_par (i := 2) (j := 3) rfl nd rfl rfl (by decide) rfl rfl (pa_cons pe_str (pa_cons (pe_call GT hr rfl mT kT bT .nil pass0 (pa_cons (pv 0) (pa_cons pe_int pa_nil))) pa_nil)) (by rfl))
      (pss_cons (ps_for PassesOwn.never rfl (pi_range1 (by rfl) L.range (pa_cons (pe_call GT hr rfl mT kT bT .nil pass0 (pa_cons (pv 0) (pa_cons (pe_op op_add (pv 1) pe_int) pa_nil))) pa_nil)) (pg_name (i := 4) nd rfl (.inl rfl))
        (pss_one (ps_set (i := 2) nd rfl (.inl rfl) (pe_op op_add_str (pv 2)
          (pe_ix ix_str (pe_ix ix_list (pe_lst (pa_cons pe_str (pa_cons pe_str (pa_cons pe_str (pa_cons pe_str pa_nil))))) (pv 3) (fun _ _ => rfl))
            (pe_call GT hr rfl mT kT bT .nil pass0 (pa_cons (pv 0) (pa_cons (pe_ix ix_list (pe_lst (pa_cons pe_int (pa_cons pe_int (pa_cons pe_int (pa_cons pe_int pa_nil))))) (pv 3) (fun _ _ => rfl)) pa_nil))) (fun _ _ => rfl))))))
      (pss_one (ps_ret (pv 2)))), ?_⟩
    refine ⟨_, rfl, r, 4, rfl, hR, by decide, by decide, fun H1 way hw R1 b1 => ?_⟩
    refine ⟨_, _, rfl, ?_⟩
    refine ⟨_, rfl, _, rfl, _, _, rfl, rfl, r, (m : Int) + 1, rfl, R1, by omega, by omega, fun H2 j hj R2 b2 => ?_⟩
    refine ⟨(j : Int), rfl, by omega, by omega, for_range (lo := 0) (n := (j : Int).toNat) (fun i σ H3 => ∃ t v, σ = [some (.ref r), some (.int m), some (.str (S t)), some (.int way), v] ∧ t.length = i ∧ (∀ c ∈ t, isT c = true) ∧ RowAt K a ns H3 r ∧ But r H H3)
      ⟨[], none, rfl, rfl, by simp, R2, b1.trans b2⟩ ?_ ?_⟩
    · rintro i σ H3 hi ⟨t, v, rfl, ht, hg, R3, b3⟩
      have hw4 : way < 4 := by omega
      refine ⟨_, rfl, (by show 4 ≤ sizeLine; decide), fun p hp => ?_⟩
      have sm : Same H3 (upd H3 p (.lst [V.str (S [108, 114, 117, 100]), V.str (S [108, 117]), V.str (S [114, 100, 108, 117]), V.str (S [108, 114])])) := same_new hp
      refine ⟨_, rfl, p, _, _, _, rfl, rfl, SqL.of upd_same, atI_nat (way_text hw4), ?_⟩
      refine ⟨_, rfl, (by show 4 ≤ sizeLine; decide), fun q hq => ?_⟩
      refine ⟨_, rfl, q, _, _, _, rfl, rfl, SqL.of upd_same, atI_nat (way_len hw4), ?_⟩
      have R4 := (R3.same sm).same (same_new (o := .lst [V.int 4, V.int 2, V.int 4, V.int 2]) hq)
      refine ⟨r, _, rfl, R4, ?_, ?_, fun H5 d hd R5 b5 => ?_⟩
      · have := (lets_1 way).1; omega
      · have := (lets_1 way).2; omega
      have hd' : d < (lets way).length := by omega
      obtain ⟨c, hc⟩ : ∃ c, (lets way)[d]? = some c := ⟨_, List.getElem?_eq_getElem hd'⟩
      have h4 := (lets_1 way).2
      refine ⟨S (lets way), (d : Int), c, rfl, rfl, ?_, ?_, ?_⟩
      · rw [S_len]
        show _ ≤ 16777216
        omega
      · rw [S_list]
        exact atI_nat hc
      refine ⟨_, _, rfl, rfl, ?_, ?_⟩
      · rw [S_len, ht]
        show i + 1 ≤ 16777216
        omega
      refine ⟨t ++ [c], some (.int (0 + (i : Int))), ?_, ?_, ?_, R5, ?_⟩
      · rw [← show S t ++ ⟨#[c]⟩ = S (t ++ [c]) from SX.S_cat t [c]]
        rfl
      · simp [ht]
      · intro x hx
        rcases List.mem_append.mp hx with hx | hx
        · exact hg x hx
        · rw [List.mem_singleton.mp hx]
          exact lets_ok way c (List.mem_of_getElem? hc)
      · exact ((b3.trans (.same sm)).trans (.same (same_new hq))).trans b5
    · rintro σ H3 ⟨t, v, rfl, ht, hg, R3, b3⟩
      exact ⟨_, rfl, k _ t ⟨by omega, hg⟩ (by omega) R3 b3⟩
end
end TK
end
section
set_option Elab.async false
set_option maxRecDepth 100000
set_option linter.all false
namespace TK
open PySem L2 TM
abbrev intV (l : List Nat) : List V := l.map fun j => V.int (j : Nat)
theorem range_snoc {p : Nat → Bool} (i : Nat) : (List.range (i + 1)).filter p = (List.range i).filter p ++ (if p i then [i] else []) := by
  rw [List.range_succ, List.filter_append]
  congr 1
  by_cases h : p i <;> simp [h]
section
variable {P : Program} {w : World} {K : PySem.W.Frag} {mg : Str → Option Value} {base : Heap}
end
end TK
end
section
set_option Elab.async false
set_option maxRecDepth 100000
set_option linter.all false
namespace TK
open PySem L2 TM
/-- the cells in rows of w -/
def chunk (h w : Nat) (cs : List Nat) : Grid := (List.range h).map fun i => (cs.drop (i * w)).take w
theorem chunk_flat (w : Nat) (cs : List Nat) : ∀ h, (chunk h w cs).flatten = cs.take (h * w)
  | 0 => by simp [chunk]
  | h + 1 => by
    have ih := chunk_flat w cs h
    unfold chunk at ih ⊢
    rw [List.range_succ, List.map_append, List.flatten_append, ih, List.map_singleton, List.flatten_cons, List.flatten_nil, List.append_nil, Nat.succ_mul]
    exact (List.take_add).symm
theorem chunk_rect {h w : Nat} {cs : List Nat} (hl : cs.length = h * w) : Rect h w (chunk h w cs) := by
  refine ⟨by simp [chunk], fun r hr => ?_⟩
  obtain ⟨i, hi, rfl⟩ := List.mem_map.mp hr
  have hi := List.mem_range.mp hi
  rw [List.length_take, List.length_drop, hl]
  have : (i + 1) * w ≤ h * w := Nat.mul_le_mul_right _ hi
  rw [Nat.succ_mul] at this
  omega
/-- k marbles lie, a, b, .. of them -/
structure Lay (k : Nat) (cs : List Nat) : Prop where
  len : (mb cs).length = k
  nd : (mb cs).Nodup
  ab : ∀ c ∈ mb cs, 97 ≤ c ∧ c < 97 + k
theorem Lay.none (n : Nat) : Lay 0 (List.replicate n 46) := by
  have e : mb (List.replicate n 46) = [] := mb_dots n
  exact ⟨by rw [e]; rfl, by rw [e]; exact List.nodup_nil, by rw [e]; intro c hc; cases hc⟩
theorem Lay.cell {k : Nat} {cs : List Nat} (L : Lay k cs) (hk : k ≤ 26) : ∀ c ∈ cs, Cell c := fun c hc => by
  by_cases h : c = 46
  · exact .inl h
  · have := L.ab c (List.mem_filter.mpr ⟨hc, by simp [h]⟩)
    exact .inr ⟨this.1, by omega⟩
theorem Lay.put {k p : Nat} {cs : List Nat} (L : Lay k cs) (hp : cs[p]? = some 46) : Lay (k + 1) (cs.set p (97 + k)) := by
  have hi := (List.getElem?_eq_some_iff.mp hp).1
  have e1 : cs = cs.take p ++ 46 :: cs.drop (p + 1) := by
    have := (List.getElem?_eq_some_iff.mp hp).2
    rw [← this]
    simp
  have e2 : cs.set p (97 + k) = cs.take p ++ (97 + k) :: cs.drop (p + 1) := List.set_eq_take_append_cons_drop ▸ by rw [if_pos hi]
  have m1 : mb cs = mb (cs.take p) ++ mb (cs.drop (p + 1)) := by
    conv => lhs; rw [e1, mb_app]
    simp [mb]
  have m2 : mb (cs.set p (97 + k)) = mb (cs.take p) ++ (97 + k) :: mb (cs.drop (p + 1)) := by
    rw [e2, mb_app]
    have : (97 + k != 46) = true := by simp; omega
    simp [mb, this]
  have pm : (mb (cs.set p (97 + k))).Perm ((97 + k) :: mb cs) := by
    rw [m1, m2]
    exact List.perm_middle
  have fresh : 97 + k ∉ mb cs := fun h => by
    have := L.ab _ h
    omega
  refine ⟨by rw [pm.length_eq, List.length_cons, L.len], pm.nodup_iff.mpr (List.nodup_cons.mpr ⟨fresh, L.nd⟩), fun c hc => ?_⟩
  rcases List.mem_cons.mp (pm.mem_iff.mp hc) with e | e
  · subst e; omega
  · have := L.ab c e
    omega
/-- the free places -/
def frees (cs : List Nat) (n : Nat) : List Nat := (List.range n).filter fun j => cs.getD j 0 == 46
theorem frees_le (cs : List Nat) (n : Nat) : (frees cs n).length ≤ n := by
  have := List.length_filter_le (fun j => cs.getD j 0 == 46) (List.range n)
  rw [List.length_range] at this
  exact this
theorem frees_at {cs : List Nat} {d p : Nat} (h : (frees cs cs.length)[d]? = some p) : cs[p]? = some 46 := by
  have hm := List.mem_filter.mp (List.mem_of_getElem? h)
  have hp := List.mem_range.mp hm.1
  have h2 := hm.2
  rw [List.getD_eq_getElem?_getD, List.getElem?_eq_getElem hp] at h2
  rw [List.getElem?_eq_getElem hp]
  simpa using h2
theorem frees_pos {k : Nat} {cs : List Nat} (L : Lay k cs) (hk : k < cs.length) : 0 < (frees cs cs.length).length := by
  refine Nat.pos_of_ne_zero fun h0 => ?_
  have e : frees cs cs.length = [] := List.length_eq_zero_iff.mp h0
  have all : ∀ c ∈ cs, (c != 46) = true := fun c hc => by
    obtain ⟨j, hj, rfl⟩ := List.mem_iff_getElem.mp hc
    by_cases q : cs[j] = 46
    · have : j ∈ frees cs cs.length := List.mem_filter.mpr ⟨List.mem_range.mpr hj, by rw [List.getD_eq_getElem?_getD, List.getElem?_eq_getElem hj]; simp [q]⟩
      rw [e] at this
      cases this
    · simp [q]
  have : mb cs = cs := List.filter_eq_self.mpr all
  have := L.len
  rw [‹mb cs = cs›] at this
  omega
theorem lay_VG {h w k : Nat} {cs : List Nat} (L : Lay k cs) (hk : k ≤ 26) (hl : cs.length = h * w) (h1 : 1 ≤ h) (h8 : h ≤ 8) (w1 : 1 ≤ w) (w8 : w ≤ 8) : VG h w (chunk h w cs) := by
  have ef : (chunk h w cs).flatten = cs := by rw [chunk_flat, ← hl, List.take_length]
  refine ⟨chunk_rect hl, h1, h8, w1, w8, fun r hr c hc => ?_, by rw [ef]; exact L.nd⟩
  exact L.cell hk c (by rw [← ef]; exact List.mem_flatten.mpr ⟨r, hr, hc⟩)
end TK
end
section
set_option Elab.async false
set_option maxRecDepth 100000
set_option linter.all false
namespace TK
open PySem L2 TM
theorem ix_listK {X : Cx} {K : PySem.W.Frag} (h : X.K = K) : IxR X (rIxL K) := by
  subst h
  exact ix_list
theorem sl_listK {X : Cx} {K : PySem.W.Frag} (h : X.K = K) : SlR X (rSlL K) := by
  subst h
  exact sl_list
theorem but_put {r l : Addr} {H0 H : Hp} {o : HO} (b : But r H0 H) (h : H0 l = none) : But r H0 (upd H l o) := fun c u e n => by
  rw [upd_ne (ne_of_none e h)]
  exact b c u e n
theorem but_none {r l : Addr} {H0 H : Hp} {x : HO} (b : But r H0 H) (hr : H r = some x) (h : H l = none) : H0 l = none := by
  cases e : H0 l with
  | none => rfl
  | some o =>
    have := b l o e (fun q => by subst q; rw [hr] at h; cases h)
    rw [h] at this
    cases this
theorem RowAt.ne {K : PySem.W.Frag} {a r l : Addr} {ns : List Int} {H : Hp} (R : RowAt K a ns H r) (h : H l = none) : l ≠ r := by
  obtain ⟨_, _, _, e, _⟩ := R
  exact (ne_of_none e h).symm
theorem RowAt.none {K : PySem.W.Frag} {a r l : Addr} {ns : List Int} {H0 H : Hp} (R : RowAt K a ns H r) (b : But r H0 H) (h : H l = none) : H0 l = none := by
  obtain ⟨_, _, _, e, _⟩ := R
  exact but_none b e h
/-- a store at a list that is not the drawing's -/
theorem RowAt.put {K : PySem.W.Frag} {a r l : Addr} {ns : List Int} {H : Hp} {xs ys : List V} (R : RowAt K a ns H r) (hl : H l = some (.lst xs)) (hn : l ≠ r) (hs : ∃ c t, xs = sg c :: t) : RowAt K a ns (upd H l (.lst ys)) r := by
  obtain ⟨i, d, e, h, hi, q⟩ := R
  refine ⟨i, d, e, by rw [upd_ne hn.symm]; exact h, hi, ?_⟩
  obtain ⟨c, t, rfl⟩ := hs
  rcases q with (q | ⟨u, q⟩) | q
  · refine .inl (.inl ?_)
    rw [upd_ne (fun e' => by
      subst e'
      have := Option.some.inj (q.symm.trans hl)
      cases ns with
      | nil => cases this
      | cons n r => cases this)]
    exact q
  · refine .inl (.inr ⟨u, ?_⟩)
    rw [upd_ne (fun e' => by
      subst e'
      have := Option.some.inj (q.symm.trans hl)
      cases this)]
    exact q
  · exact .inr q
def side (k : Nat) : Nat := match k with
  | 0 => 3
  | 1 => 5
  | _ => 8
theorem side_at {k : Nat} (h : k < 3) : ([V.int 3, V.int 5, V.int 8] : List V)[k]? = some (.int (side k : Nat)) := by
  match k, h with
  | 0, _ => rfl
  | 1, _ => rfl
  | 2, _ => rfl
theorem side_1 : ∀ k, 1 ≤ side k ∧ side k ≤ 8
  | 0 => by decide
  | 1 => by decide
  | _ + 2 => by show 1 ≤ 8 ∧ 8 ≤ 8; decide
theorem rep_dots (k : Nat) : (List.replicate k [V.str (S [46])]).flatten = (List.replicate k 46).map sg := by
  induction k with
  | zero => rfl
  | succ k ih =>
    rw [List.replicate_succ, List.flatten_cons, ih, List.replicate_succ, List.map_cons]
    rfl
section
variable {P : Program} {w : World} {K : PySem.W.Frag} {mg : Str → Option Value} {base : Heap} {a : Addr} {ns : List Int} {fT : Addr} {fdT : FuncData}
abbrev NRw : List Str := ["_law_row", "_law_most", "_law_height", "_law_width", "_law_cells", "_law_names", "_law_k", "_law_free", "_law_place"]
theorem scRw : FnScope NRw ["_law_row", "_law_most"] (defScope sLawRows) := ⟨rfl, rfl, rfl, by decide +kernel, rfl, by decide +kernel, by decide +kernel⟩
def spRw (K : PySem.W.Frag) (a : Addr) (ns : List Int) : Sp := fun vs H Q _ => ∃ (r : Addr) (m : Nat), vs = [.ref r, .int m] ∧ RowAt K a ns H r ∧ m ≤ 26 ∧ ∀ H' l h w g, VG h w g → H' l = some (.lst (rowV g)) → RowAt K a ns H' r → But r H H' → Q (.ref l) H'
theorem ok_rw {f : Addr} {fd : FuncData} (F : Fun K "_law_rows" "_law_rows" sLawRows f fd) (T : TxtW K mg) (L : TxtL K mg) (GT : FnOk P w K mg base CX0 1 fT fdT ["_law_row", "_law_many"] (spTk K a ns)) (kT : PySem.W.keepIn K (.ref fT) = true) (bT : Binds K fdT ["_law_row", "_law_many"] []) (mT : mg "_law_taken" = some (.ref fT)) :
    FnOk P w K mg base CX0 2 f fd ["_law_row", "_law_most"] (spRw K a ns) := by
  refine F.ok scRw (fun vs H Q E h => ?_) (fun cdv A outer s H vs Q E hr h => ?_)
  · obtain ⟨r, m, rfl, _⟩ := h
    rfl
  · obtain ⟨r, m, rfl, hR, hm, k⟩ := h
    have nd := scRw.nd
    refine ⟨_, C8.pss_cut (ps_set (i := 2) nd rfl (.inl rfl) (pe_op op_add pe_int (pe_call GT hr rfl mT kT bT .nil pass0 (pa_cons (pv 0) (pa_cons (pe_ix ix_list (pe_lst (pa_cons pe_int (pa_cons pe_int (pa_cons pe_int pa_nil)))) (pe_call GT hr rfl mT kT bT .nil pass0 (pa_cons (pv 0) (pa_cons pe_int pa_nil))) (fun _ _ => rfl)) pa_nil)))))
      (C8.pss_cut (ps_set (i := 3) nd rfl (.inr rfl) (pe_op op_add pe_int (pe_call GT hr rfl mT kT bT .nil pass0 (pa_cons (pv 0) (pa_cons (pe_ix ix_list (pe_lst (pa_cons pe_int (pa_cons pe_int (pa_cons pe_int pa_nil)))) (pe_call GT hr rfl mT kT bT .nil pass0 (pa_cons (pv 0) (pa_cons pe_int pa_nil))) (fun _ _ => rfl)) pa_nil)))))
      (C8.pss_cut (ps_set (i := 4) nd rfl (.inr rfl) (pe_op op_rep (pe_lst (pa_cons pe_str pa_nil)) (pe_op op_mul (pv 2) (pv 3))))
      (pss_cons (ps_set (i := 5) nd rfl (.inl rfl) pe_str)
      (pss_cons (ps_for PassesOwn.never rfl (pi_range1 (by rfl) L.range (pa_cons (pe_callB (call_min2 rfl) (by rfl) L.min (by decide +kernel) (pa_cons (pe_op op_mul (pv 2) (pv 3)) (pa_cons (pe_call GT hr rfl mT kT bT .nil pass0 (pa_cons (pv 0) (pa_cons (pe_op op_add (pv 1) pe_int) pa_nil))) pa_nil))) pa_nil)) (pg_name (i := 6) nd rfl (.inl rfl))
        (C8.pss_cut (ps_setLc (i := 7) (own := [("_law_place", 8)]) (g := gName 8) rfl nd rfl rfl (sw_true rfl rfl rfl (by decide +kernel)) (pi_range1 (by rfl) L.range (pa_cons (pe_op op_mul (pv 2) (pv 3)) pa_nil)) (blkOk_by (N := NRw) (sc := defScope sLawRows) (by decide +kernel)) (fun _ _ _ _ _ => pg_name (i := 8) nd rfl (.inl rfl))
            (fun _ _ _ _ _ => pts_one (pt_cmpR op_eq (pe_ix (ix_listK (K := K) rfl) (pv 4) (pv 8) (fun _ _ => rfl)) pe_str (nomark _))) (fun _ _ _ _ _ => pv 8))
        (pss_one (ps_asg (pe_ix ix_str (pv 5) (pv 6) (fun _ _ => rfl)) (pg_sub (pv 4) (pe_ix ix_list (pv 7) (pe_call GT hr rfl mT kT bT .nil pass0 (pa_cons (pv 0) (pa_cons (pe_callB call_len_seq (by rfl) T.len PySem.boot_len (pa_cons (pv 7) pa_nil)) pa_nil))) (fun _ _ => rfl)) set_list)))))
      (pss_one (ps_ret (pe_lc (own := [("_law_k", 6)]) (g := gName 6) (tt := tYes) rfl nd (pi_range1 (by rfl) L.range (pa_cons (pv 2) pa_nil)) (blkOk_by (N := NRw) (sc := defScope sLawRows) (by decide +kernel)) (fun _ _ _ _ _ => pg_name (i := 6) nd rfl (.inl rfl)) (fun _ _ _ _ _ => pts_nil)
        (fun _ _ _ _ _ => pe_joinK (K := K) rfl pe_str (pe_slice (sl_listK (K := K) rfl) (pv 4) (po_some (pe_op op_mul (pv 6) (pv 3))) (po_some (pe_op op_add (pe_op op_mul (pv 6) (pv 3)) (pv 3)))))))))))), ?_⟩
    refine ⟨fun σ H1 => ∃ h : Nat, σ = [some (.ref r), some (.int m), some (.int h), none, none, none, none, none, none] ∧ 1 ≤ h ∧ h ≤ 8 ∧ RowAt K a ns H1 r ∧ But r H H1, ?_, ?_⟩
    · refine ⟨_, rfl, (by show 3 ≤ sizeLine; decide), fun p hp => ⟨_, rfl, r, 3, rfl, hR.same (same_new hp), by decide, by decide, fun HA d hd RA bA => ?_⟩⟩
      have hd3 : d < 3 := by omega
      have s1 := side_1 d
      refine ⟨p, _, _, _, rfl, rfl, SqL.of (bA p _ upd_same (hR.ne hp)), atI_nat (side_at hd3), r, _, rfl, RA, by omega, by omega, fun HB e he RB bB => ?_⟩
      exact ⟨_, _, rfl, rfl, e + 1, by rw [show ((e + 1 : Nat) : Int) = 1 + (e : Int) by omega]; rfl, by omega, by omega, RB, (((But.refl r H).trans (.same (same_new hp))).trans bA).trans bB⟩
    rintro σ H1 ⟨h, rfl, h1, h8, R1, b1⟩
    refine ⟨fun σ H2 => ∃ w : Nat, σ = [some (.ref r), some (.int m), some (.int h), some (.int w), none, none, none, none, none] ∧ 1 ≤ w ∧ w ≤ 8 ∧ RowAt K a ns H2 r ∧ But r H H2, ?_, ?_⟩
    · refine ⟨_, rfl, (by show 3 ≤ sizeLine; decide), fun p hp => ⟨_, rfl, r, 3, rfl, R1.same (same_new hp), by decide, by decide, fun HA d hd RA bA => ?_⟩⟩
      have hd3 : d < 3 := by omega
      have s1 := side_1 d
      refine ⟨p, _, _, _, rfl, rfl, SqL.of (bA p _ upd_same (R1.ne hp)), atI_nat (side_at hd3), r, _, rfl, RA, by omega, by omega, fun HB e he RB bB => ?_⟩
      exact ⟨_, _, rfl, rfl, e + 1, by rw [show ((e + 1 : Nat) : Int) = 1 + (e : Int) by omega]; rfl, by omega, by omega, RB, ((b1.trans (.same (same_new hp))).trans bA).trans bB⟩
    rintro σ H2 ⟨w, rfl, w1, w8, R2, b2⟩
    have hw : h * w ≤ 64 := Nat.mul_le_mul h8 w8
    have hw1 : 1 ≤ h * w := Nat.mul_le_mul h1 w1
    have ehw : (h : Int) * (w : Int) = ((h * w : Nat) : Int) := by simp
    have bh : ((-(2 ^ 64) < (h : Int) ∧ (h : Int) < 2 ^ 64) ∨ (-(2 ^ 64) < (w : Int) ∧ (w : Int) < 2 ^ 64)) := .inl ⟨by omega, by omega⟩
    refine ⟨fun σ H3 => ∃ l, σ = [some (.ref r), some (.int m), some (.int h), some (.int w), some (.ref l), none, none, none, none] ∧ H l = none ∧ l ≠ r ∧ H3 l = some (.lst ((List.replicate (h * w) 46).map sg)) ∧ RowAt K a ns H3 r ∧ But r H H3, ?_, ?_⟩
    · refine ⟨(by show 1 ≤ sizeLine; decide), fun p hp => ⟨_, rfl, _, rfl, _, _, rfl, rfl, bh, ?_⟩⟩
      refine ⟨p, ((h * w : Nat) : Int), _, rfl, congrArg V.int ehw, upd_same, by omega, by omega, ?_, fun q hq => ?_⟩
      · show 1 * ((h * w : Nat) : Int).toNat ≤ 16777216
        rw [Int.toNat_natCast]
        omega
      · rw [Int.toNat_natCast]
        have R3 := R2.same (same_new (o := .lst [V.str (S [46])]) hp)
        have b3 := b2.trans (.same (same_new (o := .lst [V.str (S [46])]) hp))
        refine ⟨q, rfl, R3.none b3 hq, R3.ne hq, ?_, R3.same (same_new hq), b3.trans (.same (same_new hq))⟩
        rw [upd_same, ← rep_dots]
        rfl
    rintro σ H3 ⟨l, rfl, hl0, hlr, hL, R3, b3⟩
    refine ⟨_, rfl, _, rfl, _, _, rfl, rfl, bh, _, rfl, _, rfl, _, _, rfl, rfl, r, (m : Int) + 1, rfl, R3, by omega, by omega, fun H4 kk hkk R4 b4 => ?_⟩
    have hmin : ∃ N : Nat, (if (kk : Int) < (h : Int) * (w : Int) then (kk : Int) else (h : Int) * (w : Int)) = (N : Int) ∧ N ≤ 26 ∧ N ≤ h * w := by
      rw [ehw]
      by_cases hc : (kk : Int) < ((h * w : Nat) : Int)
      · rw [if_pos hc]
        exact ⟨kk, rfl, by omega, by omega⟩
      · rw [if_neg hc]
        exact ⟨h * w, rfl, by omega, Nat.le_refl _⟩
    obtain ⟨N, eN, N26, Nhw⟩ := hmin
    refine ⟨_, _, rfl, ?_⟩
    refine ⟨(N : Int), congrArg (fun z => [V.int z]) eN, by omega, by omega, for_range (lo := 0) (n := ((N : Nat) : Int).toNat) (fun i σ H5 => ∃ cs v6 v7 v8, σ = [some (.ref r), some (.int m), some (.int h), some (.int w), some (.ref l), some (.str (S letters)), v6, v7, v8] ∧ Lay i cs ∧ cs.length = h * w ∧ H5 l = some (.lst (cs.map sg)) ∧ RowAt K a ns H5 r ∧ But r H H5)
      ⟨_, none, none, none, rfl, Lay.none (h * w), List.length_replicate, b4 _ _ hL hlr, R4, b3.trans b4⟩ ?_ ?_⟩
    · rintro i σ H5 hi ⟨cs, v6, v7, v8, rfl, La, hcs, hL5, R5, b5⟩
      rw [Int.toNat_natCast] at hi
      rw [Int.zero_add]
      refine ⟨fun σ H6 => ∃ D v8, σ = [some (.ref r), some (.int m), some (.int h), some (.int w), some (.ref l), some (.str (S letters)), some (.int (i : Nat)), some (.ref D), v8] ∧ D ≠ r ∧ D ≠ l ∧ H6 D = some (.lst (intV (frees cs cs.length))) ∧ H6 l = some (.lst (cs.map sg)) ∧ RowAt K a ns H6 r ∧ But r H H6, ?_, ?_⟩
      · refine ⟨_, rfl, _, rfl, _, _, rfl, rfl, bh, ?_⟩
        refine ⟨((h * w : Nat) : Int), congrArg (fun z => [V.int z]) ehw, by omega, by omega, fun D hD => lc_range (lo := 0) (n := (((h * w : Nat) : Int)).toNat) (fun j H6 => Same H5 H6 ∧ H6 D = some (.lst (intV ((List.range j).filter fun x => cs.getD x 0 == 46))))
          ⟨same_new hD, upd_same⟩ ?_ ?_⟩
        · rintro j H6 hj ⟨sm, hD6⟩
          rw [Int.toNat_natCast] at hj
          rw [Int.zero_add]
          obtain ⟨d, hd⟩ : ∃ d, cs[j]? = some d := ⟨_, List.getElem?_eq_getElem (by omega)⟩
          refine ⟨rfl, _, rfl, _, rfl, l, _, _, sg d, rfl, rfl, SqL.of (sm _ _ hL5), atI_nat (by rw [List.getElem?_map, hd]; all_goals rfl), rfl, _, rfl, ?_⟩
          rw [show decide (sg d = V.str (Str.ofString ".")) = (d == 46) from dL d 46]
          have eg : cs.getD j 0 = d := by rw [List.getD_eq_getElem?_getD, hd]; rfl
          have es := range_snoc (p := fun x => cs.getD x 0 == 46) j
          by_cases hx : (d == 46) = true
          · rw [hx]
            refine iteT ⟨_, rfl, _, hD6, ?_, same_put sm hD, ?_⟩
            · rw [List.length_map]
              have := List.length_filter_le (fun x => cs.getD x 0 == 46) (List.range j)
              rw [List.length_range] at this
              show _ < 16777216
              omega
            · rw [upd_same, es, if_pos (by rw [eg]; exact hx)]
              simp [intV]
          · rw [Bool.not_eq_true] at hx
            rw [hx]
            refine iteF ⟨sm, ?_⟩
            rw [hD6, es, if_neg (by rw [eg, hx]; exact Bool.false_ne_true), List.append_nil]
        · rintro H6 ⟨sm, hD6⟩
          rw [Int.toNat_natCast, ← hcs] at hD6
          exact ⟨D, _, rfl, R5.ne hD, (ne_of_none hL5 hD).symm, hD6, sm _ _ hL5, R5.same sm, b5.trans (.same sm)⟩
      rintro σ H6 ⟨D, v8', rfl, hDr, hDl, hD6, hL6, R6, b6⟩
      have hpos := frees_pos La (by omega)
      have hfl := frees_le cs cs.length
      have hle : letters[i]? = some (97 + i) := by
        have : i < 26 := by omega
        have all : ∀ i : Fin 26, letters[i.1]? = some (97 + i.1) := by decide
        exact all ⟨i, this⟩
      refine ⟨_, rfl, _, rfl, S letters, (i : Int), 97 + i, rfl, rfl, (by show 26 ≤ sizeLine; decide), by rw [S_list]; exact atI_nat hle, ?_⟩
      refine ⟨_, rfl, _, rfl, _, rfl, _, rfl, D, _, rfl, .inl (SqL.of hD6), ?_⟩
      refine ⟨r, _, rfl, R6, ?_, ?_, fun H7 d hd R7 b7 => ?_⟩
      · rw [List.length_map]; omega
      · rw [List.length_map]; omega
      rw [List.length_map] at hd
      obtain ⟨p, hp⟩ : ∃ p, (frees cs cs.length)[d]? = some p := ⟨_, List.getElem?_eq_getElem (by omega)⟩
      have hcp := frees_at hp
      have hpl : p < cs.length := (List.getElem?_eq_some_iff.mp hcp).1
      have hL7 := b7 _ _ hL6 hlr
      refine ⟨D, _, _, .int (p : Nat), rfl, rfl, SqL.of (b7 _ _ hD6 hDr), atI_nat (by rw [List.getElem?_map, hp]; all_goals rfl), l, _, _, p, rfl, rfl, hL7, ?_, ?_⟩
      · rw [List.length_map]
        unfold ixN
        rw [if_pos (by omega), if_pos (by omega), Int.toNat_natCast]
      · have hs : ∃ c t, cs.map sg = sg c :: t := by
          cases cs with
          | nil => simp at hpl
          | cons c t => exact ⟨c, t.map sg, rfl⟩
        refine ⟨cs.set p (97 + i), _, _, _, rfl, La.put hcp, by rw [List.length_set]; exact hcs, ?_, R7.put hL7 hlr hs, but_put (b6.trans b7) hl0⟩
        rw [upd_same, List.map_set]
    · rintro σ H5 ⟨cs, v6, v7, v8, rfl, La, hcs, hL5, R5, b5⟩
      rw [Int.toNat_natCast] at La
      have La' := La
      have goal := lay_VG La' N26 hcs h1 h8 w1 w8
      refine ⟨_, rfl, (h : Int), rfl, by omega, by omega, fun D hD => lc_range (lo := 0) (n := ((h : Nat) : Int).toNat) (fun i H6 => Same H5 H6 ∧ H6 D = some (.lst ((List.range i).map fun j => V.str (S ((cs.drop (j * w)).take w)))))
          ⟨same_new hD, upd_same⟩ ?_ ?_⟩
      · rintro i H6 hi ⟨sm, hD6⟩
        rw [Int.toNat_natCast] at hi
        rw [Int.zero_add]
        have hiw : i * w + w ≤ h * w := by
          have : (i + 1) * w ≤ h * w := Nat.mul_le_mul_right _ hi
          rw [Nat.succ_mul] at this
          exact this
        have eiw : (i : Int) * (w : Int) = ((i * w : Nat) : Int) := by simp
        have bi : ((-(2 ^ 64) < (i : Int) ∧ (i : Int) < 2 ^ 64) ∨ (-(2 ^ 64) < (w : Int) ∧ (w : Int) < 2 ^ 64)) := .inr ⟨by omega, by omega⟩
        have ecut : cutV (cs.map sg) (some ((i : Int) * (w : Int))) (some ((i : Int) * (w : Int) + (w : Int))) = ((cs.drop (i * w)).take w).map sg := by
          rw [eiw, show ((i * w : Nat) : Int) + (w : Int) = ((i * w + w : Nat) : Int) by omega]
          unfold cutV
          rw [HT.sIx_nat, HT.sIx_nat, List.length_map, hcs, Nat.min_eq_left hiw, Nat.min_eq_left (by omega : i * w ≤ h * w), show i * w + w - i * w = w by omega, List.map_take, List.map_drop]
        refine ⟨rfl, ⟨_, rfl⟩, _, rfl, _, rfl, _, rfl, _, _, rfl, rfl, bi, _, rfl, _, rfl, _, rfl, _, _, rfl, rfl, bi, _, rfl, _, _, rfl, rfl, _, rfl, l, _, rfl, SqL.of (sm _ _ hL5), fun q hq => ?_⟩
        rw [ecut]
        have hD7 : (upd H6 q (.lst (((cs.drop (i * w)).take w).map sg))) D = some (.lst ((List.range i).map fun j => V.str (S ((cs.drop (j * w)).take w)))) := by
          rw [upd_ne (ne_of_none hD6 hq)]
          exact hD6
        refine ⟨_, q, ((cs.drop (i * w)).take w).map fun c => S [c], rfl, rfl, .inl ?_, ?_, _, hD7, ?_, ?_⟩
        · rw [List.map_map]
          exact SqL.of upd_same
        · rw [sum_ones, List.length_map, List.length_take, List.length_drop]
          show _ + _ * 0 ≤ _
          omega
        · rw [List.length_map, List.length_range]
          show _ < 16777216
          omega
        · refine ⟨same_put (sm.trans (same_new hq)) hD, ?_⟩
          rw [upd_same, join_signs, List.range_succ, List.map_append]
          rfl
      · rintro H6 ⟨sm, hD6⟩
        rw [Int.toNat_natCast] at hD6
        refine k _ D h w _ goal ?_ (R5.same sm) (b5.trans (.same sm))
        rw [hD6]
        unfold rowV chunk
        rw [List.map_map]
        rfl
end
end TK
end
section
set_option Elab.async false
set_option maxRecDepth 100000
set_option linter.all false
namespace TK
open PySem L2 TM
open PySem.Spec PyProof.Rows TH
theorem op_twoN {X : Cx} {CX : CXT} {j n : Nat} {C D g : Addr} {sp : Sp} {E : XK} {op : Operator} (hCD : C ≠ D) (hc : PySem.W.selfFirst X.K C = true) (N : NoOp X.K D op.info.2) (hs : PySem.W.findIn X.K (.ref C) (PySem.dunder op.info.2) = some (some (.ref g))) (hf : PySem.W.isFn X.K (.ref g) = true)
    (F : FnRn n X.prog X.w X.K X.mg X.base CX j g sp) (hr : Room j X.A) (hx : Passes CX X E) : OpRn n X (binaryOp op) (rTwo C D sp E) := by
  intro pins s σ H x y v u Q hn I rx ry h
  obtain ⟨a, dx, fs, b, dy, gs, rfl, rfl, ha, hb, q⟩ := h
  cases (show v = Value.ref a from rx)
  cases (show u = Value.ref b from ry)
  obtain ⟨mA, O, _⟩ := ins_get I.hok ha
  obtain ⟨od, J, _⟩ := O.look
  obtain ⟨mB, O', _⟩ := ins_get I.hok hb
  obtain ⟨od', J', _⟩ := O'.look
  refine binop_two I.kIn J J'.type hCD hc N hs hf ?_
  refine wpAny_mono (wpAny_call (run_fnRn (us := [.ref a, .ref b]) (vs := [.ref a, .ref b]) hn F hr hx I (.cons rfl (.cons rfl .nil)) q)) (fun w s' z => ?_) fun _ _ x => x
  obtain ⟨z', H', I', rz, qz⟩ := z
  exact SlX.cmpback rz ⟨z', H', I', rz, qz⟩
abbrev rowD (g : Grid) : List PyData := g.map fun r => PyData.str (S r)
theorem row_all {K : PySem.W.Frag} {H : Hp} : ∀ g : Grid, DpAll K H (rowV g) (rowD g)
  | [] => .nil
  | _ :: g => .cons (.str _) (row_all g)
theorem row_depth : ∀ g : Grid, PyData.depthAll (rowD g) = 0
  | [] => rfl
  | x :: g => by
    show max (PyData.depth (.str _)) (PyData.depthAll (rowD g)) = 0
    rw [row_depth g]
    rfl
theorem row_lay : ∀ g : Grid, (∀ r ∈ g, ∀ c ∈ r, Cell c) → PyData.canLayAll0 (rowD g) = true
  | [], _ => rfl
  | x :: g, h => by
    show (PyData.canLay0 (.str (S x)) && PyData.canLayAll0 (rowD g)) = true
    rw [row_lay g fun r hr => h r (List.mem_cons_of_mem _ hr), Bool.and_true]
    show (S x).cps.all (· < 0x110000) = true
    rw [← Array.all_toList]
    refine List.all_eq_true.mpr fun c hc => ?_
    have := h x List.mem_cons_self c hc
    unfold Cell at this
    exact decide_eq_true (by omega)
theorem row_shaped {n m : Nat} {g : Grid} (G : VG n m g) : SeqAt.shaped (.tuple (rowD g)) = true := by
  show (PyData.canLayAll0 (rowD g) && decide (PyData.depthAll (rowD g) + 1 ≤ 64)) = true
  rw [row_lay g G.ok, row_depth]
  rfl
theorem row_sum (k : Nat) : ∀ g : Grid, (∀ r ∈ g, r.length ≤ k) → ((g.map S).map (·.length)).sum ≤ g.length * k
  | [], _ => by simp
  | x :: g, h => by
    have h1 := row_sum k g fun r hr => h r (List.mem_cons_of_mem _ hr)
    have h2 := h x List.mem_cons_self
    rw [List.map_cons, List.map_cons, List.sum_cons, S_len, List.length_cons, Nat.succ_mul]
    omega
end TK
end
section
set_option Elab.async false
set_option maxRecDepth 100000
set_option linter.all false
namespace TK
open PySem L2 TM
open PySem.Spec PyProof.Rows TH
/-- the script as the law finds it: locked, unless it is an object of the top -/
def scr (K : PySem.W.Frag) (a : Addr) (vs : List Value) (ns : List Int) : Hp := fun b => if b = a ∧ K.lookup a = none then some (.frz { cls := .type "list", data := .seq vs.toArray } (.lst (ns.map V.int))) else none
theorem scr_at {K : PySem.W.Frag} {a b : Addr} {vs : List Value} {ns : List Int} {u : HO} (h : scr K a vs ns b = some u) : b = a ∧ K.lookup a = none ∧ u = .frz { cls := .type "list", data := .seq vs.toArray } (.lst (ns.map V.int)) := by
  unfold scr at h
  split at h
  · rename_i c
    exact ⟨c.1, c.2, (Option.some.inj h).symm⟩
  · cases h
theorem law_n {P : Program} {w : World} {K : PySem.W.Frag} {mg mb : Str → Option Value} {n k : Nat} {fa a : Addr} {sp : Sp} {s₁ : Shared} {vs : List Value} {ns : List Int}
    (KX : K.In s₁.heap) (hns : s₁.heap.Ns mainGlobals mg) (hb : s₁.heap.Ns builtinsNs mb) (hbb : ∀ x : Str, x ≠ "__name__" → mb x = bootBuiltins x) (hlim : s₁.heap.NoLimit) (hg : s₁.gens = #[]) (hn : n ≤ s₁.toks)
    (ha : s₁.heap.get? a = some { cls := .type "list", data := .seq vs.toArray }) (hi : Vals (ns.map V.int) vs) (hl : ns.length ≤ sizeLine) (hr : Room k callerA)
    (F : ∀ base : Heap, K.In base → base.Ns mainGlobals mg → FnRn n P w K mg base CX0 k fa sp)
    (hsp : ∀ H : Hp, SqL K H a (ns.map V.int) → sp [.ref a] H (fun v _ => v = .bl true) fun _ _ _ => False) :
    codeAny (model P w) callerA (.call (.ref fa) ⟨[.ref a], []⟩) (fun r s' => r = .ok (.ret (.bool true)) ∧ OldK s₁.heap s'.heap ∧ s'.os = s₁.os ∧ AllBare s'.gens) s₁ := by
  have hvl : vs.length = ns.length := by rw [← hi.length, List.length_map]
  have seen : SqL K (scr K a vs ns) a (ns.map V.int) := by
    cases hk : K.lookup a with
    | none => exact .inl (.inr ⟨_, if_pos ⟨rfl, hk⟩⟩)
    | some o =>
      have e := KX a o hk
      rw [ha] at e
      cases e
      exact .inr ⟨_, vs.toArray, _, hk, rfl, rfl, rfl, by rw [List.size_toArray, hvl]; exact hl, by simpa using hi⟩
  have fine : HOk P w (scr K a vs ns) s₁.heap := fun b u h => by
    obtain ⟨rfl, _, rfl⟩ := scr_at h
    exact ⟨ha, by rw [List.length_map]; exact hl, vs, _, hi, ha⟩
  generalize hH : scr K a vs ns = H at seen fine
  have only : ∀ {b : Addr} {u : HO}, H b = some u → b = a ∧ K.lookup a = none ∧ ∃ o xs, u = .frz o (.lst xs) := fun {b u} h => by
    rw [← hH] at h
    obtain ⟨z1, z2, z3⟩ := scr_at h
    exact ⟨z1, z2, _, _, z3⟩
  have dict : ∀ {b : Addr} {m : Str → Option Value}, s₁.heap.Ns b m → (hidT s₁.heap H).Ns b m := fun {b m} ⟨o, es, ep, e, d, q⟩ => by
    refine ⟨o, es, ep, hidT_get e ?_, d, q⟩
    cases hz : H b with
    | none => rfl
    | some u =>
      obtain ⟨rfl, _⟩ := only hz
      rw [ha] at e
      cases e
      cases d
  have inB : K.In (hidT s₁.heap H) := fun b o e => hidT_get (KX b o e) (by
    cases hz : H b with
    | none => rfl
    | some u =>
      obtain ⟨rfl, z, _⟩ := only hz
      rw [z] at e
      cases e)
  obtain ⟨mc, l1, l2⟩ := hlim
  have start : Env0 P w K mg (hidT s₁.heap H) callerA [] s₁ H := ⟨rfl, ⟨inB, dict hns, ⟨mb, dict hb, hbb⟩, mc, dict l1, l2⟩, fun b o e => of_hidT e, Nat.le_of_eq (hidT_size _ _), trivial, fun b z => absurd (show b ∈ ([] : List Addr) from z) (by simp), fine, .of_eq hg⟩
  refine codeAny_mono (F _ inB (dict hns) callerA [] s₁ H [.ref a] [.ref a] _ _ hn hr start (.cons rfl .nil) (hsp H seen)) fun r s' h => ?_
  cases r with
  | error e => exact False.elim h
  | ok fl =>
    cases fl with
    | next => exact False.elim h
    | brk => exact False.elim h
    | cont => exact False.elim h
    | ret u =>
      obtain ⟨v, H', os, bare, un, fine', rv, q⟩ := h
      obtain rfl : v = .bl true := q
      obtain rfl : u = Value.bool true := rv
      refine ⟨rfl, OldK.of_keep fun b o e => ?_, os, bare⟩
      cases hz : H b with
      | none => exact un.keep b o e hz (fun z => absurd (show b ∈ ([] : List Addr) from z) (by simp)) (by simp)
      | some u =>
        obtain ⟨_, _, ob, xs, rfl⟩ := only hz
        have e1 := (fine b _ hz).1
        have e2 := (fine' b _ (un.frzs b ob _ hz)).1
        rw [e] at e1
        cases e1
        exact e2
end TK
end
section
set_option Elab.async false
set_option maxRecDepth 100000
set_option linter.all false
namespace TX
open PySem PySem.Spec PyProof.Rows L2
section
variable {X : Cx} {pins : List (Addr × Obj)} {σ : L2.St} {H : Hp} {s : Shared} {A : Around} {E : Value → Shared → Prop}
/-- the bound ValueError.__init__ is called -/
theorem mw_call {u a C : Addr} {us : List Value} {Q : Value → Shared → Prop} (T : OexC X.K C) (I : Inv X pins σ H s) (e : H a = some (exo a C none)) (hu : s.heap.get? u = some (PySem.W.kxs_mw "ValueError.__init__" a)) (hl : us.length ≤ sizeLine)
    (h : ∀ s', Inv X pins σ H s' → Q .none s') : wpAny (model X.prog X.w) A (call (.ref u) us) Q E s := by
  obtain ⟨nm, q, N, bs, bm, sn, sub, ab, col, dd, k0, k1, k2, k3, k5, hC, hbm⟩ := T.cls
  obtain ⟨t1, ho⟩ := exo_at I.hok e
  have hC := I.kIn _ _ hC
  obtain ⟨hp, g, d, t, os⟩ := s
  refine wpAny_call (codeAny_of_tree ?_)
  show wpAny _ A.in1 (callAny (.ref u) ⟨us, []⟩) _ _ _
  simp only [callAny]
  refine wpAny_bind (wpAny_load hu ?_)
  simp only [PySem.W.kxs_mw, show (Value.type "method-wrapper" == Value.type "method" || Value.type "method-wrapper" == Value.type "builtin_function_or_method" || Value.type "method-wrapper" == Value.type "method-wrapper") = true from by decide, if_true]
  refine PySem.W.KFB.if_so (by decide) ?_
  refine wpAny_bind (PySem.W.check_bound_init F.excBase_ValueError.toExcCallFacts hC ho rfl ?_)
  refine wpAny_bind (wpAny_pure (wpAny_pure ?_))
  refine ⟨plainId_quiet F.excBase_ValueError.init.plain _, ?_⟩
  refine codeAny_builtin F.excBase_ValueError.initEntry ?_
  refine PySem.W.exc_init_tree (cls := .ref C) (t0 := t1) (dv := none) (c2 := .none) (c3 := .none) (b4 := .bool false) ho hl fun h' k hx _ => ?_
  have J := I.write (t' := t) (x := a) (e := a) (o := exo a C none) (by rw [e]; exact True.intro) (.inl rfl) k ⟨_, hx⟩ (exo_ok hx)
  have eu : upd H a (exo a C none) = H := by
    funext b
    by_cases hb : b = a
    · rw [hb, upd_same, e]
    · rw [upd_ne hb]
  rw [eu] at J
  exact h _ J
end
/-- what is written of an __init__ at f that says super().__init__(..): its class at C, its cell at cc, its code at cda -/
structure SupI (P : Program) (K : PySem.W.Frag) (C f cc cda : Addr) (fd : FuncData) (ar : Arg) : Prop where
  fn : ∃ oc od osl, K.lookup f = some ⟨oc, od, .func fd, osl⟩
  hd : (fd.params.posonlyargs ++ fd.params.args).head? = some ar
  code : ∃ ccl cdd vs ccs file tf, K.lookup cda = some ⟨ccl, cdd, .fields vs, ccs⟩ ∧ vs[2]? = some (.str file tf) ∧ ((P.main.file : Str) == file) = true
  cell : ∃ cl cld csl, K.lookup cc = some ⟨cl, cld, .cell (some (.ref C)), csl⟩
  sub : PySem.W.mroIn K C (.ref C) = some true
  sup : PySem.W.ks_superIn K C C "__init__" = some (some (.builtin "ValueError.__init__"))
  ve : PySem.W.subIn K (.ref C) (.type "ValueError") = some true
  op : PySem.W.nsIn K cStatics "thirdparty.any" = some none
  top : (P.main.scope.names.lookup ("super" : Str)).isSome = false
section
variable {X : Cx} {pins : List (Addr × Obj)} {σ : L2.St} {H : Hp} {s : Shared}
theorem super_stmt {a C f cc cda : Addr} {fd : FuncData} {ar : Arg} {arg : Expr} {body : List Stmt} {t : TA} {p0 p1 apos pos spos : Pos} {Qn : Hp → Prop} {pl : Sem Bool} (S : SupI X.prog X.K C f cc cda fd ar) (T : OexC X.K C) (hm : X.mg "super" = none)
    (hfu : X.env.func = some f) (hco : X.env.code = .ref cda) (hce : X.env.cells.lookup ("__class__" : Str) = some cc) (hks : X.env.scope.names.lookup ("super" : Str) = some .globalImplicit) (hkc : X.env.scope.names.lookup ("__class__" : Str) = some .free) (hka : X.env.scope.names.lookup ar.arg = some .local) (hN : X.N[0]? = some ar.arg)
    (hc : eval (.Call (.Attribute (.Call (.Name "super" p0) [] [] p1) "__init__" apos) [arg] [] pos) X.env = (do
      let ov ← attributeBase (.Call (.Name "super" p0) [] [] p1) "__init__" X.env (eval (.Call (.Name "super" p0) [] [] p1) X.env)
      standAt apos.atName
      let (f, first) ← holding [ov] (getMethod ov "__init__" pl)
      callWith pos f first (backTo pos (starEach [arg] X.env)) []))
    (hsw : swapsWith (.Call (.Attribute (.Call (.Name "super" p0) [] [] p1) "__init__" apos) [arg] [] pos) none spos.line X.env = pure false)
    (hi : interactive X.env = false) (I : Inv X pins σ H s) (hσ : σ[0]? = some (some (.ref a))) (e : H a = some (exo a C none)) (ha : PA X [arg] t) (hstar : starEach [arg] X.env = [(false, eval arg X.env)])
    (ht : t σ H fun vs H1 => vs.length ≤ 1000 ∧ H1 a = some (exo a C none) ∧ Qn H1) :
    PySem.wpAt (model X.prog X.w) X.A (.func body X.env) (exec (.Expr (.Call (.Attribute (.Call (.Name "super" p0) [] [] p1) "__init__" apos) [arg] [] pos) spos) X.env) (fun fl s' => fl = .next ∧ ∃ H1, Inv X pins σ H1 s' ∧ Qn H1) X.xe s := by
  obtain ⟨oc, od, osl, hf⟩ := S.fn
  obtain ⟨ccl, cdd, vs, ccs, file, tf, hcode, hvs, hfile⟩ := S.code
  obtain ⟨cl, cld, csl, hcell⟩ := S.cell
  have hsup := S.sup
  unfold PySem.W.ks_superIn at hsup
  cases hcd : PySem.W.clsIn X.K C with
  | none => rw [hcd] at hsup; cases hsup
  | some cd =>
  rw [hcd] at hsup
  obtain ⟨t1, ho⟩ := exo_at I.hok e
  obtain ⟨mb, hb1, hb2⟩ := I.ok.mod.blt
  obtain ⟨m, hns, hloc⟩ := I.loc
  obtain ⟨u0, ru, hlook⟩ := hloc 0 ar.arg (.ref a) hN hσ (.inl hka)
  obtain rfl : u0 = Value.ref a := ru
  refine ks_wpAt_Expr_any (ks_wpAt_MethodCall ?_ hc) hi hsw
  obtain ⟨hp, g, d, tk, os⟩ := s
  have hD := hcd
  unfold PySem.W.clsIn at hD
  split at hD
  · rename_i c0 d0 cd0 sl0 hCl
    cases hD
    have hCo := I.kIn _ _ hCl
    refine ks_wpAt_super_base (f := f) (cc := cda) (ar := ar) (vs := vs) (file := file) (tf := tf) (fd := fd) hks hkc (by decide) hfu (I.kIn _ _ hf) rfl S.hd hco (I.kIn _ _ hcode) rfl hvs hfile S.top ?_
    refine PySem.W.ks_loadName_global I.ok.kind hks (Calls.loadGlobal_builtin (by rw [I.ok.glob]; exact I.ok.mod.glob.keeps I.bk) hm (by rw [I.ok.blt]; exact hb1.keeps I.bk) ((hb2 "super" (by decide)).trans (by decide +kernel)) ⟨rfl, ?_⟩)
    refine wpAny_loadName_free I.ok.kind hkc hce ⟨_, I.kIn _ _ hcell, rfl⟩ ?_
    rcases hlook with ⟨_, hv⟩ | ⟨hk, _⟩
    · refine wpAny_loadName_local I.ok.kind hka hns hv ?_
      refine ks_wpAny_isType_cls hCo rfl ⟨rfl, ?_⟩
      refine ks_wpAny_call_super hCo rfl ho rfl (fun c z => nomatch z) (PySem.W.looks_mroIn I.kIn S.sub) fun h' e1 k1 => ?_
      have I1 : Inv X pins σ H ⟨h', g, d, tk, os⟩ := I.kept (t' := tk) k1
      obtain ⟨t2, ho1⟩ := exo_at I1.hok e
      have hne : a ≠ C := fun z => by
        subst z
        rw [ho] at hCo
        cases hCo
      refine PySem.W.kxs_getMethod PySem.W.kxs_ValueError e1 (PySem.W.looks_opaque I1.kIn S.op) (l₀ := _) (fun A Q E s k q => wpAny_bind ((PySem.W.looks_clsIn I1.kIn hcd) A _ E s k (wpAny_pure q))) rfl I1.kIn hsup ((show PySem.W.InstAt h' a _ C none from ⟨ho1, rfl, rfl, True.intro⟩).type.andThen (PySem.W.looks_subIn I1.kIn S.ve)) hne (by decide) ?_
      have I2 := ClX.pin_new (a := h'.objs.size) (o := PySem.W.kxs_mw "ValueError.__init__" a) (t' := tk + 1) I1 (fun _ _ z => Heap.get?_push_of_some _ z) (Nat.le_refl _) (Heap.get?_push_size h' rfl) (fun v z => nomatch z)
      have hrun := ha.run pos _ _ σ H _ I2 ht
      rw [hstar] at hrun ⊢
      refine PySem.W.kxs_callWith (i := "ValueError.__init__") (x := a) rfl (Calls.evalArgs_plain (thn hrun fun us s3 ⟨ws, H3, I3, rv, hl, e3, q⟩ => ⟨ClX.pin_at I3, ?_⟩))
      refine mw_call T I3 e3 (ClX.pin_at I3) ?_ fun s4 I4 => ⟨rfl, H3, ClX.unpin I4, q⟩
      show us.length ≤ sizeLine
      rw [← rv.length]
      exact Nat.le_trans hl (by decide)
    · have hk' : X.env.scope.names.lookup ar.arg = some .cell ∨ X.env.scope.names.lookup ar.arg = some .free := hk
      rw [hka] at hk'
      rcases hk' with z | z <;> cases z
  · cases hD
end
end TX
end
section
set_option Elab.async false
set_option maxRecDepth 100000
set_option linter.all false
namespace TX
open PySem PySem.Spec PyProof.Rows L2 NdefX
theorem super_fn {CX : CXT} {P : Program} {w : World} {K : PySem.W.Frag} {mg : Str → Option Value} {base : Heap} {k : Nat} {f C cc cda : Addr} {name qual : Str} {params : Arguments} {body rest : List Stmt} {scope : Scope} {kV doc pm ct oc : Value} {an od : Option Addr} {osl : Array (Option Value)}
    {N ps : List Str} {sp : Sp} {ar : Arg} {arg : Expr} {p0 p1 apos pos spos : Pos}
    (lk : K.lookup f = some ⟨oc, od, .func (PySem.W.fnX name qual params body scope [("__class__", cc)] .none kV doc pm an (.ref cda) ct), osl⟩) (hcd : PySem.W.codeIn K (.ref cda) qual = true) (S : NScope N ps ["__class__"] scope)
    (U : SupI P K C f cc cda (PySem.W.fnX name qual params body scope [("__class__", cc)] .none kV doc pm an (.ref cda) ct) ar) (T : OexC K C) (hm : mg "super" = none)
    (hbd : body = .Expr (.Call (.Attribute (.Call (.Name "super" p0) [] [] p1) "__init__" apos) [arg] [] pos) spos :: rest)
    (hks : scope.names.lookup ("super" : Str) = some .globalImplicit) (hka : scope.names.lookup ar.arg = some .local) (hN : N[0]? = some ar.arg) (len : ∀ vs H Q E, sp vs H Q E → vs.length = ps.length)
    (hst : ∀ env : Env, ∀ L : Addr, env = envF ⟨name, qual, params, body, scope, [("__class__", cc)], cda⟩ f L → ∃ pl : Sem Bool, eval (.Call (.Attribute (.Call (.Name "super" p0) [] [] p1) "__init__" apos) [arg] [] pos) env = (do
      let ov ← attributeBase (.Call (.Name "super" p0) [] [] p1) "__init__" env (eval (.Call (.Name "super" p0) [] [] p1) env)
      standAt apos.atName
      let (f, first) ← holding [ov] (getMethod ov "__init__" pl)
      callWith pos f first (backTo pos (starEach [arg] env)) []) ∧ swapsWith (.Call (.Attribute (.Call (.Name "super" p0) [] [] p1) "__init__" apos) [arg] [] pos) none spos.line env = pure false ∧ interactive env = false ∧ starEach [arg] env = [(false, eval arg env)])
    (hbody : ∀ (A : Around) (outer : List Env) (s : Shared) (H : Hp) (vs : List V) (Q : VK) (E : XK), sp vs H Q E → ∃ (a : Addr) (Mid : Hp → Prop) (ta : TA) (t : TS),
      PA (ncx CX P w K mg base N ⟨name, qual, params, body, scope, [("__class__", cc)], cda⟩ f A outer s H E) [arg] ta ∧ PSs (ncx CX P w K mg base N ⟨name, qual, params, body, scope, [("__class__", cc)], cda⟩ f A outer s H E) rest t ∧
      (startF N vs [some (.ref C)])[0]? = some (some (.ref a)) ∧ H a = some (exo a C none) ∧ ta (startF N vs [some (.ref C)]) H (fun vs H1 => vs.length ≤ 1000 ∧ H1 a = some (exo a C none) ∧ Mid H1) ∧
      ∀ H1, Mid H1 → t { nx := fun _ H' => Q .non H', rt := Q } (startF N vs [some (.ref C)]) H1) :
    FnOk P w K mg base CX (k + 1) f (PySem.W.fnX name qual params body scope [("__class__", cc)] .none kV doc pm an (.ref cda) ct) ps sp := by
  refine ⟨len, fun A outer s H args us vs Q E hr e0 hb r hsp => ?_⟩
  have hl := len _ _ _ _ hsp
  have KX : K.In s.heap := e0.mod.kin.keeps fun b o e => (e0.bs b o e).1
  have lim : s.heap.NoLimit := e0.mod.nolimit.keeps fun b o e => (e0.bs b o e).1
  obtain ⟨cl, cld, csl, hcell⟩ := U.cell
  have one : ∀ {y : Str} {c : Addr}, ([("__class__", cc)] : List (Str × Addr)).lookup y = some c → y = "__class__" ∧ c = cc := fun {y c} h => by
    rw [List.lookup_cons] at h
    cases e : (y == ("__class__" : Str)) with
    | true => rw [e] at h; exact ⟨eq_of_beq e, (Option.some.inj h).symm⟩
    | false => rw [e] at h; cases h
  have cells : CellsAt [("__class__", cc)] ["__class__"] [some (.ref C)] s.heap H := by
    refine ⟨rfl, fun y c h => ?_, fun x y c h1 h2 => (one h1).1.trans (one h2).1.symm, fun i y h => ?_⟩
    · obtain ⟨rfl, rfl⟩ := one h
      exact ⟨(e0.bs _ _ (e0.mod.kin _ _ hcell)).2, _, _, KX _ _ hcell, rfl⟩
    · match i, h with
      | 0, h =>
        obtain rfl : ("__class__" : Str) = y := Option.some.inj h
        exact ⟨cc, rfl, fun v e => ⟨.ref C, by cases e; rfl, _, KX _ _ hcell, rfl⟩⟩
      | i + 1, h => cases h
  obtain ⟨a, Mid, ta, t, hA, hS, h0, ea, hta, ht⟩ := hbody A outer s H vs Q E hsp
  refine ks_codeAny_call_defAt (body := body) (binds := ps.zip us) hr.depth (KX _ _ lk) rfl lim (PySem.W.codeRec_of KX hcd) rfl hb S.nocell (fun ⟨n, _⟩ hy => S.par n (List.of_mem_zip hy).1) (fun h₁ hns kp => ?_) S.co S.gen S.kind
  have I : Inv (ncx CX P w K mg base N ⟨name, qual, params, body, scope, [("__class__", cc)], cda⟩ f A outer s H E) [] (startF N vs [some (.ref C)]) H { s with heap := h₁, toks := s.toks + (ps.zip us).length } := inv_startN S hr.hd e0 hl r cells hns kp
  obtain ⟨pl, hc, hsw, hi, hstar⟩ := hst (envF ⟨name, qual, params, body, scope, [("__class__", cc)], cda⟩ f s.heap.objs.size) _ rfl
  have fin : ∀ {σ' : L2.St} {H' : Hp} {v : V} {u : Value} {s' : Shared}, Inv (ncx CX P w K mg base N ⟨name, qual, params, body, scope, [("__class__", cc)], cda⟩ f A outer s H E) [] σ' H' s' → L2.RelV v u → Q v H' → CE outer P w H s Q u s' :=
    fun {σ' H' v u s'} J rv q => ⟨v, H', J.os, J.bare, J.base, J.hok, rv, q⟩
  have first := super_stmt (X := ncx CX P w K mg base N ⟨name, qual, params, body, scope, [("__class__", cc)], cda⟩ f A outer s H E) (body := body) (Qn := Mid) U T hm rfl rfl rfl hks (S.frk _ (by simp)) hka hN hc hsw hi I h0 ea hA hstar hta
  subst hbd
  refine ks_wpAt_execs_cons (ks_wpAt_mono first (fun fl s1 ⟨e, H1, I1, q1⟩ => ?_) fun _ _ z => z)
  subst e
  refine wpAt_of_wpAny (wpAny_mono (hS.run [] s1 _ H1 _ I1 (ht H1 q1)) (fun fl s' hs => ?_) fun _ _ z => z)
  cases fl with
  | ret u =>
    obtain ⟨v, σ', H', J, rv, q⟩ := hs
    exact fin J rv q
  | next =>
    obtain ⟨σ', H', J, q⟩ := hs
    exact fin (v := V.non) (u := Value.none) J rfl q
  | brk =>
    obtain ⟨_, _, _, q⟩ := hs
    exact False.elim q
  | cont =>
    obtain ⟨_, _, _, q⟩ := hs
    exact False.elim q
end TX
end
section
set_option Elab.async false
set_option maxRecDepth 100000
set_option linter.all false
namespace TX
open PySem PySem.Spec PyProof.Rows L2 NdefX TK
section
variable {CX : CXT} {P : Program} {w : World} {K : PySem.W.Frag} {mg : Str → Option Value} {base : Heap} {f C cc cda : Addr} {kV doc pm ct oc : Value} {an od : Option Addr} {osl : Array (Option Value)} {ar : Arg}
def spUm (C : Addr) : Sp := fun vs H Q _ => ∃ (a : Addr) (v : V), vs = [.ref a, v] ∧ H a = some (exo a C none) ∧ ∀ dx, H dx = none → dx ≠ a → Q .non (upd (upd H dx (exd dx [("marble", v)])) a (exo a C (some dx)))
theorem scUm : NScope ["self", "marble", "__class__"] ["self", "marble"] ["__class__"] (defScope sUnknownMarbleInit) := nscope_by (by decide +kernel)
theorem ok_um (lk : K.lookup f = some ⟨oc, od, .func (PySem.W.fnX "__init__" "UnknownMarble.__init__" (defArgs sUnknownMarbleInit) (defBody sUnknownMarbleInit) (defScope sUnknownMarbleInit) [("__class__", cc)] .none kV doc pm an (.ref cda) ct), osl⟩) (hcd : PySem.W.codeIn K (.ref cda) "UnknownMarble.__init__" = true)
    (U : SupI P K C f cc cda (PySem.W.fnX "__init__" "UnknownMarble.__init__" (defArgs sUnknownMarbleInit) (defBody sUnknownMarbleInit) (defScope sUnknownMarbleInit) [("__class__", cc)] .none kV doc pm an (.ref cda) ct) ar) (har : ar.arg = "self") (T : OexC K C) (hm : mg "super" = none) (hno : PySem.W.findIn K (.ref C) "marble" = some none) :
    FnOk P w K mg base CX 1 f (PySem.W.fnX "__init__" "UnknownMarble.__init__" (defArgs sUnknownMarbleInit) (defBody sUnknownMarbleInit) (defScope sUnknownMarbleInit) [("__class__", cc)] .none kV doc pm an (.ref cda) ct) ["self", "marble"] (spUm C) := by
  refine super_fn (N := ["self", "marble", "__class__"]) (k := 0) lk hcd scUm U T hm rfl (by decide +kernel) (by rw [har]; decide +kernel) (by rw [har]; rfl) (fun vs H Q E h => ?_) (fun env L he => ?_) fun A outer s H vs Q E h => ?_
  · obtain ⟨a, v, rfl, _⟩ := h
    rfl
  · subst he
    exact ⟨_, rfl, rfl, rfl, rfl⟩
  · obtain ⟨a, v, rfl, e, k⟩ := h
    refine ⟨a, fun H1 => H1 = H, _, _, pa_cons pe_str pa_nil, pss_one (ps_ost (pv 0) (pv 1)), rfl, e, ?_, ?_⟩
    · exact ⟨by show 1 ≤ 1000; decide, e, rfl⟩
    · rintro H1 rfl
      exact ⟨_, rfl, _, rfl, a, C, rfl, T, hno, .inl ⟨e, k⟩⟩
end
end TX
end
section
set_option Elab.async false
set_option maxRecDepth 100000
set_option linter.all false
namespace TK
open PySem L2 TM
open TX
section
variable {P : Program} {w : World} {K : PySem.W.Frag} {mg : Str → Option Value} {base : Heap} {C fT : Addr} {fdT : FuncData}
/-- a value that is no text -/
def NoText (K : PySem.W.Frag) (H : Hp) (x : V) : Prop := ∃ ty, TyX K H x (.type ty) ∧ kitB ty "str" = some false
/-- what is written of an exception class of the program -/
structure ExcT (K : PySem.W.Frag) (mg : Str → Option Value) (x : Str) (CE fE : Addr) : Prop where
  ox : OexC K CE
  mgE : mg x = some (.ref CE)
  iE : PySem.W.findIn K (.ref CE) "__init__" = some (some (.ref fE))
  tE : PySem.W.typeIn K (.ref fE) = some (.type "function")
end
end TK
end
namespace TX
end TX
namespace TA
end TA
section
set_option Elab.async false
set_option maxRecDepth 100000
set_option linter.all false
namespace TA
open TK
open PySem PySem.Spec PyProof.Rows L2
/-- a sequence at a: a list, a tuple -/
inductive Sq (K : PySem.W.Frag) (H : Hp) (a : Addr) (xs : List V) : Bool → Prop where
  | lst (h : SqL K H a xs) : Sq K H a xs false
  | tup (h : SqT K H a xs) : Sq K H a xs true
def tyN (t : Bool) : String := if t then "tuple" else "list"
theorem sq_ty {K : PySem.W.Frag} {H : Hp} {a : Addr} {xs : List V} {t : Bool} (h : Sq K H a xs t) : TyX K H (.ref a) (.type (tyN t)) := by
  cases h with
  | lst h =>
    rcases h with (h | ⟨o, h⟩) | ⟨o, its, n, h, c, _⟩
    · exact .base (.lst h)
    · exact .base (.frz h)
    · exact .kList h c
  | tup h =>
    rcases h with (h | ⟨o, h⟩) | ⟨o, its, n, h, c, _⟩
    · exact .base (.tup h)
    · exact .fTuple h
    · exact .kTuple h c
theorem seq_kit {K : PySem.W.Frag} (t : Bool) : PySem.W.kitAny K (.type (tyN t)) [.type "tuple", .type "list"] = some true := by
  cases t with
  | true => exact kitAny_cons (b := true) (kit_ty (by decide +kernel)) (fun z => nomatch z) fun _ => rfl
  | false => exact kitAny_cons (b := false) (kit_ty (by decide +kernel)) (fun _ => kitAny_cons (b := true) (kit_ty (by decide +kernel)) (fun z => nomatch z) fun _ => rfl) fun z => nomatch z
theorem tup_kit (t : Bool) : kitB (tyN t) "tuple" = some t := by
  cases t <;> decide +kernel
section
variable {P : Program} {w : World} {K : PySem.W.Frag} {mg : Str → Option Value} {base : Heap}
end
end TA
end
section
set_option Elab.async false
set_option maxRecDepth 100000
set_option maxHeartbeats 4000000
set_option linter.all false
namespace TB
open PySem PySem.Spec PyProof.Rows L2
section
variable {X : Cx} {CX : CXT} {n : Nat} {C g : Addr} {sp : Sp} {E : XK}
/-- a op y, y an instance of the class at C or a value of the built-in type T -/
def rCmpOwn (K : PySem.W.Frag) (C : Addr) (sp : Sp) (E : XK) : R2 := fun x y H Q => ∃ a dx fs, x = .ref a ∧ H a = some (.ins C dx fs) ∧
  ((∃ b dy gs, y = .ref b ∧ H b = some (.ins C dy gs)) ∨ ∃ T, (∀ u, RelV y u → typeOf u = pure (.type T)) ∧ PySem.W.notFirst K C (.type T) = true) ∧ sp [x, y] H Q E
theorem op_cmpOwn {op : CmpOp} (hop : ∀ a b, compareOp op a b = richCompare op a b) (hs : PySem.W.findIn X.K (.ref C) (cmpInfo op).2.1 = some (some (.ref g))) (hf : PySem.W.isFn X.K (.ref g) = true) (F : FnR X.prog X.w X.K X.mg X.base CX n g sp)
    (hr : Room n X.A) (hx : Passes CX X E) : OpR X (compareOp op) (rCmpOwn X.K C sp E) := by
  intro pins s σ H x y v u Q I rx ry h
  obtain ⟨a, dx, fs, rfl, ha, hy, q⟩ := h
  cases (show v = Value.ref a from rx)
  obtain ⟨mA, O, _⟩ := ins_get I.hok ha
  obtain ⟨od, J, _⟩ := O.look
  obtain ⟨m, hF⟩ := I.fr
  obtain ⟨tb, hb, hn⟩ : ∃ tb, PySem.W.Looks (model X.prog X.w) s.heap (typeOf u) tb ∧ PySem.W.notFirst X.K C tb = true := by
    rcases hy with ⟨b, dy, gs, rfl, hb⟩ | ⟨T, ht, hn⟩
    · cases (show u = Value.ref b from ry)
      obtain ⟨mB, O', _⟩ := ins_get I.hok hb
      obtain ⟨od', J', _⟩ := O'.look
      exact ⟨.ref C, J'.type, by simp [PySem.W.notFirst]⟩
    · exact ⟨.type T, PySem.W.Looks.of_pure (ht _ ry), hn⟩
  rw [hop]
  refine PySem.W.cmp_K (op := op) (tb := tb) hr.units0 hF I.ok.mod.kin J hb hn hs hf ?_
  refine wpAny_mono (wpAny_call (run_fnR (us := [.ref a, u]) (vs := [.ref a, y]) F hr hx I (.cons rfl (.cons ry .nil)) q)) (fun w s' z => ?_) fun _ _ x => x
  obtain ⟨z', H', I', rz, qz⟩ := z
  exact SlX.cmpback rz ⟨z', H', I', rz, qz⟩
end
end TB
end
namespace TB
end TB
namespace TA
end TA
section
set_option Elab.async false
set_option maxRecDepth 100000
set_option linter.all false
namespace TA
open TK
open PySem PySem.Spec PyProof.Rows L2 LamX TX TK TM TB
def isN : V → Int → Bool
  | .int i, l => decide (0 ≤ i) && decide (i ≤ l)
  | _, _ => false
/-- what isinstance says of a value -/
structure Kn (K : PySem.W.Frag) (H : Hp) (x : V) (ty : String) (bb bi : Bool) : Prop where
  t : TyX K H x (.type ty)
  b : kitB ty "bool" = some bb
  i : kitB ty "int" = some bi
  yes : bb = false → bi = true → ∃ i, x = .int i
  no : bb = true ∨ bi = false → ∀ i, x ≠ .int i
theorem kn_int {K : PySem.W.Frag} {H : Hp} (i : Int) : Kn K H (.int i) "int" false true := ⟨.base (.int i), by decide +kernel, by decide +kernel, fun _ _ => ⟨i, rfl⟩, fun h => by rcases h with h | h <;> cases h⟩
structure TxtN (K : PySem.W.Frag) (mg : Str → Option Value) : Prop where
  isi : mg "isinstance" = none
  bool : mg "bool" = none
  int : mg "int" = none
section
variable {P : Program} {w : World} {K : PySem.W.Frag} {mg : Str → Option Value} {base : Heap} {C fT : Addr} {fdT : FuncData}
theorem scNu : FnScope ["value", "limit"] ["value", "limit"] (defScope sIsNumber) := ⟨rfl, rfl, rfl, by decide +kernel, rfl, by decide +kernel, by decide +kernel⟩
def spNum (K : PySem.W.Frag) : Sp := fun vs H Q _ => ∃ (x : V) (l : Int) (ty : String) (bb bi : Bool), vs = [x, .int l] ∧ Kn K H x ty bb bi ∧ Q (.bl (isN x l)) H
theorem ok_num {f : Addr} {fd : FuncData} (F : Fun K "is_number" "is_number" sIsNumber f fd) (T : TxtN K mg) : FnOk P w K mg base CX0 1 f fd ["value", "limit"] (spNum K) := by
  refine F.ok scNu (fun vs H Q E h => ?_) (fun cdv A outer s H vs Q E hr h => ?_)
  · obtain ⟨x, l, ty, bb, bi, rfl, _⟩ := h
    rfl
  · obtain ⟨x, l, ty, bb, bi, rfl, N, k⟩ := h
    refine ⟨_, pss_cons (ps_if (PW.pt (pw_or (pt_val (pe_callB call_isi (by rfl) T.isi (by decide +kernel) (pa_cons (pv 0) (pa_cons (pe_bltn (v := .ty "bool") (by rfl) T.bool (by decide +kernel) rfl) pa_nil))))
        (pw_or1 (pt_not (pt_val (pe_callB call_isi (by rfl) T.isi (by decide +kernel) (pa_cons (pv 0) (pa_cons (pe_bltn (v := .ty "int") (by rfl) T.int (by decide +kernel) rfl) pa_nil)))))))) (pss_one (ps_ret pe_bl)) pss_nil)
      (pss_one (ps_ret (pe_chain op_le op_le pe_int (pv 0) (pv 1)))), ?_⟩
    refine ⟨_, rfl, _, _, _, _, bb, rfl, .ty _, N.t, kit_ty N.b, bb, rfl, ?_⟩
    cases bb with
    | true =>
      refine iteT ?_
      have e : isN x l = false := by
        have h := N.no (.inl rfl)
        cases x with
        | int i => exact absurd rfl (h i)
        | _ => rfl
      rw [e] at k
      exact k
    | false =>
      refine iteF ⟨_, rfl, _, _, _, _, bi, rfl, .ty _, N.t, kit_ty N.i, bi, rfl, ?_⟩
      cases bi with
      | false =>
        refine iteT ?_
        have e : isN x l = false := by
          have h := N.no (.inr rfl)
          cases x with
          | int i => exact absurd rfl (h i)
          | _ => rfl
        rw [e] at k
        exact k
      | true =>
        obtain ⟨i, rfl⟩ := N.yes rfl rfl
        refine iteF ?_
        refine ⟨_, rfl, _, _, rfl, rfl, _, rfl, ?_⟩
        by_cases h0 : (0 : Int) ≤ i
        · rw [decide_eq_true h0]
          refine iteT ⟨_, rfl, _, _, rfl, rfl, ?_⟩
          have e : isN (.int i) l = decide (i ≤ l) := by
            show (decide (0 ≤ i) && decide (i ≤ l)) = _
            rw [decide_eq_true h0, Bool.true_and]
          rw [e] at k
          exact k
        · rw [decide_eq_false h0]
          refine iteF ?_
          have e : isN (.int i) l = false := by
            show (decide (0 ≤ i) && decide (i ≤ l)) = _
            rw [decide_eq_false h0, Bool.false_and]
          rw [e] at k
          exact k
end
end TA
end
namespace TA
end TA
section
set_option Elab.async false
set_option maxRecDepth 100000
set_option linter.all false
namespace TA
open TK
open PySem PySem.Spec PyProof.Rows L2 LamX TX TK TM TB
/-- an own exception class that is made with a text -/
structure ExN (K : PySem.W.Frag) (mg : Str → Option Value) (x : Str) (CE : Addr) : Prop where
  q : PySem.W.excIn K CE [.type "ValueError", .type "Exception", .type "BaseException", .type "object"] "ValueError.__new__" = true
  g : mg x = some (.ref CE)
  k : PySem.W.keepIn K (.ref CE) = true
  s : PySem.W.subIn K (.ref CE) (.type "BaseException") = some true
  t : PySem.W.typeIn K (.ref CE) = some (.type "type")
section
variable {P : Program} {w : World} {K : PySem.W.Frag} {mg : Str → Option Value} {base : Heap} {C CN fU : Addr} {fdU : FuncData}
end
end TA
end
namespace TB
end TB
namespace TA
end TA
namespace TA
end TA
namespace TA
end TA
namespace TA
end TA
section
set_option Elab.async false
set_option maxRecDepth 100000
set_option linter.all false
namespace TB
open PySem PySem.Spec PyProof.Rows L2 TK
theorem call_list_txt {X : Cx} (hc : X.calm = true) : CallR X (.type "list") (fun xs H Q => ∃ t : List Nat, xs = [.str (S t)] ∧ t.length ≤ 1000 ∧ ∀ l, H l = none → Q (.ref l) (upd H l (.lst (t.map sg)))) := by
  intro pins s σ H xs us Q I r h
  obtain ⟨t, rfl, ht, q⟩ := h
  obtain ⟨u, rfl, rx⟩ := r.one
  obtain ⟨a, rfl⟩ := (show ∃ a, u = Value.str (S t) a from rx)
  refine call_list_str (I.ok.hd hc) (S t) a (fun h' tk acc c' kp e it => ?_) (by rw [S_size]; show _ ≤ 16777216; omega)
  have hsz : acc.toList.length = t.length := by
    have := it.1
    rw [S_size] at this
    simpa using this
  have rv : Vals (t.map sg) acc.toList := TH.sgn_vals _ _ hsz fun k c hk => by
    have hlt : k < acc.size := by
      have := (List.getElem?_eq_some_iff.mp hk).1
      have e2 : acc.toList.length = acc.size := by simp
      omega
    obtain ⟨c2, u2, h1, h2⟩ := it.2 k acc[k] (by simp [hlt])
    rw [S_at, hk] at h1
    cases h1
    exact ⟨u2, by rw [← h2]; simp [hlt]⟩
  exact ⟨.ref s.heap.objs.size, _, I.laid (t' := tk) kp (Nat.le_refl _) (show ObjOk X.prog X.w _ h' _ (.lst (t.map sg)) from ⟨by rw [List.length_map]; show _ ≤ 16777216; omega, acc.toList, c', rv, by simpa using e⟩), rfl, q _ (I.hok.fresh (Nat.le_refl _))⟩
end TB
end
namespace TM
end TM
section
set_option maxHeartbeats 4000000
set_option linter.all false
namespace TM
def cell (G : Grid) (i j : Nat) : Nat := (G.getD i []).getD j 0
def putc (G : Grid) (i j v : Nat) : Grid := G.set i ((G.getD i []).set j v)
theorem getD_at {G : Grid} {i : Nat} (h : i < G.length) : G[i]? = some (G.getD i []) := by
  rw [List.getD_eq_getElem?_getD, List.getElem?_eq_getElem h]
  rfl
theorem getD_len {h w i : Nat} {G : Grid} (R : Rect h w G) (hi : i < h) : (G.getD i []).length = w := R.2 _ (List.mem_of_getElem? (getD_at (by rw [R.1]; exact hi)))
theorem put_rect {h w i j v : Nat} {G : Grid} (R : Rect h w G) : Rect h w (putc G i j v) := by
  by_cases q : i < G.length
  · refine ⟨by unfold putc; rw [List.length_set]; exact R.1, fun r hr => ?_⟩
    unfold putc at hr
    rcases List.mem_or_eq_of_mem_set hr with h1 | h1
    · exact R.2 r h1
    · subst h1
      rw [List.length_set]
      exact R.2 _ (List.mem_of_getElem? (getD_at q))
  · have : putc G i j v = G := by unfold putc; exact List.set_eq_of_length_le (by omega)
    rw [this]
    exact R
theorem getD_set_same {α : Type} {l : List α} {i : Nat} {x d : α} (h : i < l.length) : (l.set i x).getD i d = x := by
  rw [List.getD_eq_getElem?_getD, List.getElem?_set_self h]
  rfl
/-- along a column: the grid turned -/
theorem tr_cell {h w i j : Nat} {G : Grid} (R : Rect h w G) (hi : i < h) (hj : j < w) : cell (tr w G) j i = cell G i j := by
  unfold cell
  rw [List.getD_eq_getElem?_getD (l := tr w G), tr_get hj]
  show (G.map fun r => r.getD j 46).getD i 0 = _
  rw [List.getD_eq_getElem?_getD, List.getElem?_map, getD_at (by rw [R.1]; exact hi)]
  show (G.getD i []).getD j 46 = _
  have hl := getD_len R hi
  generalize G.getD i [] = l at hl ⊢
  rw [List.getD_eq_getElem?_getD, List.getD_eq_getElem?_getD, List.getElem?_eq_getElem (show j < l.length by omega)]
  rfl
theorem cell_ext {h w : Nat} {A B : Grid} (RA : Rect h w A) (RB : Rect h w B) (e : ∀ i j, i < h → j < w → cell A i j = cell B i j) : A = B := by
  refine List.ext_getElem? fun i => ?_
  by_cases hi : i < h
  · rw [getD_at (by rw [RA.1]; exact hi), getD_at (by rw [RB.1]; exact hi)]
    refine congrArg some (List.ext_getElem? fun j => ?_)
    have la := getD_len RA hi
    have lb := getD_len RB hi
    by_cases hj : j < w
    · have := e i j hi hj
      unfold cell at this
      rw [List.getD_eq_getElem?_getD, List.getD_eq_getElem?_getD (l := B.getD i []), List.getElem?_eq_getElem (show j < (A.getD i []).length by omega), List.getElem?_eq_getElem (show j < (B.getD i []).length by omega)] at this
      rw [List.getElem?_eq_getElem (show j < (A.getD i []).length by omega), List.getElem?_eq_getElem (show j < (B.getD i []).length by omega)]
      exact congrArg some this
    · rw [List.getElem?_eq_none_iff.mpr (show (A.getD i []).length ≤ j by omega), List.getElem?_eq_none_iff.mpr (show (B.getD i []).length ≤ j by omega)]
  · rw [List.getElem?_eq_none_iff.mpr (by have := RA.1; omega), List.getElem?_eq_none_iff.mpr (by have := RB.1; omega)]
theorem put_cell {h w i j v i' j' : Nat} {G : Grid} (R : Rect h w G) (hi : i < h) (hj : j < w) (hi' : i' < h) (hj' : j' < w) : cell (putc G i j v) i' j' = if i' = i ∧ j' = j then v else cell G i' j' := by
  have hG : i < G.length := by rw [R.1]; exact hi
  have hl := getD_len R hi
  unfold cell putc
  by_cases e : i' = i
  · subst e
    rw [getD_set_same hG]
    by_cases e2 : j' = j
    · subst e2
      rw [if_pos ⟨rfl, rfl⟩, getD_set_same (by omega)]
    · rw [if_neg fun z => e2 z.2, List.getD_eq_getElem?_getD (l := List.set _ _ _), List.getElem?_set_ne (fun z => e2 z.symm), ← List.getD_eq_getElem?_getD]
  · rw [if_neg fun z => e z.1, List.getD_eq_getElem?_getD (l := G.set i _), List.getElem?_set_ne (fun z => e z.symm), ← List.getD_eq_getElem?_getD]
theorem map_rect {h w : Nat} {f : List Nat → List Nat} {G : Grid} (R : Rect h w G) (hf : ∀ l, (f l).length = l.length) : Rect h w (G.map f) := by
  refine ⟨by rw [List.length_map]; exact R.1, fun r hr => ?_⟩
  obtain ⟨l, hl, rfl⟩ := List.mem_map.mp hr
  rw [hf]
  exact R.2 l hl
end TM
end
section
set_option Elab.async false
set_option maxRecDepth 100000
set_option linter.all false
namespace TU
open PySem L2 TM TK TB
open PySem.Spec PyProof.Rows TH
/-- the cells at D, its rows at ds -/
def CellsAt (H : Hp) (D : Addr) (ds : List Addr) (G : Grid) : Prop := H D = some (.lst (ds.map V.ref)) ∧ ds.length = G.length ∧ ∀ i a, ds[i]? = some a → H a = some (.lst ((G.getD i []).map sg))
theorem CellsAt.row {H : Hp} {D a : Addr} {ds : List Addr} {G : Grid} {i : Nat} (h : CellsAt H D ds G) (e : ds[i]? = some a) : H a = some (.lst ((G.getD i []).map sg)) := h.2.2 i a e
theorem CellsAt.same {H H' : Hp} {D : Addr} {ds : List Addr} {G : Grid} (h : CellsAt H D ds G) (s : Same H H') : CellsAt H' D ds G := ⟨s _ _ h.1, h.2.1, fun i a e => s _ _ (h.2.2 i a e)⟩
theorem CellsAt.put {H : Hp} {D a : Addr} {ds : List Addr} {G : Grid} {i j v : Nat} (h : CellsAt H D ds G) (nd : ds.Nodup) (hD : D ∉ ds) (e : ds[i]? = some a) : CellsAt (upd H a (.lst (((G.getD i []).set j v).map sg))) D ds (putc G i j v) := by
  have ha : a ∈ ds := List.mem_of_getElem? e
  have hi : i < G.length := by rw [← h.2.1]; exact (List.getElem?_eq_some_iff.mp e).1
  refine ⟨by rw [upd_ne (fun z => hD (by rw [z]; exact ha))]; exact h.1, by unfold putc; rw [List.length_set]; exact h.2.1, fun k b hb => ?_⟩
  unfold putc
  by_cases q : k = i
  · subst q
    rw [e] at hb
    cases hb
    rw [upd_same, getD_set_same hi]
  · have hab : b ≠ a := fun z => by
      subst z
      have h1 := (List.getElem?_eq_some_iff.mp e)
      have h2 := (List.getElem?_eq_some_iff.mp hb)
      obtain ⟨l1, e1⟩ := h1
      obtain ⟨l2, e2⟩ := h2
      have pw := List.pairwise_iff_getElem.mp nd
      rcases Nat.lt_or_gt_of_ne q with q | q
      · exact pw k i l2 l1 q (e2.trans e1.symm)
      · exact pw i k l1 l2 q (e1.trans e2.symm)
    rw [upd_ne hab, h.2.2 k b hb, List.getD_eq_getElem?_getD (l := G.set i _), List.getElem?_set_ne (fun z => q z.symm), ← List.getD_eq_getElem?_getD]
section
variable {P : Program} {w : World} {K : PySem.W.Frag} {mg : Str → Option Value} {base : Heap}
end
end TU
end
section
set_option Elab.async false
set_option maxRecDepth 100000
set_option linter.all false
namespace TU
open PySem L2 TM TK TB
open PySem.Spec PyProof.Rows TH
section
variable {X : Cx} {n : Nat}
theorem pen_callB {id : String} {r : List V → Hp → VK → Prop} {x : Str} {e : Expr} {es : List Expr} {t : TA} {p pos : Pos} (hc : CallR X (.builtin id) r) (hg : Gl X x) (hm : X.mg x = none) (hv : bootBuiltins x = some (.builtin id)) (ha : PAn n X (e :: es) t) (hne : x ≠ "__name__" := by decide) (hdb : (x == ("__debug__" : Str)) = false := by decide)
    (he : starEach (e :: es) X.env = (false, eval e X.env) :: starEach es X.env := by rfl) (hpl : (backTo pos (starEach es X.env)).any (·.1) = false := by rfl) : PEn n X (.Call (.Name x p) (e :: es) [] pos) (tCB r t) := by
  intro pins s σ H Q hn I h
  refine wpAny_Call_Name_kw (ld_blt I hg hm hv ?_ hne hdb)
  exact PyProof.Rows.callWith_builtin1 (thn (ha pos pins s σ H _ hn I h) fun us s1 ⟨vs, H1, I1, r1, q1⟩ => hc pins s1 σ H1 vs us Q I1 r1 q1) he hpl
end
section
variable {P : Program} {w : World} {K : PySem.W.Frag} {mg : Str → Option Value} {base : Heap} {fT : Addr} {fdT : FuncData}
end
end TU
end
section
set_option maxHeartbeats 4000000
set_option linter.all false
namespace TM
/-- other signs for the marbles -/
structure Sig (f : Nat → Nat) : Prop where
  z : f 46 = 46
  nz : ∀ c, c ≠ 46 → f c ≠ 46
abbrev rel (f : Nat → Nat) (g : Grid) : Grid := g.map (List.map f)
theorem mb_map {f : Nat → Nat} (s : Sig f) : ∀ l : List Nat, mb (l.map f) = (mb l).map f
  | [] => rfl
  | x :: l => by
    by_cases h : x = 46
    · subst h
      have e1 : mb (46 :: l) = mb l := by simp [mb]
      have e2 : mb (f 46 :: l.map f) = mb (l.map f) := by rw [s.z]; simp [mb]
      rw [List.map_cons, e1, e2, mb_map s l]
    · have e1 : mb (x :: l) = x :: mb l := by simp [mb, h]
      have e2 : mb (f x :: l.map f) = f x :: mb (l.map f) := by simp [mb, s.nz x h]
      rw [List.map_cons, e1, e2, mb_map s l, List.map_cons]
theorem sl_map {f : Nat → Nat} (s : Sig f) (b : Bool) (l : List Nat) : sl b (l.map f) = (sl b l).map f := by
  have e := mb_map s l
  have d : ∀ n, dots n = (dots n).map f := fun n => by simp [dots, s.z]
  unfold sl
  rw [e, List.length_map, List.length_map]
  cases b with
  | true => simp only [if_true, List.map_append, ← d]
  | false => simp only [Bool.false_eq_true, if_false, List.map_append, ← d]
theorem lt_rel {f : Nat → Nat} (s : Sig f) (b : Bool) (g : Grid) : LT b (rel f g) = rel f (LT b g) := by
  show (g.map (List.map f)).map (sl b) = (g.map (sl b)).map (List.map f)
  rw [List.map_map, List.map_map]
  exact List.map_congr_left fun l _ => sl_map s b l
theorem tr_rel {f : Nat → Nat} (s : Sig f) (m : Nat) (g : Grid) : tr m (rel f g) = rel f (tr m g) := by
  show (List.range m).map _ = ((List.range m).map _).map (List.map f)
  rw [List.map_map]
  refine List.map_congr_left fun j _ => ?_
  show (g.map (List.map f)).map (fun r => r.getD j 46) = (g.map fun r => r.getD j 46).map f
  rw [List.map_map, List.map_map]
  refine List.map_congr_left fun r _ => ?_
  show (r.map f).getD j 46 = f (r.getD j 46)
  rw [List.getD_eq_getElem?_getD, List.getD_eq_getElem?_getD, List.getElem?_map]
  cases r[j]? with
  | none => exact s.z.symm
  | some x => rfl
theorem tilt_rel {f : Nat → Nat} (s : Sig f) (n m c : Nat) (g : Grid) : tilt n m (rel f g) c = rel f (tilt n m g c) := by
  unfold tilt UT
  split
  · exact lt_rel s _ g
  · rw [tr_rel s, lt_rel s, tr_rel s]
theorem tilts_rel {f : Nat → Nat} (s : Sig f) (n m : Nat) : ∀ (t : List Nat) (g : Grid), tilts n m t (rel f g) = rel f (tilts n m t g)
  | [], _ => rfl
  | c :: t, g => by
    show tilts n m t (tilt n m (rel f g) c) = _
    rw [tilt_rel s, tilts_rel s n m t]
    rfl
theorem snoc_ind {p : List Nat → Prop} (h0 : p []) (hs : ∀ t c, p t → p (t ++ [c])) (t : List Nat) : p t := by
  have : ∀ l : List Nat, p l.reverse := fun l => by
    induction l with
    | nil => exact h0
    | cons c l ih => rw [List.reverse_cons]; exact hs _ c ih
  have h := this t.reverse
  rw [List.reverse_reverse] at h
  exact h
theorem lt_still {a o : Bool} {n m : Nat} {g : Grid} (R : Rect n m g) (h : UT a n m g = g) : UT a n m (LT o g) = LT o g := by
  have := ulu (a := a) (o := o) R
  rw [h] at this
  exact this
theorem ut_still {a o : Bool} {n m : Nat} {g : Grid} (R : Rect n m g) (h : LT a g = g) : LT a (UT o n m g) = UT o n m g := by
  have := lul (a := a) (o := o) R
  rw [h] at this
  exact this
/-- the last tilt along rows, along columns: to the beginning -/
def lastH (t : List Nat) : Option Bool := ((t.filter isH).getLast?).map (· == 108)
def lastV (t : List Nat) : Option Bool := ((t.filter fun c => !isH c).getLast?).map (· == 117)
theorem lastH_snoc (t : List Nat) (c : Nat) : lastH (t ++ [c]) = if isH c then some (c == 108) else lastH t := by
  unfold lastH
  rw [List.filter_append]
  by_cases h : isH c = true
  · rw [if_pos h]; simp [h]
  · rw [if_neg h]; simp [h]
theorem lastV_snoc (t : List Nat) (c : Nat) : lastV (t ++ [c]) = if isH c then lastV t else some (c == 117) := by
  unfold lastV
  rw [List.filter_append]
  by_cases h : isH c = true
  · rw [if_pos h]; simp [h]
  · rw [if_neg h]; simp [h]
theorem tilt_H {n m c : Nat} {g : Grid} (h : isH c = true) : tilt n m g c = LT (c == 108) g := if_pos h
theorem tilt_V {n m c : Nat} {g : Grid} (h : ¬ isH c = true) : tilt n m g c = UT (c == 117) n m g := if_neg h
theorem still {n m : Nat} {g : Grid} (R : Rect n m g) (t : List Nat) : (∀ b, lastH t = some b → LT b (tilts n m t g) = tilts n m t g) ∧ ∀ b, lastV t = some b → UT b n m (tilts n m t g) = tilts n m t g := by
  refine snoc_ind (p := fun t => (∀ b, lastH t = some b → LT b (tilts n m t g) = tilts n m t g) ∧ ∀ b, lastV t = some b → UT b n m (tilts n m t g) = tilts n m t g) ⟨fun b h => by simp [lastH] at h, fun b h => by simp [lastV] at h⟩ (fun t c ih => ?_) t
  · have R2 := tilts_rect t R
    rw [tilts_snoc, lastH_snoc, lastV_snoc]
    by_cases h : isH c = true
    · rw [if_pos h, if_pos h, tilt_H h]
      refine ⟨fun b e => ?_, fun b e => lt_still R2 (ih.2 b e)⟩
      cases e
      exact lt_lt _ _ _
    · rw [if_neg h, if_neg h, tilt_V h]
      refine ⟨fun b e => ut_still R2 (ih.1 b e), fun b e => ?_⟩
      cases e
      exact ut_ut R2
def Bin (g : Grid) : Prop := ∀ r ∈ g, ∀ c ∈ r, c = 46 ∨ c = 97
theorem bin_mb {l : List Nat} (h : ∀ c ∈ l, c = 46 ∨ c = 97) : mb l = List.replicate (mb l).length 97 := by
  refine List.eq_replicate_iff.mpr ⟨rfl, fun c hc => ?_⟩
  have := List.mem_filter.mp hc
  rcases h c this.1 with e | e
  · rw [e] at this; simp at this
  · exact e
theorem bin_rev {s : Bool} {l : List Nat} (hb : ∀ c ∈ l, c = 46 ∨ c = 97) (h : sl s l = l) : sl (!s) l = l.reverse := by
  have e := bin_mb hb
  cases s with
  | true =>
    simp only [sl, if_true] at h
    simp only [sl, Bool.not_true, Bool.false_eq_true, if_false]
    conv => rhs; rw [← h]
    rw [List.reverse_append, e]
    simp [dots]
  | false =>
    simp only [sl, Bool.false_eq_true, if_false] at h
    simp only [sl, Bool.not_false, if_true]
    conv => rhs; rw [← h]
    rw [List.reverse_append, e]
    simp [dots]
abbrev MH (g : Grid) : Grid := g.map List.reverse
theorem lt_mirror {s b : Bool} {g : Grid} (hb : Bin g) (h : LT s g = g) : LT b g = if b = s then g else MH g := by
  by_cases q : b = s
  · rw [if_pos q, q, h]
  · rw [if_neg q]
    have e : b = !s := by cases b <;> cases s <;> simp_all
    subst e
    refine List.map_congr_left fun l hl => bin_rev (hb l hl) ?_
    unfold LT at h
    obtain ⟨i, hi, rfl⟩ := List.mem_iff_getElem.mp hl
    have h2 := congrArg (fun g => g[i]?) h
    simp only [List.getElem?_map, List.getElem?_eq_getElem hi] at h2
    exact Option.some.inj h2
theorem rev_cell {h w i j : Nat} {g : Grid} (R : Rect h w g) (hi : i < h) (hj : j < w) : cell (MH g) i j = cell g i (w - 1 - j) := by
  have hg : i < g.length := by rw [R.1]; exact hi
  have hl := getD_len R hi
  unfold cell
  have e : (MH g).getD i [] = (g.getD i []).reverse := by
    rw [List.getD_eq_getElem?_getD, List.getElem?_map, getD_at hg]
    rfl
  rw [e]
  generalize g.getD i [] = l at hl ⊢
  rw [List.getD_eq_getElem?_getD, List.getElem?_reverse (by omega), List.getD_eq_getElem?_getD, hl]
theorem vrev_cell {h w i j : Nat} {g : Grid} (R : Rect h w g) (hi : i < h) (_hj : j < w) : cell g.reverse i j = cell g (h - 1 - i) j := by
  unfold cell
  rw [List.getD_eq_getElem?_getD (l := g.reverse), List.getElem?_reverse (by rw [R.1]; exact hi), R.1, ← List.getD_eq_getElem?_getD]
theorem mh_rect {h w : Nat} {g : Grid} (R : Rect h w g) : Rect h w (MH g) := map_rect R fun l => List.length_reverse
theorem mv_rect {h w : Nat} {g : Grid} (R : Rect h w g) : Rect h w g.reverse := ⟨by rw [List.length_reverse]; exact R.1, fun r hr => R.2 r (List.mem_reverse.mp hr)⟩
theorem tr_mh {h w : Nat} {g : Grid} (R : Rect h w g) : tr w (MH g) = (tr w g).reverse := by
  refine cell_ext (tr_rect (mh_rect R)) (mv_rect (tr_rect R)) fun i j hi hj => ?_
  rw [tr_cell (mh_rect R) hj hi, rev_cell R hj hi, vrev_cell (tr_rect R) hi hj, tr_cell R hj (by omega)]
theorem tr_mv {h w : Nat} {g : Grid} (R : Rect h w g) : tr w g.reverse = MH (tr w g) := by
  refine cell_ext (tr_rect (mv_rect R)) (mh_rect (tr_rect R)) fun i j hi hj => ?_
  rw [tr_cell (mv_rect R) hj hi, vrev_cell R hj hi, rev_cell (tr_rect R) hi hj, tr_cell R (by omega) hi]
theorem lt_mv (s : Bool) (g : Grid) : LT s g.reverse = (LT s g).reverse := List.map_reverse ..
theorem ut_mh {s : Bool} {h w : Nat} {g : Grid} (R : Rect h w g) : UT s h w (MH g) = MH (UT s h w g) := by
  unfold UT
  rw [tr_mh R, lt_mv, tr_mv (lt_rect (tr_rect R))]
theorem bin_tr {h w : Nat} {g : Grid} (R : Rect h w g) (hb : Bin g) : Bin (tr w g) := by
  intro r hr c hc
  obtain ⟨j, hj, rfl⟩ := List.mem_map.mp hr
  obtain ⟨l, hl, rfl⟩ := List.mem_map.mp hc
  have hj := List.mem_range.mp hj
  have ll := R.2 l hl
  rw [List.getD_eq_getElem?_getD, List.getElem?_eq_getElem (by omega)]
  exact hb l hl _ (List.getElem_mem _)
theorem ut_mirror {s b : Bool} {h w : Nat} {g : Grid} (R : Rect h w g) (hb : Bin g) (hs : UT s h w g = g) : UT b h w g = if b = s then g else g.reverse := by
  have hs' : LT s (tr w g) = tr w g := by
    have e := congrArg (tr w) hs
    unfold UT at e
    rw [tr_tr (lt_rect (tr_rect R))] at e
    exact e
  unfold UT
  rw [lt_mirror (bin_tr R hb) hs']
  by_cases q : b = s
  · rw [if_pos q, if_pos q, tr_tr R]
  · rw [if_neg q, if_neg q, tr_mh (tr_rect R), tr_tr R]
/-- where both kinds of tilts leave a heap of two signs, they do not mind each other -/
theorem lt_ut {v h s b : Bool} {n m : Nat} {g : Grid} (R : Rect n m g) (hb : Bin g) (hv : UT v n m g = g) (hh : LT h g = g) : LT s (UT b n m g) = UT b n m (LT s g) := by
  rw [ut_mirror R hb hv, lt_mirror (b := s) hb hh]
  by_cases q : b = v
  · rw [if_pos q, q]
    by_cases q2 : s = h
    · rw [if_pos q2, q2, hh, hv]
    · rw [if_neg q2, ut_mh R, hv, lt_mirror hb hh, if_neg q2]
  · rw [if_neg q, lt_mv, lt_mirror hb hh]
    by_cases q2 : s = h
    · rw [if_pos q2, ut_mirror R hb hv, if_neg q]
    · rw [if_neg q2, ut_mh R, ut_mirror R hb hv, if_neg q]
      exact (List.map_reverse ..).symm
theorem bin_lt {s : Bool} {g : Grid} (hb : Bin g) : Bin (LT s g) := by
  intro r hr c hc
  obtain ⟨l, hl, rfl⟩ := List.mem_map.mp hr
  have : c = 46 ∨ c ∈ l := by
    cases s with
    | true =>
      rcases List.mem_append.mp hc with h | h
      · exact .inr (List.mem_filter.mp h).1
      · exact .inl (List.mem_replicate.mp h).2
    | false =>
      rcases List.mem_append.mp hc with h | h
      · exact .inl (List.mem_replicate.mp h).2
      · exact .inr (List.mem_filter.mp h).1
  rcases this with h | h
  · exact .inl h
  · exact hb l hl c h
theorem bin_tilt {n m c : Nat} {g : Grid} (R : Rect n m g) (hb : Bin g) : Bin (tilt n m g c) := by
  unfold tilt
  split
  · exact bin_lt hb
  · exact bin_tr (lt_rect (tr_rect R)) (bin_lt (bin_tr R hb))
theorem bin_tilts {n m : Nat} : ∀ (t : List Nat) {g : Grid}, Rect n m g → Bin g → Bin (tilts n m t g)
  | [], _, _, hb => hb
  | _ :: t, _, R, hb => bin_tilts t (tilt_rect R) (bin_tilt R hb)
theorem goes {v h : Bool} {n m : Nat} {g : Grid} (R : Rect n m g) (hb : Bin g) (hv : UT v n m g = g) (hh : LT h g = g) (t : List Nat) : tilts n m t g = UT ((lastV t).getD v) n m (LT ((lastH t).getD h) g) := by
  refine snoc_ind (p := fun t => tilts n m t g = UT ((lastV t).getD v) n m (LT ((lastH t).getD h) g)) ?_ (fun t c ih => ?_) t
  · show g = UT v n m (LT h g)
    rw [hh, hv]
  · rw [tilts_snoc, ih, lastH_snoc, lastV_snoc]
    by_cases q : isH c = true
    · rw [if_pos q, if_pos q, tilt_H q]
      show LT (c == 108) _ = UT _ n m (LT (c == 108) g)
      rw [← lt_ut R hb hv hh, lt_lt, lt_ut R hb hv hh]
    · rw [if_neg q, if_neg q, tilt_V q]
      show UT (c == 117) n m _ = UT (c == 117) n m _
      exact ut_ut (lt_rect R)
end TM
end
section
set_option maxHeartbeats 4000000
set_option linter.all false
namespace TM
def occ (c : Nat) : Nat := if c = 46 then 46 else 97
theorem occ_sig : Sig occ := ⟨rfl, fun c h => by unfold occ; rw [if_neg h]; decide⟩
theorem occ_bin (g : Grid) : Bin (rel occ g) := by
  intro r hr c hc
  obtain ⟨l, _, rfl⟩ := List.mem_map.mp hr
  obtain ⟨x, _, rfl⟩ := List.mem_map.mp hc
  unfold occ
  split
  · exact .inl rfl
  · exact .inr rfl
theorem rel_rect {f : Nat → Nat} {n m : Nat} {g : Grid} (R : Rect n m g) : Rect n m (rel f g) := map_rect R fun l => List.length_map ..
theorem lastH_none {t : List Nat} (h : lastH t = none) : ∀ c ∈ t, isH c = false := fun c hc => by
  unfold lastH at h
  rw [Option.map_eq_none_iff, List.getLast?_eq_none_iff, List.filter_eq_nil_iff] at h
  have := h c hc
  simpa using this
theorem lastV_none {t : List Nat} (h : lastV t = none) : ∀ c ∈ t, isH c = true := fun c hc => by
  unfold lastV at h
  rw [Option.map_eq_none_iff, List.getLast?_eq_none_iff, List.filter_eq_nil_iff] at h
  have := h c hc
  simpa using this
theorem all_H {n m : Nat} (g : Grid) (t : List Nat) : (∀ c ∈ t, isH c = true) → tilts n m t g = match lastH t with
    | some b => LT b g
    | none => g := by
  refine snoc_ind (p := fun t => (∀ c ∈ t, isH c = true) → tilts n m t g = match lastH t with
    | some b => LT b g
    | none => g) (fun _ => rfl) (fun t c ih h => ?_) t
  have hc := h c (by simp)
  rw [tilts_snoc, ih fun d hd => h d (List.mem_append_left _ hd), lastH_snoc, if_pos hc, tilt_H hc]
  cases lastH t with
  | none => rfl
  | some b => exact lt_lt _ _ _
theorem all_V {n m : Nat} {g : Grid} (R : Rect n m g) (t : List Nat) : (∀ c ∈ t, isH c = false) → tilts n m t g = match lastV t with
    | some b => UT b n m g
    | none => g := by
  refine snoc_ind (p := fun t => (∀ c ∈ t, isH c = false) → tilts n m t g = match lastV t with
    | some b => UT b n m g
    | none => g) (fun _ => rfl) (fun t c ih h => ?_) t
  have hc : ¬ isH c = true := by rw [h c (by simp)]; exact Bool.false_ne_true
  rw [tilts_snoc, ih fun d hd => h d (List.mem_append_left _ hd), lastV_snoc, if_neg hc, tilt_V hc]
  cases lastV t with
  | none => rfl
  | some b => exact ut_ut R
/-- a second round leaves the shape -/
theorem twice_bin {n m : Nat} {g : Grid} (R : Rect n m g) (hb : Bin g) (t : List Nat) : tilts n m t (tilts n m t g) = tilts n m t g := by
  have S := still R t
  have R2 := tilts_rect t R
  cases eh : lastH t with
  | none =>
    have a := lastH_none eh
    rw [all_V R2 t a, all_V R t a]
    cases lastV t with
    | none => rfl
    | some b => exact ut_ut R
  | some h =>
    cases ev : lastV t with
    | none =>
      have a := lastV_none ev
      rw [all_H _ t a, all_H _ t a, eh]
      exact lt_lt _ _ _
    | some v =>
      have sh := S.1 h eh
      have sv := S.2 v ev
      rw [goes R2 (bin_tilts t R hb) sv sh t, eh, ev]
      show UT v n m (LT h _) = _
      rw [sh, sv]
theorem twice_occ {n m : Nat} {g : Grid} (R : Rect n m g) (t : List Nat) : rel occ (tilts n m t (tilts n m t g)) = rel occ (tilts n m t g) := by
  rw [← tilts_rel occ_sig, ← tilts_rel occ_sig]
  exact twice_bin (rel_rect R) (occ_bin g) t
/-- signs told by places -/
theorem find_sig : ∀ (a b : List Nat), a.map occ = b.map occ → (mb a).Nodup → ∃ f, Sig f ∧ b = a.map f
  | [], [], _, _ => ⟨id, ⟨rfl, fun _ h => h⟩, rfl⟩
  | [], _ :: _, h, _ => by cases h
  | _ :: _, [], h, _ => by cases h
  | x :: a, y :: b, h, nd => by
    rw [List.map_cons, List.map_cons] at h
    injection h with h1 h2
    by_cases hx : x = 46
    · subst hx
      have hy : y = 46 := by
        by_cases q : y = 46
        · exact q
        · unfold occ at h1
          rw [if_pos rfl, if_neg q] at h1
          cases h1
      have e : mb (46 :: a) = mb a := by simp [mb]
      rw [e] at nd
      obtain ⟨f, s, hf⟩ := find_sig a b h2 nd
      exact ⟨f, s, by rw [List.map_cons, s.z, ← hf, hy]⟩
    · have hy : y ≠ 46 := fun q => by
        unfold occ at h1
        rw [if_neg hx, if_pos q] at h1
        cases h1
      have e : mb (x :: a) = x :: mb a := by simp [mb, hx]
      rw [e] at nd
      have nd' := List.nodup_cons.mp nd
      obtain ⟨f, s, hf⟩ := find_sig a b h2 nd'.2
      refine ⟨fun c => if c = x then y else f c, ⟨?_, fun c hc => ?_⟩, ?_⟩
      · show (if 46 = x then y else f 46) = 46
        rw [if_neg (fun z => hx z.symm)]
        exact s.z
      · show (if c = x then y else f c) ≠ 46
        split
        · exact hy
        · exact s.nz c hc
      · rw [List.map_cons]
        show y :: b = (if x = x then y else f x) :: _
        rw [if_pos rfl, hf]
        congr 1
        refine List.map_congr_left fun c hc => ?_
        show f c = if c = x then y else f c
        rw [if_neg]
        intro z
        subst z
        exact nd'.1 (List.mem_filter.mpr ⟨hc, by simp [hx]⟩)
theorem rel_flat {f : Nat → Nat} : ∀ g : Grid, (rel f g).flatten = g.flatten.map f := fun g => (List.map_flatten ..).symm
theorem same_flat {n m : Nat} {a b : Grid} (ha : Rect n m a) (hb : Rect n m b) (e : a.flatten = b.flatten) : a = b := by
  refine List.eq_iff_flatten_eq.mpr ⟨e, ?_⟩
  have h1 : a.map List.length = List.replicate n m := by
    refine List.eq_replicate_iff.mpr ⟨by rw [List.length_map]; exact ha.1, fun x hx => ?_⟩
    obtain ⟨l, hl, rfl⟩ := List.mem_map.mp hx
    exact ha.2 l hl
  have h2 : b.map List.length = List.replicate n m := by
    refine List.eq_replicate_iff.mpr ⟨by rw [List.length_map]; exact hb.1, fun x hx => ?_⟩
    obtain ⟨l, hl, rfl⟩ := List.mem_map.mp hx
    exact hb.2 l hl
  rw [h1, h2]
/-- so many rounds -/
def rounds (n m : Nat) (t : List Nat) : Nat → Grid → Grid
  | 0, g => g
  | k + 1, g => tilts n m t (rounds n m t k g)
/-- the exchange of signs after the first round -/
theorem turn_sig {n m : Nat} {t : List Nat} {g : Grid} (R : Rect n m g) (nd : (mb (tilts n m t g).flatten).Nodup) : ∃ f, Sig f ∧ tilts n m t (tilts n m t g) = rel f (tilts n m t g) := by
  have R2 := tilts_rect t R
  have R3 := tilts_rect t R2
  have e : (tilts n m t g).flatten.map occ = (tilts n m t (tilts n m t g)).flatten.map occ := by
    rw [← rel_flat, ← rel_flat, twice_occ R t]
  obtain ⟨f, s, hf⟩ := find_sig _ _ e nd
  exact ⟨f, s, same_flat R3 (rel_rect R2) (by rw [rel_flat]; exact hf)⟩
theorem rounds_rel {n m : Nat} {t : List Nat} {f : Nat → Nat} {g : Grid} (s : Sig f) (h : tilts n m t (tilts n m t g) = rel f (tilts n m t g)) : ∀ k, rounds n m t (k + 2) g = rel f (rounds n m t (k + 1) g)
  | 0 => h
  | k + 1 => by
    have e := congrArg (tilts n m t) (rounds_rel s h k)
    rw [tilts_rel s] at e
    exact e
end TM
end
section
set_option Elab.async false
set_option maxRecDepth 100000
set_option linter.all false
namespace TW
open PySem L2 TM TK TB TU
open PySem.Spec PyProof.Rows TH
section
variable {X : Cx} {n : Nat}
theorem psn_par {i j : Nat} {x y : Str} {a b : Expr} {ta : TA} {px py pt pos : Pos} {kt k2 pt2} (hc : X.calm = true) (hN : X.N.Nodup) (hi : X.N[i]? = some x) (hj : X.N[j]? = some y) (hij : i ≠ j)
    (hx : X.env.scope.names.lookup x = some .local) (hy : X.env.scope.names.lookup y = some .local) (ha : PAn n X [a, b] ta)
    (hw : swappedStores [.Tuple [.Name x px, .Name y py] kt pt] (.Tuple [a, b] k2 pt2) X.env = pure (some [x, y]))
    (hs : swapsWithSole [.Tuple [.Name x px, .Name y py] kt pt] (.Tuple [a, b] k2 pt2) pos.line X.env = pure false := by rfl) :
    PSn n X (.Assign [.Tuple [.Name x px, .Name y py] kt pt] (.Tuple [a, b] k2 pt2) pos) (tPar i j ta) := by
  intro pins s σ H D hn I h
  rw [exec_Assign_arm]
  refine wpAny_bind (wpAny_standAt ?_)
  rw [hs]
  refine wpAny_bind (wpAny_pure ?_)
  rw [if_neg (by decide)]
  refine wpAny_bind (Tuple_ (thn (ha _ pins s σ H _ hn I h) fun us s1 ⟨vs, H1, I1, r1, q1⟩ => ?_))
  obtain ⟨v, w, e1, q1⟩ := q1
  subst e1
  obtain ⟨u1, u2, rfl, rv, rw'⟩ : ∃ u1 u2, us = [u1, u2] ∧ RelV v u1 ∧ RelV w u2 := by
    cases r1 with
    | cons p q =>
      cases q with
      | cons p' q' =>
        cases q'
        exact ⟨_, _, rfl, p, p'⟩
  refine wpAny_newObj_type ?_ (by show 2 ≤ sizeLine; decide)
  have I2 : Inv X pins σ H1 { s1 with heap := s1.heap.push { cls := .type "tuple", data := .seq [u1, u2].toArray } } := I1.kept (t' := s1.toks) fun b o e => Heap.get?_push_of_some _ e
  rw [hw]
  refine wpAny_bind (wpAny_pure ?_)
  show wpAny (model X.prog X.w) X.A (do rule "assign.swapped-stores"; let items ← unpackItems (.ref s1.heap.objs.size) 2 none; assignInOrder [fun v => bindName X.env y v, fun v => bindName X.env x v] items.reverse; pure Flow.next) _ _ _
  refine wpAny_bind (wpAny_rule (wpAny_bind (unpackItems_tuple (items := #[u1, u2]) (I.ok.hd hc) (IsTup.new s1.heap _) fun h' hx' => ?_)))
  have I3 := I2.kept (h' := h') (t' := s1.toks) fun b o e => hx' b o (Nat.ne_of_lt (Heap.lt_size e)) e
  show wpAny _ _ (assignInOrder [fun v => bindName X.env y v, fun v => bindName X.env x v] [u2, u1] >>= fun _ => pure Flow.next) _ _ _
  refine wpAny_bind (assignInOrder_cons (wpAny_bindName (store_ok I3 hN hj (.inl hy) rw' (fun s2 I4 => ?_) (.inr hy))))
  refine assignInOrder_cons (wpAny_bindName (store_ok I4 hN hi (.inl hx) rv (fun s3 I5 => assignInOrder_nil (wpAny_pure ?_)) (.inr hx)))
  rw [List.set_comm _ _ (Ne.symm hij)] at I5
  exact ⟨_, _, I5, q1⟩
end
theorem eqv_rows : ∀ g g' : Grid, PyData.eqvAll (rowD g) (rowD g') = decide (g = g')
  | [], [] => rfl
  | [], _ :: _ => by simp [PyData.eqvAll]
  | _ :: _, [] => by simp [PyData.eqvAll]
  | x :: g, y :: g' => by
    have e : PyData.eqv (.str (S x)) (.str (S y)) = decide (x = y) := by
      show (S x == S y) = _
      rw [Bool.eq_iff_iff]
      simp [beq_iff_eq]
    show PyData.eqvAll (PyData.str (S x) :: rowD g) (PyData.str (S y) :: rowD g') = _
    rw [PyData.eqvAll, e, eqv_rows g g']
    rw [Bool.eq_iff_iff]
    simp
theorem eqv_tup (g g' : Grid) : PyData.eqv (.tuple (rowD g)) (.tuple (rowD g')) = decide (g = g') := eqv_rows g g'
section
variable {P : Program} {w : World} {K : PySem.W.Frag} {mg : Str → Option Value} {base : Heap} {C D : Addr}
theorem scTe : FnScope ["self", "other"] ["self", "other"] (defScope sTrayEq) := ⟨rfl, rfl, rfl, by decide +kernel, rfl, by decide +kernel, by decide +kernel⟩
def spTe (K : PySem.W.Frag) (D : Addr) : Sp := fun vs H Q _ => ∃ (p q : Addr) (h w h' w' : Nat) (g g' : Grid), vs = [.ref p, .ref q] ∧ TrayAt K D H p g ∧ TrayAt K D H q g' ∧ VG h w g ∧ VG h' w' g' ∧ Q (.bl (decide (g = g'))) H
theorem ok_te {f : Addr} {fd : FuncData} (F : Fun K "__eq__" "Tray.__eq__" sTrayEq f fd) (T : TxtW K mg) (CT : ClsT K mg D) (IC : C8.InsC K D) : FnOk P w K mg base CX0 1 f fd ["self", "other"] (spTe K D) := by
  refine F.ok scTe (fun vs H Q E h => ?_) (fun cdv A outer s H vs Q E hr h => ?_)
  · obtain ⟨p, q, h, w, h', w', g, g', rfl, _⟩ := h
    rfl
  · obtain ⟨p, q, h, w, h', w', g, g', rfl, ⟨dp, ap, hp, hSp⟩, ⟨dq, aq, hq, hSq⟩, V1, V2, k⟩ := h
    refine ⟨_, pss_one (ps_ret (pe_and (pe_callB (C8.call_isC IC) (by rfl) T.isi (by decide +kernel) (pa_cons (pv 1) (pa_cons (pe_glob (v := .ref D) rfl CT.mgC rfl) pa_nil)))
      (pe_one (pe_cmpR (op_eqD hr.units) (pe_fld (pv 0) rfl) (pe_fld (pv 1) rfl) (nomark _))))), ?_⟩
    refine ⟨_, rfl, q, dq, _, rfl, hq, true, rfl, iteT ?_⟩
    refine ⟨_, rfl, p, D, dp, _, _, rfl, hp, CT.cl, CT.nR, rfl, ?_⟩
    refine ⟨_, rfl, q, D, dq, _, _, rfl, hq, CT.cl, CT.nR, rfl, ?_⟩
    refine ⟨_, _, .tup hSp (row_all _), .tup hSq (row_all _), row_shaped V1, row_shaped V2, ?_⟩
    rw [eqv_tup]
    exact k
end
end TW
end
namespace TW
end TW
section
set_option Elab.async false
set_option maxRecDepth 100000
set_option linter.all false
namespace TH
open PySem PySem.Spec PyProof.Rows L2
section
variable {J J1 : It} {n n1 : Nat} {G G1 : Hp → Prop} {Y Y1 : Nat → Hp → V → Hp → Prop}
/-- the inner walk -/
theorem in_it (w : Walk J1 n1 G1 Y1) {g1 : TG} {tt1 : TT} {te : TE} {vs1 : List Nat} {σ2 : L2.St} {H4 : Hp} {D : Addr} {Qe : Hp → Prop} (Pj : Nat → Hp → Prop) (h0 : Pj 0 H4) (hG : ∀ j H, j ≤ n1 → Pj j H → G1 H)
    (hs : ∀ j x H H', j < n1 → Pj j H → Y1 j H x H' → g1 x (wipe σ2 vs1) H' fun σ3 H5 => wipe σ3 vs1 = wipe σ2 vs1 ∧ tt1 σ3 H5 fun b H6 =>
      if b = true then te σ3 H6 fun y H7 => ∃ acc, H7 D = some (.lst acc) ∧ acc.length < sizeLine ∧ Pj (j + 1) (upd H7 D (.lst (acc ++ [y]))) else Pj (j + 1) H6) (hd : ∀ H, Pj n1 H → Qe H) :
    ∃ W1 : Nat → Nat → Hp → Prop, (∃ m, W1 0 m H4) ∧ ∀ j k H, W1 j k H →
      (J1.stop j H ∧ Qe H) ∨ (J1.go j H ∧ ∃ Nx1 : Hp → Prop, (∀ H', Nx1 H' → ∃ k', k' < k ∧ W1 (j + 1) k' H') ∧ ∀ x H', J1.yld j H x H' → g1 x (wipe σ2 vs1) H' fun σ3 H5 => wipe σ3 vs1 = wipe σ2 vs1 ∧ tt1 σ3 H5 fun b H6 =>
        if b = true then te σ3 H6 fun y H7 => ∃ acc, H7 D = some (.lst acc) ∧ acc.length < sizeLine ∧ Nx1 (upd H7 D (.lst (acc ++ [y]))) else Nx1 H6) := by
  refine ⟨fun i m H => m = n1 - i ∧ i ≤ n1 ∧ Pj i H, ⟨n1, by simp, Nat.zero_le _, h0⟩, ?_⟩
  rintro i m H ⟨rfl, hi, p⟩
  have q := hG i H hi p
  by_cases hlt : i < n1
  · exact .inr ⟨w.goes i H hlt q, Pj (i + 1), fun H' p' => ⟨n1 - (i + 1), by omega, rfl, hlt, p'⟩, fun x H' y => hs i x H H' hlt p (w.yields i H x H' hlt q y)⟩
  · have e : i = n1 := by omega
    subst e
    exact .inl ⟨w.stops H q, hd H p⟩
/-- the outer walk -/
theorem lc2_it (w : Walk J n G Y) {g g1 : TG} {tt tt1 : TT} {wi1 : TI} {te : TE} {vs vs1 : List Nat} {σ : L2.St} {H1 : Hp} {D : Addr} {Qd : Hp → Prop} (Pv : Nat → Hp → Prop) (h0 : Pv 0 (upd H1 D (.lst []))) (hG : ∀ i H, i ≤ n → Pv i H → G H)
    (hs : ∀ i x H H', i < n → Pv i H → Y i H x H' → g x (wipe σ vs) H' fun σ2 H2 => wipe σ2 vs = wipe σ vs ∧ tt σ2 H2 fun b H3 =>
      if b = true then wi1 σ2 H3 fun J1 H4 => ∃ W1 : Nat → Nat → Hp → Prop, (∃ m, W1 0 m H4) ∧ ∀ j k H, W1 j k H →
        (J1.stop j H ∧ Pv (i + 1) H) ∨ (J1.go j H ∧ ∃ Nx1 : Hp → Prop, (∀ H', Nx1 H' → ∃ k', k' < k ∧ W1 (j + 1) k' H') ∧ ∀ x H', J1.yld j H x H' → g1 x (wipe σ2 vs1) H' fun σ3 H5 => wipe σ3 vs1 = wipe σ2 vs1 ∧ tt1 σ3 H5 fun b H6 =>
          if b = true then te σ3 H6 fun y H7 => ∃ acc, H7 D = some (.lst acc) ∧ acc.length < sizeLine ∧ Nx1 (upd H7 D (.lst (acc ++ [y]))) else Nx1 H6)
      else Pv (i + 1) H3) (hd : ∀ H, Pv n H → Qd H) :
    ∃ W : Nat → Nat → Hp → Prop, (∃ m, W 0 m (upd H1 D (.lst []))) ∧ ∀ i m H, W i m H →
      (J.stop i H ∧ Qd H) ∨ (J.go i H ∧ ∃ Nx : Hp → Prop, (∀ H', Nx H' → ∃ m', m' < m ∧ W (i + 1) m' H') ∧ ∀ x H', J.yld i H x H' → g x (wipe σ vs) H' fun σ2 H2 => wipe σ2 vs = wipe σ vs ∧ tt σ2 H2 fun b H3 =>
        if b = true then wi1 σ2 H3 fun J1 H4 => ∃ W1 : Nat → Nat → Hp → Prop, (∃ m, W1 0 m H4) ∧ ∀ j k H, W1 j k H →
          (J1.stop j H ∧ Nx H) ∨ (J1.go j H ∧ ∃ Nx1 : Hp → Prop, (∀ H', Nx1 H' → ∃ k', k' < k ∧ W1 (j + 1) k' H') ∧ ∀ x H', J1.yld j H x H' → g1 x (wipe σ2 vs1) H' fun σ3 H5 => wipe σ3 vs1 = wipe σ2 vs1 ∧ tt1 σ3 H5 fun b H6 =>
            if b = true then te σ3 H6 fun y H7 => ∃ acc, H7 D = some (.lst acc) ∧ acc.length < sizeLine ∧ Nx1 (upd H7 D (.lst (acc ++ [y]))) else Nx1 H6)
        else Nx H3) := by
  refine ⟨fun i m H => m = n - i ∧ i ≤ n ∧ Pv i H, ⟨n, by simp, Nat.zero_le _, h0⟩, ?_⟩
  rintro i m H ⟨rfl, hi, p⟩
  have q := hG i H hi p
  by_cases hlt : i < n
  · exact .inr ⟨w.goes i H hlt q, Pv (i + 1), fun H' p' => ⟨n - (i + 1), by omega, rfl, hlt, p'⟩, fun x H' y => hs i x H H' hlt p (w.yields i H x H' hlt q y)⟩
  · have e : i = n := by omega
    subst e
    exact .inl ⟨w.stops H q, hd H p⟩
end
end TH
end
section
set_option Elab.async false
set_option maxRecDepth 100000
set_option linter.all false
namespace TP
open PySem L2 TM TK TH
open PySem.Spec PyProof.Rows
def srt (l : List Nat) : List Nat := l.mergeSort (fun a b => decide (a ≤ b))
theorem srt_perm (l : List Nat) : (srt l).Perm l := List.mergeSort_perm _ _
theorem srt_up (l : List Nat) : (srt l).Pairwise (· ≤ ·) := by
  have := List.pairwise_mergeSort (le := fun a b : Nat => decide (a ≤ b)) (fun a b c h1 h2 => by simp at *; omega) (fun a b => by simp; omega) l
  exact this.imp fun h => by simpa using h
theorem rise : ∀ (zs : List Nat) (p : Nat), risingS (S [p]) (zs.map fun c => S [c]) = true → (p :: zs).Pairwise (· ≤ ·)
  | [], p, _ => by simp
  | x :: r, p, h => by
    have h' : (!ltCps [x] [p] && risingS (S [x]) (r.map fun c => S [c])) = true := h
    rw [Bool.and_eq_true] at h'
    have hpx : p ≤ x := by
      have := h'.1
      simp [ltCps] at this
      omega
    have ih := rise r x h'.2
    refine List.pairwise_cons.mpr ⟨fun y hy => ?_, ih⟩
    rcases List.mem_cons.mp hy with e | e
    · omega
    · have := (List.pairwise_cons.mp ih).1 y e
      omega
theorem sort_uniq {ys : List Str} {l : List Nat} (p : ys.Perm (l.map fun c => S [c])) (s : sortedS ys = true) : ys = (srt l).map fun c => S [c] := by
  obtain ⟨zs, rfl⟩ : ∃ zs : List Nat, ys = zs.map fun c => S [c] := by
    have : ∀ y ∈ ys, ∃ c, y = S [c] := fun y hy => by
      obtain ⟨c, _, rfl⟩ := List.mem_map.mp (p.mem_iff.mp hy)
      exact ⟨c, rfl⟩
    clear p s
    induction ys with
    | nil => exact ⟨[], rfl⟩
    | cons y ys ih =>
      obtain ⟨c, rfl⟩ := this y List.mem_cons_self
      obtain ⟨zs, rfl⟩ := ih fun y hy => this y (List.mem_cons_of_mem _ hy)
      exact ⟨c :: zs, rfl⟩
  have pz : zs.Perm l := by
    have := p.map fun y : Str => y.cps.getD 0 0
    have e : ((fun y : Str => y.cps.getD 0 0) ∘ fun c : Nat => S [c]) = id := funext fun c => rfl
    rw [List.map_map, List.map_map, e, List.map_id, List.map_id] at this
    exact this
  have up : zs.Pairwise (· ≤ ·) := by
    cases zs with
    | nil => exact List.Pairwise.nil
    | cons z zs => exact rise zs z s
  have : zs = srt l := List.Perm.eq_of_pairwise (le := (· ≤ ·)) (fun a b _ _ h1 h2 => by omega) up (srt_up l) (pz.trans (srt_perm l).symm)
  rw [this]
section
variable {P : Program} {w : World} {K : PySem.W.Frag} {mg : Str → Option Value} {base : Heap} {D : Addr} {t0 : Tok}
structure TxtM (K : PySem.W.Frag) (mg : Str → Option Value) : Prop where
  em : ∃ u, mg "EMPTY" = some u ∧ RelV (.str (S [46])) u
  srt : mg "sorted" = none
  len : mg "len" = none
abbrev NMb : List Str := ["self", "row", "cell"]
theorem scMb : FnScope NMb ["self"] (defScope sTrayMarbles) := ⟨rfl, rfl, rfl, by decide +kernel, rfl, by decide +kernel, by decide +kernel⟩
def spMb (K : PySem.W.Frag) (D : Addr) : Sp := fun vs H Q _ => ∃ (p : Addr) (h w : Nat) (g : Grid), vs = [.ref p] ∧ TrayAt K D H p g ∧ VG h w g ∧ ∀ H', Same H H' → Q (.str (S (srt (mb g.flatten)))) H'
theorem nodup_le : ∀ (n : Nat) (l : List Nat), l.Nodup → (∀ c ∈ l, 97 ≤ c ∧ c < 97 + n) → l.length ≤ n
  | 0, l, _, h => by
    cases l with
    | nil => exact Nat.le_refl _
    | cons c l =>
      have := h c List.mem_cons_self
      omega
  | n + 1, l, nd, h => by
    by_cases q : (97 + n) ∈ l
    · have e := List.length_erase_of_mem q
      have ih := nodup_le n (l.erase (97 + n)) (nd.erase _) fun c hc => by
        have := (List.Nodup.mem_erase_iff nd).mp hc
        have h2 := h c this.2
        have := this.1
        omega
      omega
    · have ih := nodup_le n l nd fun c hc => by
        have h2 := h c hc
        have : c ≠ 97 + n := fun z => q (by rw [← z]; exact hc)
        omega
      omega
theorem mb_26 {h w : Nat} {g : Grid} (V : VG h w g) : (mb g.flatten).length ≤ 26 := by
  have sub : ∀ c ∈ mb g.flatten, 97 ≤ c ∧ c < 123 := fun c hc => by
    have := List.mem_filter.mp hc
    obtain ⟨r, hr, hcr⟩ := List.mem_flatten.mp this.1
    have h2 := V.ok r hr c hcr
    rcases h2 with h2 | h2
    · subst h2; simp at this
    · exact ⟨by omega, by omega⟩
  exact nodup_le 26 _ V.nd sub
theorem ok_mb {f : Addr} {fd : FuncData} (F : Fun K "marbles" "Tray.marbles" sTrayMarbles f fd) (T : TxtM K mg) (CT : ClsT K mg D) : FnOk P w K mg base CX0 1 f fd ["self"] (spMb K D) := by
  refine F.ok scMb (fun vs H Q E h => ?_) (fun cdv A outer s H vs Q E hr h => ?_)
  · obtain ⟨p, h, w, g, rfl, _⟩ := h
    rfl
  · obtain ⟨p, h, w, g, rfl, ⟨dx, a, hp, hS⟩, hV, k⟩ := h
    have nd := scMb.nd
    refine ⟨_, pss_one (ps_ret (pe_join pe_str (pe_callB cr_sortedS (by rfl) T.srt (by decide +kernel) (pa_cons (pe_lc2 (own := [("row", 1), ("cell", 2)]) (vs1 := [2]) (g := gName 1) (g1 := gName 2) (tt := tYes) rfl nd (pi_tup (pe_fld (pv 0) rfl)) (blkOk_by (N := NMb) (sc := defScope sTrayMarbles) (by decide +kernel)) (by decide)
      (fun _ _ _ _ _ => pg_name (i := 1) nd rfl (.inl rfl)) (fun _ _ _ _ _ => pts_nil) (fun _ _ _ _ _ => pi_str (pv 1)) (fun _ _ _ _ _ => pg_name (i := 2) nd rfl (.inl rfl)) (fun _ _ _ _ _ => pts_one (pt_cmpR op_ne (pv 2) (C8.pe_gc rfl T.em) (nomark _))) (fun _ _ _ _ _ => pv 2)) pa_nil)))), ?_⟩
    refine ⟨⟨_, rfl⟩, _, rfl, p, D, dx, _, _, rfl, hp, CT.cl, CT.nR, rfl, a, rfl, ⟨_, hS⟩, fun E2 hE2 => lc2_it walk_tup (fun i H1 => Same H H1 ∧ H1 E2 = some (.lst ((mb (g.take i).flatten).map sg)))
      ⟨same_new hE2, upd_same⟩ (fun i H1 _ ⟨sm, _⟩ => sm.tup hS) ?_ ?_⟩
    · rintro i x Hz H1 hi ⟨sm, hL⟩ ⟨rfl, hx⟩
      obtain ⟨r, hri, rfl⟩ := at_map hx
      have et : ((g.take (i + 1)).flatten) = (g.take i).flatten ++ r := by
        rw [List.take_add_one, hri, List.flatten_append]
        simp
      refine ⟨rfl, _, rfl, S r, rfl, in_it (walk_str (z := S r)) (fun j H2 => Same H H2 ∧ H2 E2 = some (.lst ((mb (g.take i).flatten ++ mb (r.take j)).map sg))) ⟨sm, by rw [hL]; simp [mb]⟩ (fun _ _ _ _ => True.intro) ?_ ?_⟩
      · rintro j x Hz H2 hj ⟨sm2, hL2⟩ ⟨rfl, c, hc, rfl⟩
        rw [S_at] at hc
        have et2 : mb (r.take (j + 1)) = mb (r.take j) ++ if c = 46 then [] else [c] := by
          rw [List.take_add_one, hc]
          show mb (r.take j ++ [c]) = _
          rw [mb_app]
          by_cases q : c = 46
          · subst q; rfl
          · rw [if_neg q]; simp [mb, q]
        have hlen : (mb (g.take i).flatten ++ mb (r.take j)).length ≤ 1000 := by
          have h1 := mb_le (g.take i).flatten
          have h2 := mb_le (r.take j)
          have h3 : (g.take i).flatten.length ≤ g.flatten.length := by
            have : (g.take i).flatten ++ (g.drop i).flatten = g.flatten := by rw [← List.flatten_append, List.take_append_drop]
            rw [← this, List.length_append]
            omega
          have h4 : g.flatten.length = h * w := by
            rw [List.length_flatten]
            have : g.map List.length = List.replicate h w := List.eq_replicate_iff.mpr ⟨by rw [List.length_map]; exact hV.rc.1, fun x hx => by
              obtain ⟨l, hl, rfl⟩ := List.mem_map.mp hx
              exact hV.rc.2 l hl⟩
            rw [this]
            simp
          have h5 : h * w ≤ 64 := Nat.mul_le_mul hV.n8 hV.m8
          have h6 := hV.row (List.mem_of_getElem? hri)
          rw [List.length_take] at h2
          rw [List.length_append]
          omega
        refine ⟨rfl, _, rfl, rfl, _, rfl, ?_⟩
        rw [show (!decide (V.str (⟨#[c]⟩ : Str) = V.str (S [46]))) = !(c == 46) from congrArg _ (dL c 46)]
        by_cases q : c = 46
        · rw [beq_iff_eq.mpr q]
          refine iteF ⟨sm2, ?_⟩
          rw [hL2, et2, if_pos q, List.append_nil]
        · rw [beq_eq_false_iff_ne.mpr q]
          refine iteT ⟨_, rfl, _, hL2, ?_, same_put sm2 hE2, ?_⟩
          · rw [List.length_map]
            show _ < 16777216
            omega
          · rw [upd_same, et2, if_neg q, ← List.append_assoc, List.map_append (l₂ := [c])]
            rfl
      · rintro H2 ⟨sm2, hL2⟩
        rw [S_size, List.take_length] at hL2
        refine ⟨sm2, ?_⟩
        rw [hL2, et, mb_app]
    · rintro H1 ⟨sm, hL⟩
      rw [List.length_map, List.take_length] at hL
      have h26 := mb_26 hV
      refine ⟨E2, (mb g.flatten).map fun c => S [c], rfl, ?_, ?_, fun ys z pm st hz => ?_⟩
      · rw [List.map_map]
        exact SqL.of hL
      · rw [List.length_map]
        omega
      · have e := sort_uniq pm st
        subst e
        have l26 : (srt (mb g.flatten)).length ≤ 26 := by rw [(srt_perm _).length_eq]; exact h26
        refine ⟨_, z, (srt (mb g.flatten)).map fun c => S [c], rfl, rfl, .inl (SqL.of upd_same), ?_, ?_⟩
        · rw [sum_ones, List.length_map]
          show _ + _ * 0 ≤ _
          omega
        · rw [join_signs]
          exact k _ (sm.trans (same_new hz))
theorem scHt : FnScope ["self"] ["self"] (defScope sTrayHeight) := ⟨rfl, rfl, rfl, by decide +kernel, rfl, by decide +kernel, by decide +kernel⟩
theorem scWd : FnScope ["self"] ["self"] (defScope sTrayWidth) := ⟨rfl, rfl, rfl, by decide +kernel, rfl, by decide +kernel, by decide +kernel⟩
def spHt (K : PySem.W.Frag) (D : Addr) : Sp := fun vs H Q _ => ∃ (p : Addr) (h w : Nat) (g : Grid), vs = [.ref p] ∧ TrayAt K D H p g ∧ VG h w g ∧ Q (.int (h : Nat)) H
def spWd (K : PySem.W.Frag) (D : Addr) : Sp := fun vs H Q _ => ∃ (p : Addr) (h w : Nat) (g : Grid), vs = [.ref p] ∧ TrayAt K D H p g ∧ VG h w g ∧ Q (.int (w : Nat)) H
theorem row0 {h w : Nat} {g : Grid} (G : VG h w g) : ∃ r0, atI (rowV g) ((0 : Nat) : Int) = some (V.str (S r0)) ∧ r0.length = w ∧ r0 ∈ g := by
  have hg : 0 < g.length := by rw [G.rc.1]; exact G.n1
  have e : g[0]? = some g[0] := List.getElem?_eq_getElem hg
  exact ⟨g[0], atI_nat (by rw [List.getElem?_map, e]; all_goals rfl), G.rc.2 _ (List.getElem_mem hg), List.getElem_mem hg⟩
theorem ok_ht {f : Addr} {fd : FuncData} (F : Fun K "height" "Tray.height" sTrayHeight f fd) (T : TxtM K mg) (CT : ClsT K mg D) : FnOk P w K mg base CX0 1 f fd ["self"] (spHt K D) := by
  refine F.ok scHt (fun vs H Q E h => ?_) (fun cdv A outer s H vs Q E hr h => ?_)
  · obtain ⟨p, h, w, g, rfl, _⟩ := h
    rfl
  · obtain ⟨p, h, w, g, rfl, ⟨dx, a, hp, hS⟩, hV, k⟩ := h
    refine ⟨_, pss_one (ps_ret (pe_callB call_len_seq (by rfl) T.len PySem.boot_len (pa_cons (pe_fld (pv 0) rfl) pa_nil))), ?_⟩
    refine ⟨_, rfl, p, D, dx, _, _, rfl, hp, CT.cl, CT.nR, rfl, a, _, rfl, .inr hS, ?_⟩
    rw [List.length_map, hV.rc.1]
    exact k
theorem ok_wd {f : Addr} {fd : FuncData} (F : Fun K "width" "Tray.width" sTrayWidth f fd) (T : TxtM K mg) (CT : ClsT K mg D) : FnOk P w K mg base CX0 1 f fd ["self"] (spWd K D) := by
  refine F.ok scWd (fun vs H Q E h => ?_) (fun cdv A outer s H vs Q E hr h => ?_)
  · obtain ⟨p, h, w, g, rfl, _⟩ := h
    rfl
  · obtain ⟨p, h, w, g, rfl, ⟨dx, a, hp, hS⟩, hV, k⟩ := h
    obtain ⟨r0, e0, l0, m0⟩ := row0 hV
    refine ⟨_, pss_one (ps_ret (pe_callB call_len_str (by rfl) T.len PySem.boot_len (pa_cons (pe_ix ix_tup (pe_fld (pv 0) rfl) pe_int (fun _ _ => rfl)) pa_nil))), ?_⟩
    have := hV.row m0
    refine ⟨_, rfl, p, D, dx, _, _, rfl, hp, CT.cl, CT.nR, rfl, a, _, _, _, rfl, rfl, hS, e0, _, rfl, by rw [S_len]; show _ ≤ 16777216; omega, ?_⟩
    rw [S_len, l0]
    exact k
end
end TP
end
section
set_option Elab.async false
set_option maxRecDepth 100000
set_option linter.all false
namespace TP
open PySem L2 TM TK TH TB TX
open PySem.Spec PyProof.Rows
def rNotOwn (C : Addr) (sp : Sp) (E : XK) : R2 := fun y x H Q => ∃ a dx fs, x = .ref a ∧ H a = some (.ins C dx fs) ∧ sp [.ref a, y] H (fun z H' => ∃ c, z = .bl c ∧ Q (.bl (!c)) H') E
theorem one_of {u : List Nat} (h : u.length = 1) : ∃ c, u = [c] := by
  match u, h with
  | [c], _ => exact ⟨c, rfl⟩
theorem op_notOwn {X : Cx} {CX : CXT} {n : Nat} {C g : Addr} {sp : Sp} {E : XK} (hs : PySem.W.findIn X.K (.ref C) "__contains__" = some (some (.ref g))) (hf : PySem.W.isFn X.K (.ref g) = true) (F : FnR X.prog X.w X.K X.mg X.base CX n g sp) (hr : Room n X.A) (hx : Passes CX X E) : OpR X (compareOp .NotIn) (rNotOwn C sp E) := by
  intro pins s σ H y x u v Q I ry rx h
  obtain ⟨a, dx, fs, rfl, ha, q⟩ := h
  cases (show v = Value.ref a from rx)
  obtain ⟨mA, O, _⟩ := ins_get I.hok ha
  obtain ⟨od, J, _⟩ := O.look
  obtain ⟨m, hF⟩ := I.fr
  refine PySem.W.notIn_K hF I.ok.mod.kin J hs hf (wpAny_mono (wpAny_call (SlX.run_at (us := [.ref a, u]) (ws := [.ref a, y]) F hr I.env0 hx I (.cons rfl (.cons ry .nil)) q)) (fun w s' z => ?_) fun _ _ x => x)
  obtain ⟨z', H', I', rz, b, rfl, qz⟩ := z
  obtain rfl : w = Value.bool b := rz
  exact wpAny_truthy_bool ⟨.bl (!b), H', I', rfl, qz⟩
theorem occ_at {t : List Nat} {c : Nat} (h : c ∈ t) : ∃ i rest, Builtin.Str.occurrences (S t) (S [c]) 0 (S t).length 1 = i :: rest ∧ t[i]? = some c := by
  have h1 := StrLaws.found_one (S t) c
  rw [S_list] at h1
  change (!(Builtin.Str.occurrences (S t) (S [c]) 0 (S t).length 1).isEmpty) = _ at h1
  rw [decide_eq_true h] at h1
  obtain ⟨f, hc⟩ := StrLaws.occ_chain (S t) (S [c]) 1
  cases e : Builtin.Str.occurrences (S t) (S [c]) 0 (S t).length 1 with
  | nil =>
    rw [e] at h1
    cases h1
  | cons i rest =>
    rw [e] at hc
    obtain ⟨_, ⟨h2, h3⟩, _⟩ := hc
    refine ⟨i, rest, rfl, ?_⟩
    rw [S_len, S_len] at h2
    have hi : i < t.length := by
      have : i + 1 ≤ t.length := h2
      omega
    have h4 := beq_iff_eq.mp h3
    have h5 := congrArg (fun a : Array Nat => a[0]?) h4
    simp only [Array.getElem?_extract] at h5
    rw [List.getElem?_eq_getElem hi]
    simp [S] at h5
    rw [← h5.2, List.getElem?_eq_getElem hi]
section
variable {P : Program} {w : World} {K : PySem.W.Frag} {mg : Str → Option Value} {base : Heap} {D CU fU pM gM pW gW fC : Addr} {fdM fdW fdU : FuncData}
theorem scTc : FnScope ["self", "x"] ["self", "x"] (defScope sTrayContains) := ⟨rfl, rfl, rfl, by decide +kernel, rfl, by decide +kernel, by decide +kernel⟩
def has (g : Grid) (u : List Nat) : Bool := decide (u.length = 1) && decide (u.getD 0 0 ∈ mb g.flatten)
def spTc (K : PySem.W.Frag) (D : Addr) : Sp := fun vs H Q _ => ∃ (p : Addr) (x : V) (h w : Nat) (g : Grid), vs = [.ref p, x] ∧ TrayAt K D H p g ∧ VG h w g ∧
  ((∃ u : List Nat, x = .str (S u) ∧ u.length ≤ 1000 ∧ ∀ H', Same H H' → Q (.bl (has g u)) H') ∨ (NoText K H x ∧ ∀ H', Same H H' → Q (.bl false) H'))
theorem ok_tc {f : Addr} {fd : FuncData} (F : Fun K "__contains__" "Tray.__contains__" sTrayContains f fd) (T : TxtW K mg) (CT : ClsT K mg D) (PM : PropOf K D "marbles" pM gM) (GM : FnOk P w K mg base CX0 1 gM fdM ["self"] (spMb K D)) (bM : Binds K fdM ["self"] []) :
    FnOk P w K mg base CX0 3 f fd ["self", "x"] (spTc K D) := by
  refine F.ok scTc (fun vs H Q E h => ?_) (fun cdv A outer s H vs Q E hr h => ?_)
  · obtain ⟨p, x, h, w, g, rfl, _⟩ := h
    rfl
  · obtain ⟨p, x, h, w, g, rfl, T0, hV, hx⟩ := h
    obtain ⟨dx, a, hp, hS⟩ := id T0
    refine ⟨_, pss_one (ps_ret (pe_and (pe_callB call_isi (by rfl) T.isi (by decide +kernel) (pa_cons (pv 1) (pa_cons (pe_bltn (v := .ty "str") (by rfl) T.str (by decide +kernel) rfl) pa_nil)))
      (pe_and (pe_cmpR op_eq (pe_callB call_len_str (by rfl) T.len PySem.boot_len (pa_cons (pv 1) pa_nil)) pe_int (nomark _))
        (pe_one (pe_cmpR op_in_sign (pv 1) (pe_prop (pv 0) CT.cl PM GM (hr.mono (by decide)) bM .nil pass0 rfl) (by rfl)))))), ?_⟩
    rcases hx with ⟨u, rfl, hl, k⟩ | ⟨⟨ty, hty, hk⟩, k⟩
    · refine ⟨_, rfl, _, _, _, _, true, rfl, .ty _, .base (.str _), kit_ty (by decide +kernel), true, rfl, iteT ?_⟩
      have hs : (S u).length ≤ sizeLine := by
        rw [S_len]
        show _ ≤ 16777216
        omega
      refine ⟨_, rfl, _, rfl, hs, rfl, _, rfl, ?_⟩
      by_cases h1 : u.length = 1
      · obtain ⟨c, rfl⟩ := one_of h1
        have e : decide (V.int ((S [c]).length : Nat) = V.int 1) = true := decide_eq_true (by rw [S_len]; rfl)
        rw [e]
        refine iteT ⟨_, rfl, _, rfl, p, dx, _, rfl, hp, p, h, w, g, rfl, T0, hV, fun H1 sm => ?_⟩
        refine ⟨c, _, rfl, rfl, ?_⟩
        rw [S_list]
        have k1 := k H1 sm
        have e2 : has g [c] = decide (c ∈ mb g.flatten) := rfl
        rw [e2] at k1
        rw [show decide (c ∈ srt (mb g.flatten)) = decide (c ∈ mb g.flatten) from decide_eq_decide.mpr (srt_perm _).mem_iff]
        exact k1
      · have e : decide (V.int ((S u).length : Nat) = V.int 1) = false := decide_eq_false (by
          rw [S_len]
          intro z
          injection z with z
          omega)
        rw [e]
        refine iteF ?_
        have k1 := k H (Same.refl H)
        unfold has at k1
        rw [decide_eq_false h1, Bool.false_and] at k1
        exact k1
    · exact ⟨_, rfl, _, _, _, _, false, rfl, .ty _, hty, kit_ty hk, false, rfl, iteF (k _ (Same.refl H))⟩
theorem scCl : FnScope ["self", "marble", "cells"] ["self", "marble"] (defScope sTrayCall) := ⟨rfl, rfl, rfl, by decide +kernel, rfl, by decide +kernel, by decide +kernel⟩
def spCl (K : PySem.W.Frag) (D CU : Addr) : Sp := fun vs H Q E => ∃ (p : Addr) (x : V) (h w : Nat) (g : Grid), vs = [.ref p, x] ∧ TrayAt K D H p g ∧ VG h w g ∧
  ((∃ c k : Nat, x = sg c ∧ c ≠ 46 ∧ g.flatten[k]? = some c ∧ ∀ H' q, Same H H' → H q = none → H' q = some (.tup [.int ((k : Int) / w), .int ((k : Int) % w)]) → Q (.ref q) H') ∨
    (((∃ u : List Nat, x = .str (S u) ∧ u.length ≤ 1000 ∧ has g u = false) ∨ NoText K H x) ∧ ∀ H' d, Same H H' → H d = none → H' d = some (.xd [("marble", x)]) → E (.ref CU) (some d) H'))
theorem mb_uniq {l : List Nat} (nd : (mb l).Nodup) {c i j : Nat} (hc : c ≠ 46) (hi : l[i]? = some c) (hj : l[j]? = some c) : i = j := by
  induction l generalizing i j with
  | nil => simp at hi
  | cons x l ih =>
    by_cases hx : x = 46
    · subst hx
      have e : mb (46 :: l) = mb l := by simp [mb]
      rw [e] at nd
      cases i with
      | zero => simp at hi; exact absurd hi.symm hc
      | succ i =>
        cases j with
        | zero => simp at hj; exact absurd hj.symm hc
        | succ j => rw [ih nd (i := i) (j := j) (by simpa using hi) (by simpa using hj)]
    · have e : mb (x :: l) = x :: mb l := by simp [mb, hx]
      rw [e] at nd
      have nd' := List.nodup_cons.mp nd
      have no : ∀ {k : Nat}, l[k]? = some x → False := fun {k} hk => nd'.1 (List.mem_filter.mpr ⟨List.mem_of_getElem? hk, by simp [hx]⟩)
      cases i with
      | zero =>
        simp at hi
        subst hi
        cases j with
        | zero => rfl
        | succ j => exact (no (by simpa using hj)).elim
      | succ i =>
        cases j with
        | zero =>
          simp at hj
          subst hj
          exact (no (by simpa using hi)).elim
        | succ j => rw [ih nd'.2 (i := i) (j := j) (by simpa using hi) (by simpa using hj)]
theorem flat_len {h w : Nat} {g : Grid} (R : Rect h w g) : g.flatten.length = h * w := by
  rw [List.length_flatten]
  have : g.map List.length = List.replicate h w := List.eq_replicate_iff.mpr ⟨by rw [List.length_map]; exact R.1, fun x hx => by
    obtain ⟨l, hl, rfl⟩ := List.mem_map.mp hx
    exact R.2 l hl⟩
  rw [this]
  simp
theorem join0 : ∀ g : Grid, Txt.join (S []) (g.map S) = S g.flatten := fun g => by
  rw [join_S, joinL_nil]
theorem ok_cl {f : Addr} {fd : FuncData} (F : Fun K "__call__" "Tray.__call__" sTrayCall f fd) (CT : ClsT K mg D) (dm : mg "divmod" = none)
    (hs : PySem.W.findIn K (.ref D) "__contains__" = some (some (.ref fC))) (hf : PySem.W.isFn K (.ref fC) = true) (FC : FnR P w K mg base CX0 3 fC (spTc K D))
    (PW_ : PropOf K D "width" pW gW) (GW : FnOk P w K mg base CX0 1 gW fdW ["self"] (spWd K D)) (bW : Binds K fdW ["self"] [])
    (X : ExcT K mg "UnknownMarble" CU fU) (GU : FnOk P w K mg base CX0 1 fU fdU ["self", "marble"] (spUm CU)) (bU : Binds K fdU ["self", "marble"] []) :
    FnOk P w K mg base (L2.CX P w) 4 f fd ["self", "marble"] (spCl K D CU) := by
  refine F.okX scCl (fun vs H Q E h => ?_) (fun cdv A outer s H vs Q E hr h => ?_)
  · obtain ⟨p, x, h, w, g, rfl, _⟩ := h
    rfl
  · obtain ⟨p, x, h, w, g, rfl, T0, hV, hx⟩ := h
    obtain ⟨dx, a, hp, hS⟩ := id T0
    refine ⟨_, pss_cons (ps_if (pt_cmpR (op_notOwn hs hf FC hr pass0) (pv 1) (pv 0) (by rfl)) (pss_one (ps_raise rfl (takes_of rfl rfl rfl rfl) (pmk_oex X.ox X.iE X.tE GU (hr.mono (by decide)) bU .nil pass0 rfl X.mgE (pa_cons (pv 1) pa_nil)))) pss_nil)
      (pss_cons (ps_set (i := 2) scCl.nd rfl (.inl rfl) (pe_join pe_str (pe_fld (pv 0) rfl)))
      (pss_one (ps_ret (pe_callB call_divmod (by rfl) dm (by decide +kernel) (pa_cons (pe_bm PySem.F.plainAttrs_str PySem.F.slot_str_index PySem.F.type_str_index mt_sindex (pv 2) (pa_cons (pv 1) pa_nil)) (pa_cons (pe_prop (pv 0) CT.cl PW_ GW (hr.mono (by decide)) bW .nil pass0 rfl) pa_nil)))))), ?_⟩
    rcases hx with ⟨c, kk, rfl, hc, hk, k⟩ | ⟨hn, k⟩
    · have hm : c ∈ mb g.flatten := List.mem_filter.mpr ⟨List.mem_of_getElem? hk, by simp [hc]⟩
      have hh : has g [c] = true := by
        show (true && decide (c ∈ mb g.flatten)) = true
        rw [decide_eq_true hm]
        rfl
      refine ⟨_, rfl, _, rfl, p, dx, _, rfl, hp, p, _, h, w, g, rfl, T0, hV, .inl ⟨[c], rfl, by show 1 ≤ 1000; decide, fun H1 sm => ?_⟩⟩
      rw [hh]
      refine ⟨true, rfl, _, rfl, iteF ?_⟩
      have hf64 := flat_len hV.rc
      have h64 : h * w ≤ 64 := Nat.mul_le_mul hV.n8 hV.m8
      refine ⟨⟨_, rfl⟩, _, rfl, p, D, dx, _, _, rfl, sm _ _ hp, CT.cl, CT.nR, rfl, _, a, g.map S, rfl, rfl, .inr ?_, ?_, ?_⟩
      · rw [List.map_map]
        exact sm.tup hS
      · have h1 := row_sum 8 g fun r hr => hV.row hr
        have h2 := hV.len
        rw [List.length_map]
        show _ + _ * 0 ≤ _
        omega
      rw [show Str.ofString "" = S [] from rfl, join0]
      have hcf : c ∈ g.flatten := List.mem_of_getElem? hk
      obtain ⟨i, rest, e1, e2⟩ := occ_at hcf
      have ei := mb_uniq hV.nd hc e2 hk
      subst ei
      refine ⟨_, rfl, rfl, _, rfl, _, _, i, rest, rfl, rfl, e1, ?_⟩
      refine ⟨_, rfl, p, dx, _, rfl, sm _ _ hp, p, h, w, g, rfl, T0.same sm, hV, _, _, rfl, ⟨by have := hV.m1; omega, by have := hV.m8; omega⟩, fun q hq => ?_⟩
      exact k _ q (sm.trans (same_new hq)) (sm.free hq) upd_same
    · have raised : ∀ {H1 : Hp}, Same H H1 → ∀ a, H1 a = none → spUm CU [.ref a, x] (upd H1 a (exo a CU none)) (fun v H2 => v = .non ∧ ∃ (d : Addr) (fs : List (Str × V)), H2 a = some (exo a CU (some d)) ∧ H2 d = some (exd d fs) ∧ H1 d = none ∧ E (.ref CU) (some d) (upd (del H2 a) d (.xd fs))) (fun _ _ _ => False) := by
        intro H1 sm a ha
        refine ⟨a, x, rfl, upd_same, fun d hd hne => ⟨rfl, d, _, upd_same, by rw [upd_ne hne, upd_same], ?_, ?_⟩⟩
        · rw [upd_ne hne] at hd
          exact hd
        · rw [upd_ne hne] at hd
          refine k _ _ (fun b o e => ?_) (sm.free hd) upd_same
          have e1 := sm b o e
          have nd := ne_of_none e1 hd
          have na := ne_of_none e1 ha
          rw [upd_ne nd, del_ne na, upd_ne na, upd_ne nd, upd_ne na]
          exact e1
      refine ⟨_, rfl, _, rfl, p, dx, _, rfl, hp, p, _, h, w, g, rfl, T0, hV, ?_⟩
      rcases hn with ⟨u, rfl, hu, hh⟩ | hn
      · refine .inl ⟨u, rfl, hu, fun H1 sm => ?_⟩
        rw [hh]
        exact ⟨false, rfl, _, rfl, iteT ⟨_, rfl, by show 1 ≤ 1000; decide, raised sm⟩⟩
      · exact .inr ⟨hn, fun H1 sm => ⟨false, rfl, _, rfl, iteT ⟨_, rfl, by show 1 ≤ 1000; decide, raised sm⟩⟩⟩
end
end TP
end
section
set_option Elab.async false
set_option maxRecDepth 100000
set_option linter.all false
namespace TP
open PySem L2 TM TK TH TB TX
open PySem.Spec PyProof.Rows
theorem passX {X : Cx} {E : XK} (tk : Takes X (fun cls d _ H => E cls d H)) : Passes (L2.CX X.prog X.w) X E := passes_call tk fun _ _ _ _ h => h
/-- what is_place says of a value -/
inductive Plc (K : PySem.W.Frag) (H : Hp) (h w : Nat) : V → Bool → Prop where
  | two {q : Addr} {a b : V} {ta tb : String} {xa ya xb yb : Bool} (hq : SqT K H q [a, b]) (ka : TA.Kn K H a ta xa ya) (kb : TA.Kn K H b tb xb yb) : Plc K H h w (.ref q) (TA.isN a ((h : Int) - 1) && TA.isN b ((w : Int) - 1))
  | tup {q : Addr} {xs : List V} (hq : SqT K H q xs) (hl : xs.length ≠ 2) : Plc K H h w (.ref q) false
  | other {x : V} {ty : String} (ht : TyX K H x (.type ty)) (hk : kitB ty "tuple" = some false) : Plc K H h w x false
section
variable {P : Program} {w : World} {K : PySem.W.Frag} {mg : Str → Option Value} {base : Heap} {D CP fN fL pH gH pW gW : Addr} {fdN fdL fdH fdW : FuncData}
structure TxtP (K : PySem.W.Frag) (mg : Str → Option Value) : Prop where
  isi : mg "isinstance" = none
  tup : mg "tuple" = none
  len : mg "len" = none
theorem scPl : FnScope ["value", "height", "width"] ["value", "height", "width"] (defScope sIsPlace) := ⟨rfl, rfl, rfl, by decide +kernel, rfl, by decide +kernel, by decide +kernel⟩
def spPl (K : PySem.W.Frag) : Sp := fun vs H Q _ => ∃ (x : V) (h w : Nat) (b : Bool), vs = [x, .int (h : Nat), .int (w : Nat)] ∧ Plc K H h w x b ∧ Q (.bl b) H
theorem ok_pl {f : Addr} {fd : FuncData} (F : Fun K "is_place" "is_place" sIsPlace f fd) (T : TxtP K mg) (GN : FnOk P w K mg base CX0 1 fN fdN ["value", "limit"] (TA.spNum K)) (kN : PySem.W.keepIn K (.ref fN) = true) (bN : Binds K fdN ["value", "limit"] []) (mN : mg "is_number" = some (.ref fN)) :
    FnOk P w K mg base CX0 2 f fd ["value", "height", "width"] (spPl K) := by
  refine F.ok scPl (fun vs H Q E h => ?_) (fun cdv A outer s H vs Q E hr h => ?_)
  · obtain ⟨x, h, w, b, rfl, _⟩ := h
    rfl
  · obtain ⟨x, h, w, b, rfl, hx, k⟩ := h
    refine ⟨_, pss_cons (ps_if (PW.pt (pw_or (pt_not (pt_val (pe_callB call_isi (by rfl) T.isi (by decide +kernel) (pa_cons (pv 0) (pa_cons (pe_bltn (v := .ty "tuple") (by rfl) T.tup (by decide +kernel) rfl) pa_nil)))))
        (pw_or1 (pt_cmpR op_ne (pe_callB call_len_seq (by rfl) T.len PySem.boot_len (pa_cons (pv 0) pa_nil)) pe_int (nomark _))))) (pss_one (ps_ret pe_bl)) pss_nil)
      (pss_one (ps_ret (pe_and (pe_call GN hr rfl mN kN bN .nil pass0 (pa_cons (pe_ix ix_tup (pv 0) pe_int (fun _ _ => rfl)) (pa_cons (pe_op op_sub (pv 1) pe_int) pa_nil)))
        (pe_one (pe_call GN hr rfl mN kN bN .nil pass0 (pa_cons (pe_ix ix_tup (pv 0) pe_int (fun _ _ => rfl)) (pa_cons (pe_op op_sub (pv 2) pe_int) pa_nil))))))), ?_⟩
    cases hx with
    | two hq ka kb =>
      rename_i q a b ta tb xa ya xb yb
      refine ⟨_, rfl, _, _, _, _, true, rfl, .ty _, TA.sq_ty (.tup hq), kit_ty (TA.tup_kit true), true, rfl, iteF ?_⟩
      refine ⟨_, rfl, q, _, rfl, .inr hq, rfl, _, rfl, iteF ?_⟩
      refine ⟨_, rfl, q, _, _, _, rfl, rfl, hq, rfl, _, rfl, _, _, rfl, rfl, a, _, _, _, _, rfl, ka, _, rfl, ?_⟩
      by_cases ha : TA.isN a ((h : Int) - 1) = true
      · rw [ha] at k ⊢
        refine iteT ⟨_, rfl, q, _, _, _, rfl, rfl, hq, rfl, _, rfl, _, _, rfl, rfl, b, _, _, _, _, rfl, kb, ?_⟩
        rw [Bool.true_and] at k
        exact k
      · rw [Bool.not_eq_true] at ha
        rw [ha] at k ⊢
        exact iteF k
    | tup hq hl =>
      rename_i q xs
      refine ⟨_, rfl, _, _, _, _, true, rfl, .ty _, TA.sq_ty (.tup hq), kit_ty (TA.tup_kit true), true, rfl, iteF ?_⟩
      refine ⟨_, rfl, q, _, rfl, .inr hq, rfl, _, rfl, ?_⟩
      rw [show (!decide (V.int (xs.length : Nat) = V.int 2)) = true by
        rw [decide_eq_false]
        · rfl
        · intro z
          injection z with z
          omega]
      exact iteT k
    | other ht hk =>
      refine ⟨_, rfl, _, _, _, _, false, rfl, .ty _, ht, kit_ty hk, false, rfl, iteT (iteT k)⟩
theorem scCp : FnScope ["tray", "place"] ["tray", "place"] (defScope sCheckPlace) := ⟨rfl, rfl, rfl, by decide +kernel, rfl, by decide +kernel, by decide +kernel⟩
def spCp (K : PySem.W.Frag) (D CP : Addr) : Sp := fun vs H Q E => ∃ (p : Addr) (x : V) (h w : Nat) (g : Grid), vs = [.ref p, x] ∧ TrayAt K D H p g ∧ VG h w g ∧
  ((∃ (q : Addr) (r c : Nat), x = .ref q ∧ SqT K H q [.int r, .int c] ∧ r < h ∧ c < w ∧ Q .non H) ∨ (Plc K H h w x false ∧ E (.ref CP) none H))
theorem ok_cp {f : Addr} {fd : FuncData} (F : Fun K "check_place" "check_place" sCheckPlace f fd) (CT : ClsT K mg D) (GL : FnOk P w K mg base CX0 2 fL fdL ["value", "height", "width"] (spPl K)) (kL : PySem.W.keepIn K (.ref fL) = true) (bL : Binds K fdL ["value", "height", "width"] []) (mL : mg "is_place" = some (.ref fL))
    (PH : PropOf K D "height" pH gH) (GH : FnOk P w K mg base CX0 1 gH fdH ["self"] (spHt K D)) (bH : Binds K fdH ["self"] [])
    (PW_ : PropOf K D "width" pW gW) (GW : FnOk P w K mg base CX0 1 gW fdW ["self"] (spWd K D)) (bW : Binds K fdW ["self"] []) (X : TA.ExN K mg "InvalidPlace" CP) :
    FnOk P w K mg base (L2.CX P w) 3 f fd ["tray", "place"] (spCp K D CP) := by
  refine F.okX scCp (fun vs H Q E h => ?_) (fun cdv A outer s H vs Q E hr h => ?_)
  · obtain ⟨p, x, h, w, g, rfl, _⟩ := h
    rfl
  · obtain ⟨p, x, h, w, g, rfl, T0, hV, hx⟩ := h
    obtain ⟨dx, a, hp, hS⟩ := id T0
    refine ⟨_, pss_one (ps_if (pt_not (pt_val (pe_call GL hr rfl mL kL bL .nil pass0 (pa_cons (pv 1) (pa_cons (pe_prop (pv 0) CT.cl PH GH (hr.mono (by decide)) bH .nil pass0 rfl) (pa_cons (pe_prop (pv 0) CT.cl PW_ GW (hr.mono (by decide)) bW .nil pass0 rfl) pa_nil))))))
        (pss_one (ps_raise rfl (takes_of rfl rfl rfl rfl) (pmk_own PySem.F.excBase_ValueError X.q X.g X.k (raises_own X.s X.t) rfl))) pss_nil), ?_⟩
    refine ⟨_, rfl, _, rfl, p, dx, _, rfl, hp, p, h, w, g, rfl, T0, hV, _, rfl, p, dx, _, rfl, hp, p, h, w, g, rfl, T0, hV, x, h, w, ?_⟩
    rcases hx with ⟨q, r, c, rfl, hq, hr', hc', k⟩ | ⟨hb, k⟩
    · refine ⟨_, rfl, .two hq (TA.kn_int _) (TA.kn_int _), ?_⟩
      have e1 : TA.isN (.int r) ((h : Int) - 1) = true := by
        show (decide ((0 : Int) ≤ r) && decide ((r : Int) ≤ (h : Int) - 1)) = true
        rw [decide_eq_true (by omega), decide_eq_true (by omega)]
        rfl
      have e2 : TA.isN (.int c) ((w : Int) - 1) = true := by
        show (decide ((0 : Int) ≤ c) && decide ((c : Int) ≤ (w : Int) - 1)) = true
        rw [decide_eq_true (by omega), decide_eq_true (by omega)]
        rfl
      rw [e1, e2]
      exact ⟨true, rfl, iteF k⟩
    · exact ⟨false, rfl, hb, false, rfl, iteT k⟩
abbrev NAt : List Str := ["self", "place", "row", "column", "cell"]
theorem scAt : FnScope NAt ["self", "place"] (defScope sTrayAt) := ⟨rfl, rfl, rfl, by decide +kernel, rfl, by decide +kernel, by decide +kernel⟩
def atV (g : Grid) (r c : Nat) : V := if (g.getD r []).getD c 46 = 46 then .non else sg ((g.getD r []).getD c 46)
def spAt (K : PySem.W.Frag) (D CP : Addr) : Sp := fun vs H Q E => ∃ (p : Addr) (x : V) (h w : Nat) (g : Grid), vs = [.ref p, x] ∧ TrayAt K D H p g ∧ VG h w g ∧
  ((∃ (q : Addr) (r c : Nat), x = .ref q ∧ SqT K H q [.int r, .int c] ∧ r < h ∧ c < w ∧ Q (atV g r c) H) ∨ (Plc K H h w x false ∧ E (.ref CP) none H))
theorem ok_at {fV : Addr} {fdV : FuncData} {f : Addr} {fd : FuncData} (F : Fun K "at" "Tray.at" sTrayAt f fd) (T : TxtM K mg) (CT : ClsT K mg D)
    (GV : FnOk P w K mg base (L2.CX P w) 3 fV fdV ["tray", "place"] (spCp K D CP)) (kV : PySem.W.keepIn K (.ref fV) = true) (bV : Binds K fdV ["tray", "place"] []) (mV : mg "check_place" = some (.ref fV)) :
    FnOk P w K mg base (L2.CX P w) 4 f fd ["self", "place"] (spAt K D CP) := by
  refine F.okX scAt (fun vs H Q E h => ?_) (fun cdv A outer s H vs Q E hr h => ?_)
  · obtain ⟨p, x, h, w, g, rfl, _⟩ := h
    rfl
  · obtain ⟨p, x, h, w, g, rfl, T0, hV, hx⟩ := h
    obtain ⟨dx, a, hp, hS⟩ := id T0
    have nd := scAt.nd
    refine ⟨_, pss_cons (ps_expr (pe_call GV hr rfl mV kV bV .nil (passX (takes_of rfl rfl rfl rfl)) (pa_cons (pv 0) (pa_cons (pv 1) pa_nil))))
      (pss_cons (ps_asg (pv 1) (pg_tup (by rfl) (pgs_cons (pg_name (i := 2) nd rfl (.inl rfl)) (pgs_cons (pg_name (i := 3) nd rfl (.inl rfl)) pgs_nil))))
      (pss_cons (ps_set (i := 4) nd rfl (.inl rfl) (pe_ix ix_str (pe_ix ix_tup (pe_fld (pv 0) rfl) (pv 2) (fun _ _ => rfl)) (pv 3) (fun _ _ => rfl)))
      (pss_one (ps_ret (pe_ifExp (pt_cmpR op_eq (pv 4) (C8.pe_gc rfl T.em) (nomark _)) pe_non (pv 4)))))), ?_⟩
    refine ⟨_, rfl, _, rfl, p, x, h, w, g, rfl, T0, hV, ?_⟩
    rcases hx with ⟨q, r, c, rfl, hq, hr', hc', k⟩ | ⟨hb, k⟩
    · refine .inl ⟨q, r, c, rfl, hq, hr', hc', ?_⟩
      refine ⟨_, rfl, q, _, rfl, hq, rfl, _, _, rfl, _, _, rfl, rfl, ?_⟩
      have hrg : r < g.length := by rw [hV.rc.1]; exact hr'
      have er : g[r]? = some (g.getD r []) := by
        rw [List.getD_eq_getElem?_getD, List.getElem?_eq_getElem hrg]
        rfl
      have lr : (g.getD r []).length = w := hV.rc.2 _ (List.mem_of_getElem? er)
      have h8 := hV.m8
      unfold atV at k
      generalize g.getD r [] = row at er lr k
      have ec : row[c]? = some (row.getD c 46) := by
        rw [List.getD_eq_getElem?_getD, List.getElem?_eq_getElem (by omega)]
        rfl
      refine ⟨_, rfl, p, D, dx, _, _, rfl, hp, CT.cl, CT.nR, rfl, _, rfl, a, _, _, _, rfl, rfl, hS, atI_nat (by rw [List.getElem?_map, er]; all_goals rfl), _, rfl, S row, (c : Int), row.getD c 46, rfl, rfl, by rw [S_len]; show _ ≤ 16777216; omega, by rw [S_list]; exact atI_nat ec, ?_⟩
      generalize row.getD c 46 = z at k
      refine ⟨_, rfl, rfl, _, rfl, ?_⟩
      rw [show decide (V.str (⟨#[z]⟩ : Str) = V.str (S [46])) = (z == 46) from dL z 46]
      by_cases q46 : z = 46
      · rw [beq_iff_eq.mpr q46]
        rw [if_pos q46] at k
        exact iteT k
      · rw [beq_eq_false_iff_ne.mpr q46]
        rw [if_neg q46] at k
        exact iteF ⟨_, rfl, k⟩
    · exact .inr ⟨hb, k⟩
end
end TP
end
section
set_option Elab.async false
set_option maxRecDepth 100000
set_option linter.all false
namespace TR
open PySem PySem.Spec PyProof.Rows L2 TH
/-- D[y] = z, y a tuple, where a comprehension makes D -/
theorem put_tup {X : Cx} {pins : List (Addr × Obj)} {σ : L2.St} {H : Hp} {s : Shared} {E : Value → Shared → Prop} {D b : Addr} {kvs : List (List Key × V)} {k : List Key} {z : V} {r : Value} {Q : Unit → Shared → Prop}
    (hu : X.A.units + 1 < cLine) (I : Inv X pins σ H s) (hD : H D = some (.dT kvs)) (hb : H b = some (.tup (k.map kV))) (hz : kvs.length < sizeLine) (rz : RelV z r)
    (h : ∀ s', Inv X pins σ (upd H D (.dT (putK kvs k z))) s' → Q () s') : wpAny (model X.prog X.w) X.A (dictSet D (.ref b) r) Q E s := by
  obtain ⟨_, nsys, xs, rel, dd⟩ := dt_of I.hok hD
  have hxs : xs.length ≤ sizeLine := by
    rw [← Paired.length rel]
    omega
  have hnew : (putK kvs k z).length ≤ sizeLine := Nat.le_trans (length_putK kvs k z) hz
  refine wpAny_dictSet_heap (hsz := hxs) (Nat.lt_of_succ_lt hu) (key_of I.hok hb) dd fun hp ddp same => h _ ?_
  obtain ⟨ob, es, ep, g1, g2, g3, g4, _, g5⟩ := ddp
  have keep : ∀ c ys, H c = some (.tup ys) → (upd H D (.dT (putK kvs k z))) c = some (.tup ys) := fun c ys ec => by
    rw [upd_ne (ne_of ec hD (fun q => nomatch q))]
    exact ec
  exact d_write I (by rw [hD]; exact True.intro) same ⟨ob, g1⟩ ⟨hnew, nsys, _, (rel.put k hb rz).keeps keep, ob, es, ep, g1, g2, g3, g4, g5⟩
section
variable {X : Cx}
/-- what a turn asks: nothing is left out -/
abbrev DcTW (g : TG) (tk tv : TE) (vs : List Nat) (σ : L2.St) (J : It) (D : Addr) (W : Nat → Nat → Hp → Prop) (Qd : Hp → Prop) : Prop := ∀ i m H, W i m H →
  (J.stop i H ∧ Qd H) ∨ (J.go i H ∧ ∃ Nx : Hp → Prop, (∀ H', Nx H' → ∃ m', m' < m ∧ W (i + 1) m' H') ∧ ∀ x H', J.yld i H x H' → g x (wipe σ vs) H' fun σ2 H2 => wipe σ2 vs = wipe σ vs ∧
    tk σ2 H2 fun y H4 => tv σ2 H4 fun z H5 => ∃ kvs k b, y = .ref b ∧ H5 b = some (.tup (k.map kV)) ∧ H5 D = some (.dT kvs) ∧ kvs.length < sizeLine ∧ Nx (upd H5 D (.dT (putK kvs k z))))
def tDcT (wi : TI) (g : TG) (tk tv : TE) (vs : List Nat) : TE := fun σ H Q => wi σ H fun J H1 => ∀ D, H1 D = none → ∃ W : Nat → Nat → Hp → Prop, (∃ m, W 0 m (upd H1 D (.dT []))) ∧ DcTW g tk tv vs σ J D W (Q (.ref D))
/-- the loop in the block's own context B -/
theorem dcT_loop {B : Cx} {kx vx tg iter : Expr} {scope : Scope} {pos : Pos} {g : TG} {tk tv : TE} {vs : List Nat} {σ : L2.St} {J : It} {fp : List Addr} {it D : Addr} {tn : Nat → Heap → Prop} {W : Nat → Nat → Hp → Prop} {Qd : Hp → Prop} {R : Result → Shared → Prop} {H : Hp} {s : Shared} {m0 : Nat}
    (hu : B.A.units + 1 < cLine) (hx : ∀ b ∈ fp, b ∈ B.ex) (hpn : B.pn = []) (hxe : B.xe = fun _ _ => False) (hc : B.calm = true) (T : Turn B.prog B.w B.K tg J fp it tn) (pg : PG B tg g) (pk : PE B kx tk) (pe : PE B vx tv) (turn : DcTW g tk tv vs σ J D W Qd)
    (fin : ∀ H' s', Inv B [] (wipe σ vs) H' s' → Qd H' → R (.ok .next) s') (I : Inv B [] (wipe σ vs) H s) (st : tn 0 s.heap) (hf : ∀ b ∈ fp, H b = none) (w0 : W 0 m0 H) :
    codeAny (model B.prog B.w) B.A (.compLoop (.DictComp kx vx [⟨tg, iter, [], 0⟩] scope pos) 0 (.ref it) (.ref D) B.env) R s := by
  refine compLoop_anyD (fun m t => ∃ i H', Inv B [] (wipe σ vs) H' t ∧ tn i t.heap ∧ (∀ b ∈ fp, H' b = none) ∧ W i m H') ?_ m0 ⟨0, H, I, st, hf, w0⟩
  rintro m t ⟨i, H1, I1, st1, f1, w1⟩
  rcases turn i m H1 w1 with ⟨stop, qd⟩ | ⟨go, Nx, hNx, step⟩
  · refine thnF (T.done B rfl rfl rfl hc i [] t _ H1 (fun _ _ => False) I1 (blk_fp hx hpn I1 f1) st1 stop) fun r t2 ⟨e, I2⟩ => ?_
    rw [e]
    exact fin H1 t2 I2 qd
  · refine thnF (T.item B rfl rfl rfl hc i [] t _ H1 (fun _ _ => False) I1 (blk_fp hx hpn I1 f1) st1 go) fun r t2 ⟨u, e, more⟩ => ?_
    rw [e]
    refine thnF more fun _ t3 ⟨x, H3, I3, rx, y3, st3, f3⟩ => ?_
    have pinned := I3.pinned (blk_fp hx hpn I3 f3) (T.obj _ _ st3)
    have h4 := pg.run _ t3 _ H3 x u _ pinned rx (step x H3 y3)
    rw [hxe] at h4
    refine thnF h4 fun _ t4 ⟨σ4, H4, I4, w4, q4⟩ => ?_
    refine wpAny_tests_nil ?_
    have h5 := pk.run _ t4 σ4 H4 _ I4 q4
    rw [hxe] at h5
    show if true = true then _ else _
    rw [if_pos rfl]
    refine thnF h5 fun z t5 ⟨yk, H5, I5, r5, q5⟩ => ?_
    have h6 := pe.run _ t5 σ4 H5 _ I5 q5
    rw [hxe] at h6
    refine thnF h6 fun z2 t6 ⟨yv, H6, I6, r6, kvs, k, b, ek, hb, hD, hz, nx⟩ => ?_
    subst ek
    obtain rfl : z = Value.ref b := r5
    refine put_tup hu I6 hD hb hz r6 fun t7 I7 => ?_
    obtain ⟨m', lt, w7⟩ := hNx _ nx
    obtain ⟨k1, k2, k3⟩ := blk_turn T st3 w4 I7
    exact ⟨m', lt, i + 1, _, k1, k2, k3, w7⟩
theorem dcT_core {pins : List (Addr × Obj)} {s : Shared} {σ : L2.St} {H : Hp} {Q : VK} {kx vx tg iter : Expr} {scope : Scope} {own : List (Str × Nat)} {pos pos' : Pos} {wi : TI} {g : TG} {tk tv : TE} {use : Option (Value → Sem Unit)} {Qf : Value → Shared → Prop}
    (hu : X.A.units + 1 < cLine) (hc : X.calm = true) (hN : X.N.Nodup) (I : Inv X pins σ H s) (hi : PI X tg iter wi) (ok : BlkOk X.N X.env.scope scope own)
    (hg : ∀ (s : Shared) (H : Hp) (C : Addr) (cl : List (Str × Addr)) (fp : List Addr), PG (X.blk s H scope (compEnvC scope cl C X.env) fp) tg g)
    (hk : ∀ (s : Shared) (H : Hp) (C : Addr) (cl : List (Str × Addr)) (fp : List Addr), PE (X.blk s H scope (compEnvC scope cl C X.env) fp) kx tk)
    (he : ∀ (s : Shared) (H : Hp) (C : Addr) (cl : List (Str × Addr)) (fp : List Addr), PE (X.blk s H scope (compEnvC scope cl C X.env) fp) vx tv) (hs : ∀ x, foldedSetIterable iter X.env x = pure x)
    (h : tDcT wi g tk tv (own.map (·.2)) σ H Q)
    (hRR : ∀ D C s' m H', Inv X pins σ H' s' → Q (.ref D) H' → s'.heap.Ns C m → FpOk X pins H' C → compPost (model X.prog X.w) X.A X.xe use Qf (.ref D) C (.ok .next) s') :
    wpAny (model X.prog X.w) X.A (comprehension (.DictComp kx vx [⟨tg, iter, [], 0⟩] scope pos) scope X.env pos' newDict false (eval iter X.env) use) Qf X.xe s := by
  have known : ∀ y ∈ scope.names, y.2 = .free → ∃ c, X.env.cells.lookup y.1 = some c := fun y hy e => (ok.free y hy e).elim (fun k => I.ok.has _ (.inl k)) fun k => I.ok.has _ (.inr k)
  refine wpAny_comprehension_free (use := use) rfl hs (closure_ok known) ok.kind (fun y hy e => by rw [ok.uniq y hy, e]) ?_
  refine thn (hi.run pins s σ H _ I h) fun xv s1 hx => thn hx fun itv s2 h2 => ?_
  obtain ⟨it, fp, tn, J, H2, rfl, I2, T, st2, f2, q⟩ := h2
  refine wpAny_newObj_type (newEnv_comp ?_)
  have free2 : H2 s2.heap.objs.size = none := I2.hok.fresh (Nat.le_refl _)
  have below : ∀ b ∈ fp, b < s2.heap.objs.size := fun b hb => by
    obtain ⟨o, e, _⟩ := T.obj _ _ st2 b hb
    exact Heap.lt_size e
  have laid3 : Inv X pins σ (upd H2 s2.heap.objs.size (.dT [])) { s2 with heap := s2.heap.push { cls := .type "dict", data := .dict #[] } } :=
    I2.laid (t' := s2.toks) (fun b o e => Heap.get?_push_of_some _ e) (Nat.le_refl _) (dt_empty s2.heap I2.big)
  have st3 : tn 0 (s2.heap.push { cls := .type "dict", data := .dict #[] }) := T.keep _ _ _ st2 fun b _ o e => Heap.get?_push_of_some _ e
  obtain ⟨W, ⟨m0, w0⟩, turn⟩ := q _ free2
  generalize hD : s2.heap.objs.size = D at free2 below laid3 turn w0 ⊢
  generalize hH3 : upd H2 D (.dT []) = H3 at laid3 w0
  have f3 : ∀ b ∈ fp, FpOk X pins H3 b ∧ b < ({ s2 with heap := s2.heap.push { cls := .type "dict", data := .dict #[] } } : Shared).heap.objs.size := fun b hb => by
    have lt := below b hb
    refine ⟨⟨?_, (f2 b hb).2⟩, ?_⟩
    · rw [← hH3, upd_ne (Nat.ne_of_lt lt)]
      exact (f2 b hb).1
    · show b < (s2.heap.push _).objs.size
      rw [Heap.size_push, hD]
      exact Nat.lt_succ_of_lt lt
  generalize hs3 : ({ s2 with heap := s2.heap.push { cls := .type "dict", data := .dict #[] } } : Shared) = s3 at laid3 f3
  have h3 : s2.heap.push { cls := .type "dict", data := .dict #[] } = s3.heap := by rw [← hs3]
  rw [h3] at st3
  have I4 := block_start laid3 ok hN f3
  have st4 : tn 0 (pushCells (s3.heap.push { cls := .type "dict", data := .dict #[] }) scope.names) := T.keep _ _ _ st3 fun b _ o e => pushCells_keeps _ _ _ _ (Heap.get?_push_of_some _ e)
  show codeAny _ _ (.compStart (.DictComp kx vx [⟨tg, iter, [], 0⟩] scope pos) 0 (.ref it) (.ref D) (blkE X scope s3)) (compPost (model X.prog X.w) X.A X.xe use Qf (.ref D) s3.heap.objs.size) { s3 with heap := pushCells (s3.heap.push { cls := .type "dict", data := .dict #[] }) scope.names }
  have loop : codeAny (model X.prog X.w) X.A (.compLoop (.DictComp kx vx [⟨tg, iter, [], 0⟩] scope pos) 0 (.ref it) (.ref D) (blkE X scope s3)) (compPost (model X.prog X.w) X.A X.xe use Qf (.ref D) s3.heap.objs.size) { s3 with heap := pushCells (s3.heap.push { cls := .type "dict", data := .dict #[] }) scope.names } := by
    refine dcT_loop (B := X.blk s3 H3 scope (blkE X scope s3) fp) (J := J) (Qd := Q (.ref D)) (W := W) (vs := own.map (·.2)) (σ := σ) hu (fun b hb => hb) rfl rfl hc T (hg _ _ _ _ _) (hk _ _ _ _ _) (he _ _ _ _ _) turn ?_ I4 st4 (fun b hb => (f3 b hb).1.1) w0
    intro H' s' J' qd
    have back : Inv X pins σ H' s' := laid3.call' (ch := fp) J'.os J'.base J'.hok J'.bare fun b hb => ⟨(f3 b hb).1.2.2.2.1, (f3 b hb).1.2.1, (f3 b hb).1.2.2.2.2.1, (f3 b hb).1.2.2.2.2.2⟩
    obtain ⟨m, hm, _⟩ := J'.loc
    exact hRR D s3.heap.objs.size s' m H' back qd hm (laid3.fpOk (Nat.le_refl _) J'.free)
  exact codeAny_compStart_dict loop (T.self X.A 0 _ _ _ st4 loop)
/-- {k: v for x in xs}, k a tuple -/
theorem pe_dcT {kx vx tg iter : Expr} {scope : Scope} {own : List (Str × Nat)} {pos : Pos} {wi : TI} {g : TG} {tk tv : TE} (hu : X.A.units + 1 < cLine) (hc : X.calm = true) (hN : X.N.Nodup) (hi : PI X tg iter wi) (ok : BlkOk X.N X.env.scope scope own)
    (hg : ∀ (s : Shared) (H : Hp) (C : Addr) (cl : List (Str × Addr)) (fp : List Addr), PG (X.blk s H scope (compEnvC scope cl C X.env) fp) tg g)
    (hk : ∀ (s : Shared) (H : Hp) (C : Addr) (cl : List (Str × Addr)) (fp : List Addr), PE (X.blk s H scope (compEnvC scope cl C X.env) fp) kx tk)
    (he : ∀ (s : Shared) (H : Hp) (C : Addr) (cl : List (Str × Addr)) (fp : List Addr), PE (X.blk s H scope (compEnvC scope cl C X.env) fp) vx tv) (hs : ∀ x, foldedSetIterable iter X.env x = pure x := by intro _; rfl) :
    PE X (.DictComp kx vx [⟨tg, iter, [], 0⟩] scope pos) (tDcT wi g tk tv (own.map (·.2))) := by
  refine ⟨fun pins s σ H Q I h => ?_⟩
  rw [arm_eval_DictComp]
  refine dcT_core hu hc hN I hi ok hg hk he hs h fun D C s' m H' I' q hns f => ⟨m, hns, fun h2 sb => ?_⟩
  obtain ⟨a0, a1, _, a3, a4, a5⟩ := f
  exact ⟨.ref D, H', I'.turned (t' := s'.toks) (fun b o hb e => (sb.2 b hb).trans e) a0 a1 a3 a4 a5, rfl, q⟩
/-- over a text -/
theorem dcT_it {J : It} {N : Nat} {G : Hp → Prop} {Y : Nat → Hp → V → Hp → Prop} {g : TG} {tk tv : TE} {vs : List Nat} {σ : L2.St} {H1 : Hp} {D : Addr} {Qd : Hp → Prop} (Wk : Walk J N G Y) (Pv : Nat → Hp → Prop) (h0 : Pv 0 (upd H1 D (.dT []))) (hl : ∀ i H, i ≤ N → Pv i H → G H)
    (hs : ∀ i x H H', i < N → Pv i H → Y i H x H' → g x (wipe σ vs) H' fun σ2 H2 => wipe σ2 vs = wipe σ vs ∧
      tk σ2 H2 fun y H4 => tv σ2 H4 fun z H5 => ∃ kvs k b, y = .ref b ∧ H5 b = some (.tup (k.map kV)) ∧ H5 D = some (.dT kvs) ∧ kvs.length < sizeLine ∧ Pv (i + 1) (upd H5 D (.dT (putK kvs k z)))) (hd : ∀ H, Pv N H → Qd H) :
    ∃ W : Nat → Nat → Hp → Prop, (∃ m, W 0 m (upd H1 D (.dT []))) ∧ DcTW g tk tv vs σ J D W Qd := by
  refine ⟨fun i m H => m = N - i ∧ i ≤ N ∧ Pv i H, ⟨N, by simp, Nat.zero_le _, h0⟩, ?_⟩
  rintro i m H ⟨rfl, hi, p⟩
  rcases Nat.lt_or_ge i N with q | q
  · refine .inr ⟨Wk.goes i H q (hl i H hi p), Pv (i + 1), fun H' p' => ⟨N - (i + 1), by omega, rfl, q, p'⟩, fun x H' y => ?_⟩
    exact hs i x H H' q p (Wk.yields i H x H' q (hl i H hi p) y)
  · have : i = N := by omega
    subst this
    exact .inl ⟨Wk.stops H (hl i H hi p), hd H p⟩
end
end TR
end
section
set_option maxHeartbeats 4000000
set_option linter.all false
namespace TM
/-- what follows c: the sign in B where A has c -/
def nxt (A B : List Nat) (c : Nat) : Nat := B.getD (A.idxOf c) 46
def pw (φ : Nat → Nat) : Nat → Nat → Nat
  | 0, s => s
  | n + 1, s => φ (pw φ n s)
theorem pw_add (φ : Nat → Nat) (m s : Nat) : ∀ n, pw φ (m + n) s = pw φ m (pw φ n s) := fun n => by
  induction m with
  | zero => rw [Nat.zero_add]; rfl
  | succ m ih =>
    rw [Nat.succ_add]
    show φ (pw φ (m + n) s) = φ (pw φ m (pw φ n s))
    rw [ih]
theorem pw_mem {φ : Nat → Nat} {M : List Nat} (h : ∀ c ∈ M, φ c ∈ M) {s : Nat} (hs : s ∈ M) : ∀ n, pw φ n s ∈ M
  | 0 => hs
  | n + 1 => h _ (pw_mem h hs n)
/-- maps M to M, no two to one -/
structure Onto (φ : Nat → Nat) (M : List Nat) : Prop where
  mem : ∀ c ∈ M, φ c ∈ M
  inj : ∀ c ∈ M, ∀ d ∈ M, φ c = φ d → c = d
theorem pw_inj {φ : Nat → Nat} {M : List Nat} (O : Onto φ M) : ∀ (n : Nat) {c d : Nat}, c ∈ M → d ∈ M → pw φ n c = pw φ n d → c = d
  | 0, _, _, _, _, e => e
  | n + 1, c, d, hc, hd, e => pw_inj O n hc hd (O.inj _ (pw_mem O.mem hc n) _ (pw_mem O.mem hd n) e)
theorem few : ∀ (n : Nat) (l : List Nat), l.Nodup → (∀ c ∈ l, 97 ≤ c ∧ c < 97 + n) → l.length ≤ n
  | 0, l, _, h => by
    cases l with
    | nil => exact Nat.le_refl _
    | cons c l =>
      have := h c List.mem_cons_self
      omega
  | n + 1, l, nd, h => by
    by_cases q : (97 + n) ∈ l
    · have e := List.length_erase_of_mem q
      have ih := few n (l.erase (97 + n)) (nd.erase _) fun c hc => by
        have h1 := (List.Nodup.mem_erase_iff nd).mp hc
        have h2 := h c h1.2
        have h3 := h1.1
        omega
      omega
    · have ih := few n l nd fun c hc => by
        have h2 := h c hc
        have : c ≠ 97 + n := fun z => q (by rw [← z]; exact hc)
        omega
      omega
theorem least {p : Nat → Prop} : ∀ n, (∃ k, k ≤ n ∧ p k) → ∃ k, k ≤ n ∧ p k ∧ ∀ j, j < k → ¬ p j
  | 0, ⟨k, hk, h⟩ => by
    obtain rfl : k = 0 := by omega
    exact ⟨0, Nat.le_refl _, h, fun j hj => absurd hj (Nat.not_lt_zero _)⟩
  | n + 1, ⟨k, hk, h⟩ => by
    by_cases q : ∃ k, k ≤ n ∧ p k
    · obtain ⟨k, h1, h2, h3⟩ := least n q
      exact ⟨k, by omega, h2, h3⟩
    · have : k = n + 1 := by
        by_cases z : k ≤ n
        · exact absurd ⟨k, z, h⟩ q
        · omega
      subst this
      exact ⟨n + 1, Nat.le_refl _, h, fun j hj hp => q ⟨j, by omega, hp⟩⟩
/-- a circle's length -/
structure Ring (φ : Nat → Nat) (s L : Nat) : Prop where
  one : 1 ≤ L
  back : pw φ L s = s
  no : ∀ i, 1 ≤ i → i < L → pw φ i s ≠ s
theorem ring_ex {φ : Nat → Nat} {M : List Nat} (O : Onto φ M) (hM : ∀ c ∈ M, 97 ≤ c ∧ c < 123) {s : Nat} (hs : s ∈ M) : ∃ L, L ≤ 26 ∧ Ring φ s L := by
  have two : ∃ i j, i < j ∧ j ≤ 26 ∧ pw φ i s = pw φ j s := by
    refine Classical.byContradiction fun hn => ?_
    have nd : ((List.range 27).map fun i => pw φ i s).Nodup := by
      refine List.pairwise_map.mpr ((List.pairwise_lt_range (n := 27)).imp_of_mem fun {a b} ha hb hab => ?_)
      intro e
      exact hn ⟨a, b, hab, by have := List.mem_range.mp hb; omega, e⟩
    have := few 26 _ nd fun c hc => by
      obtain ⟨i, _, rfl⟩ := List.mem_map.mp hc
      exact hM _ (pw_mem O.mem hs i)
    rw [List.length_map, List.length_range] at this
    omega
  obtain ⟨i, j, hij, hj, e⟩ := two
  have e2 : pw φ (j - i) s = s := by
    have : j = i + (j - i) := by omega
    rw [this, pw_add] at e
    exact (pw_inj O i hs (pw_mem O.mem hs _) e).symm
  obtain ⟨k, h1, ⟨h2, h3⟩, h4⟩ := least (p := fun k => 1 ≤ k ∧ pw φ k s = s) 26 ⟨j - i, by omega, by omega, e2⟩
  exact ⟨k, h1, h2, h3, fun i hi hk e => h4 i hk ⟨hi, e⟩⟩
theorem Ring.uniq {φ : Nat → Nat} {s L L' : Nat} (a : Ring φ s L) (b : Ring φ s L') : L = L' := by
  rcases Nat.lt_trichotomy L L' with h | h | h
  · exact absurd a.back (b.no L a.one h)
  · exact h
  · exact absurd b.back (a.no L' b.one h)
theorem Ring.times {φ : Nat → Nat} {s L : Nat} (a : Ring φ s L) : ∀ k, pw φ (k * L) s = s
  | 0 => by rw [Nat.zero_mul]; rfl
  | k + 1 => by
    rw [Nat.succ_mul, Nat.add_comm, pw_add, a.times k]
    exact a.back
theorem Ring.mod {φ : Nat → Nat} {s L : Nat} (a : Ring φ s L) (n : Nat) : pw φ (n % L) s = pw φ n s := by
  have e : n = n % L + (n / L) * L := by
    have := Nat.mod_add_div n L
    rw [Nat.mul_comm] at this
    omega
  conv => rhs; rw [e, pw_add, a.times]
/-- the next ring place -/
theorem Ring.step {φ : Nat → Nat} {M : List Nat} (O : Onto φ M) {s L i j : Nat} (hs : s ∈ M) (a : Ring φ s L) (hi : i < L) (hj : j < L) (e : pw φ i s = pw φ j s) : i = j := by
  have aux : ∀ {i j : Nat}, i < j → j < L → pw φ i s = pw φ j s → False := fun {i j} hij hj e => by
    have hh : j = i + (j - i) := by omega
    rw [hh, pw_add] at e
    have := (pw_inj O i hs (pw_mem O.mem hs _) e).symm
    exact a.no _ (by omega) (by omega) this
  rcases Nat.lt_trichotomy i j with h | h | h
  · exact (aux h hj e).elim
  · exact h
  · exact (aux h hi e.symm).elim
theorem getD_some {l : List Nat} {i : Nat} (h : i < l.length) : l[i]? = some (l.getD i 46) := by
  rw [List.getD_eq_getElem?_getD, List.getElem?_eq_getElem h]
  rfl
structure Two (f : Nat → Nat) (A B : List Nat) : Prop where
  s : Sig f
  e : B = A.map f
  nd : (mb A).Nodup
  pm : (mb B).Perm (mb A)
theorem mem_mb {l : List Nat} {c : Nat} : c ∈ mb l ↔ c ∈ l ∧ c ≠ 46 := by
  unfold mb
  rw [List.mem_filter]
  simp
theorem one_place : ∀ {l : List Nat} {c i j : Nat}, (mb l).Nodup → c ≠ 46 → l[i]? = some c → l[j]? = some c → i = j
  | [], _, _, _, _, _, h, _ => by simp at h
  | x :: l, c, i, j, nd, hc, hi, hj => by
    have nd' : (mb l).Nodup := by
      by_cases q : x = 46
      · subst q
        exact nd
      · have e : mb (x :: l) = x :: mb l := by simp [mb, q]
        rw [e] at nd
        exact (List.nodup_cons.mp nd).2
    have no : x = c → c ∉ l := fun q hm => by
      subst q
      have e : mb (x :: l) = x :: mb l := by simp [mb, hc]
      rw [e] at nd
      exact (List.nodup_cons.mp nd).1 (mem_mb.mpr ⟨hm, hc⟩)
    match i, j with
    | 0, 0 => rfl
    | 0, j + 1 =>
      have h1 : x = c := by simpa using hi
      have h2 : l[j]? = some c := by simpa using hj
      exact (no h1 (List.mem_of_getElem? h2)).elim
    | i + 1, 0 =>
      have h1 : x = c := by simpa using hj
      have h2 : l[i]? = some c := by simpa using hi
      exact (no h1 (List.mem_of_getElem? h2)).elim
    | i + 1, j + 1 => rw [one_place (i := i) (j := j) nd' hc (by simpa using hi) (by simpa using hj)]
theorem idx_at {l : List Nat} {c : Nat} (h : c ∈ l) : l.idxOf c < l.length ∧ l[l.idxOf c]? = some c := by
  have h1 := List.idxOf_lt_length_of_mem h
  exact ⟨h1, by rw [List.getElem?_eq_getElem h1, List.getElem_idxOf]⟩
theorem idx_uniq {l : List Nat} {c i : Nat} (nd : (mb l).Nodup) (hc : c ≠ 46) (h : l[i]? = some c) : l.idxOf c = i :=
  one_place nd hc (idx_at (List.mem_of_getElem? h)).2 h
section
variable {f : Nat → Nat} {A B : List Nat}
theorem Two.len (T : Two f A B) : B.length = A.length := by rw [T.e, List.length_map]
theorem Two.ndB (T : Two f A B) : (mb B).Nodup := T.pm.nodup_iff.mpr T.nd
theorem Two.mbB (T : Two f A B) : mb B = (mb A).map f := by rw [T.e, mb_map T.s]
theorem Two.onto (T : Two f A B) : Onto f (mb A) := by
  have h := T.mbB
  refine ⟨fun c hc => T.pm.mem_iff.mp (by rw [h]; exact List.mem_map_of_mem hc), fun c hc d hd e => ?_⟩
  obtain ⟨i, hi⟩ := List.mem_iff_getElem?.mp hc
  obtain ⟨j, hj⟩ := List.mem_iff_getElem?.mp hd
  have nd := T.ndB
  rw [h] at nd
  have e1 : ((mb A).map f)[i]? = some (f c) := by rw [List.getElem?_map, hi]; rfl
  have e2 : ((mb A).map f)[j]? = some (f c) := by rw [List.getElem?_map, hj, e]; rfl
  obtain ⟨l1, g1⟩ := List.getElem?_eq_some_iff.mp e1
  obtain ⟨l2, g2⟩ := List.getElem?_eq_some_iff.mp e2
  have pw_ := List.pairwise_iff_getElem.mp nd
  have ij : i = j := by
    rcases Nat.lt_trichotomy i j with q | q | q
    · exact absurd (g1.trans g2.symm) (pw_ i j l1 l2 q)
    · exact q
    · exact absurd (g2.trans g1.symm) (pw_ j i l2 l1 q)
  subst ij
  rw [hi] at hj
  exact Option.some.inj hj
theorem Two.nxt (T : Two f A B) {c : Nat} (hc : c ∈ mb A) : nxt A B c = f c := by
  obtain ⟨h1, h2⟩ := idx_at (mem_mb.mp hc).1
  unfold TM.nxt
  have : B[A.idxOf c]? = some (f c) := by rw [T.e, List.getElem?_map, h2]; rfl
  rw [List.getD_eq_getElem?_getD, this]
  rfl
/-- back: the sign in A where B has c -/
theorem Two.prv (T : Two f A B) {c : Nat} (hc : c ∈ mb A) : TM.nxt B A c ∈ mb A ∧ f (TM.nxt B A c) = c ∧ A[B.idxOf c]? = some (TM.nxt B A c) ∧ A.idxOf (TM.nxt B A c) = B.idxOf c := by
  have hB := T.pm.mem_iff.mpr hc
  obtain ⟨h1, h2⟩ := idx_at (mem_mb.mp hB).1
  have hl : B.idxOf c < A.length := by rw [← T.len]; exact h1
  have e := getD_some hl
  have e2 : A[B.idxOf c]? = some (TM.nxt B A c) := e
  have e3 : f (TM.nxt B A c) = c := by
    have : B[B.idxOf c]? = some (f (TM.nxt B A c)) := by
      conv => lhs; rw [T.e]
      rw [List.getElem?_map, ← T.e, e2]
      rfl
    rw [h2] at this
    exact (Option.some.inj this).symm
  have n46 : TM.nxt B A c ≠ 46 := fun z => by
    rw [z, T.s.z] at e3
    exact (mem_mb.mp hc).2 e3.symm
  exact ⟨mem_mb.mpr ⟨List.mem_of_getElem? e2, n46⟩, e3, e2, idx_uniq T.nd n46 e2⟩
theorem Two.ontoP (T : Two f A B) : Onto (TM.nxt B A) (mb A) :=
  ⟨fun c hc => (T.prv hc).1, fun c hc d hd e => by rw [← (T.prv hc).2.1, ← (T.prv hd).2.1, e]⟩
theorem Two.pw_back (T : Two f A B) {c : Nat} (hc : c ∈ mb A) : ∀ n, pw f n (pw (TM.nxt B A) n c) = c
  | 0 => rfl
  | n + 1 => by
    rw [show n + 1 = n + 1 from rfl, pw_add f n _ 1]
    show pw f n (f (TM.nxt B A (pw (TM.nxt B A) n c))) = c
    rw [(T.prv (pw_mem T.ontoP.mem hc n)).2.1]
    exact T.pw_back hc n
end
theorem rounds_pw {n m : Nat} {t : List Nat} {f : Nat → Nat} {g : Grid} (s : Sig f) (h : tilts n m t (tilts n m t g) = rel f (tilts n m t g)) : ∀ k, rounds n m t (k + 1) g = rel (pw f k) (rounds n m t 1 g)
  | 0 => by
    show _ = (rounds n m t 1 g).map (List.map fun c => c)
    simp
  | k + 1 => by
    rw [rounds_rel s h k, rounds_pw s h k]
    show ((rounds n m t 1 g).map (List.map (pw f k))).map (List.map f) = _
    rw [List.map_map]
    refine List.map_congr_left fun l _ => ?_
    show (l.map (pw f k)).map f = _
    rw [List.map_map]
    rfl
/-- the sign at a place of the flat list -/
theorem flat_at {w j : Nat} : ∀ {g : Grid} {h i : Nat}, Rect h w g → i < h → j < w → g.flatten[i * w + j]? = some (cell g i j)
  | [], h, i, R, hi, _ => by
    have := R.1
    simp at this
    omega
  | r :: g, h, i, R, hi, hj => by
    have hr : r.length = w := R.2 r List.mem_cons_self
    have R' : Rect (h - 1) w g := ⟨by have := R.1; simp at this; omega, fun x hx => R.2 x (List.mem_cons_of_mem _ hx)⟩
    rw [List.flatten_cons]
    match i with
    | 0 =>
      rw [Nat.zero_mul, Nat.zero_add, List.getElem?_append_left (by omega)]
      show _ = some (r.getD j 0)
      rw [List.getD_eq_getElem?_getD, List.getElem?_eq_getElem (by omega)]
      rfl
    | i + 1 =>
      rw [List.getElem?_append_right (by rw [hr, Nat.succ_mul]; omega)]
      have : (i + 1) * w + j - r.length = i * w + j := by rw [hr, Nat.succ_mul]; omega
      rw [this, flat_at (i := i) R' (by omega) hj]
      rfl
end TM
end
section
set_option Elab.async false
set_option maxRecDepth 100000
set_option linter.all false
namespace TR
open PySem PySem.Spec PyProof.Rows L2 TM TK TB TP TH
theorem pssn_cut {X : Cx} {n : Nat} {st : Stmt} {rest : List Stmt} {t u : TS} (h1 : PSn n X st t) (h2 : PSsn n X rest u) : PSsn n X (st :: rest) (C8.tCut t u) := by
  intro pins s σ H D hn I h
  obtain ⟨Mid, hm, hu⟩ := h
  refine wpAny_execs_cons (thnN hn (h1 pins s σ H { D with nx := Mid } hn I hm) fun f s1 hn1 q => ?_)
  cases f with
  | next =>
    obtain ⟨σ', H', I', q⟩ := q
    exact h2 pins s1 σ' H' D hn1 I' (hu σ' H' q)
  | ret v => exact q
  | brk => exact q
  | cont => exact q
def tCallO (C : Addr) (sp : Sp) (E : XK) (tf : TE) (t : TA) : TE := fun σ H Q => tf σ H fun y H1 => ∃ a, y = V.ref a ∧ t σ H1 fun vs H2 => (∃ dx fs, H2 a = some (HO.ins C dx fs)) ∧ sp (V.ref a :: vs) H2 Q E
/-- f(e, ..), f an instance with its own __call__ -/
theorem pe_callO {X : Cx} {CX : CXT} {k : Nat} {C : Addr} {sp : Sp} {E : XK} {e fe : Expr} {es : List Expr} {tf : TE} {t : TA} {pos : Pos} {g : Addr} (hf : PE X fe tf) (c : StX.CallO X.K C g) (F : FnR X.prog X.w X.K X.mg X.base CX k g sp) (hr : Room k X.A) (hx : Passes CX X E) (ha : PA X (e :: es) t)
    (ht : eval (.Call fe (e :: es) [] pos) X.env = (do callWith pos (← eval fe X.env) [] (backTo pos (starEach (e :: es) X.env)) (backToKw pos (keywordEach [] X.env))) := by rfl)
    (he : starEach (e :: es) X.env = (false, eval e X.env) :: starEach es X.env := by rfl) (hpl : (backTo pos (starEach es X.env)).any (·.1) = false := by rfl) : PE X (.Call fe (e :: es) [] pos) (tCallO C sp E tf t) := by
  refine ⟨fun pins s σ H Q I h => ?_⟩
  refine Call_ (thn (hf.run pins s σ H _ I h) fun u s1 ⟨y, H1, I1, ry, a, ey, q⟩ => ?_) ht
  subst ey
  obtain rfl : u = Value.ref a := ry
  refine StX.callO_with (thn (ha.run pos pins s1 σ H1 _ I1 q) fun us s2 ⟨vs, H2, I2, r, hi, q2⟩ => ?_) he hpl
  obtain ⟨ox, od, J, hd⟩ := StX.insC_at I2 (.inr hi)
  exact ⟨⟨C, ox, od, J, hd⟩, StX.run_callO c F hr hx I2 (.inr hi) r q2⟩
def plV (w k : Nat) : List V := [.int ((k : Int) / w), .int ((k : Int) % w)]
def plK (w k : Nat) : List Key := [Sum.inl ((k : Int) / w), Sum.inl ((k : Int) % w)]
theorem plKV (w k : Nat) : (plK w k).map kV = plV w k := rfl
theorem plK_inj {w a b : Nat} (e : plK w a = plK w b) : a = b := by
  have h1 : (a : Int) / w = (b : Int) / w := by
    injection e with e1 e2
    exact Sum.inl.inj e1
  have h2 : (a : Int) % w = (b : Int) % w := by
    injection e with e1 e2
    injection e2 with e3 e4
    exact Sum.inl.inj e3
  have ha := Int.mul_ediv_add_emod (a : Int) w
  have hb := Int.mul_ediv_add_emod (b : Int) w
  rw [h1, h2] at ha
  have : (a : Int) = b := ha.symm.trans hb
  omega
theorem valV_no {κ : Type} [DecidableEq κ] {S : List Nat} {f : Nat → κ} {v : Nat → V} {k : κ} (h : ∀ m ∈ S, f m ≠ k) : valV (S.map fun m => (f m, v m)) k = none := by
  unfold valV
  rw [Option.map_eq_none_iff, List.find?_eq_none]
  intro x hx
  obtain ⟨m, hm, rfl⟩ := List.mem_map.mp hx
  simpa using h m hm
theorem valV_at {κ : Type} [DecidableEq κ] {f : Nat → κ} {v : Nat → V} : ∀ {S : List Nat} {m : Nat}, m ∈ S → (∀ a ∈ S, f a = f m → a = m) → valV (S.map fun m => (f m, v m)) (f m) = some (v m)
  | [], _, h, _ => by cases h
  | a :: S, m, h, hi => by
    unfold valV
    rw [List.map_cons, List.find?_cons]
    by_cases q : f a = f m
    · have e := hi a List.mem_cons_self q
      subst e
      simp
    · have : decide (f a = f m) = false := decide_eq_false q
      rw [this]
      have hm : m ∈ S := by
        rcases List.mem_cons.mp h with z | z
        · subst z
          exact absurd rfl q
        · exact z
      exact valV_at hm fun b hb => hi b (List.mem_cons_of_mem _ hb)
/-- from places to places: A ahead, B behind -/
def ExAt (H : Hp) (d : Addr) (w : Nat) (A B : List Nat) (S : List Nat) (qa : Nat → Addr) : Prop := H d = some (.dT (S.map fun m => (plK w (A.idxOf m), V.ref (qa m)))) ∧ ∀ m ∈ S, H (qa m) = some (.tup (plV w (B.idxOf m)))
theorem ExAt.same {H H' : Hp} {d w : Nat} {A B S : List Nat} {qa : Nat → Addr} (h : ExAt H d w A B S qa) (s : Same H H') : ExAt H' d w A B S qa := ⟨s _ _ h.1, fun m hm => s _ _ (h.2 m hm)⟩
theorem like_tilts {n m : Nat} : ∀ (t : List Nat) {g : Grid}, Rect n m g → Like g (tilts n m t g)
  | [], _, _ => ⟨List.Perm.refl _, fun h => h⟩
  | c :: t, _, R => (like_tilt (c := c) R).trans (like_tilts t (tilt_rect R))
theorem mem_srt {l : List Nat} {c : Nat} : c ∈ srt l ↔ c ∈ l := (srt_perm l).mem_iff
section
variable {P : Program} {w_ : World} {K : PySem.W.Frag} {mg : Str → Option Value} {base : Heap} {C D CU fRs fCl pM gM : Addr} {n : Nat} {fdM : FuncData}
abbrev NEx : List Str := ["tray", "word", "first", "second", "marble"]
theorem scEx : FnScope NEx ["tray", "word"] (defScope sExchange) := ⟨rfl, rfl, rfl, by decide +kernel, rfl, by decide +kernel, by decide +kernel⟩
def spEx (K : PySem.W.Frag) (C D : Addr) : Sp := fun vs H Q _ => ∃ (p q : Addr) (h w : Nat) (g : Grid) (t : List Nat), vs = [.ref p, .ref q] ∧ TrayAt K D H p g ∧ VG h w g ∧ WordAt C H q t ∧
  ∀ H' d qa, Same H H' → H d = none → ExAt H' d w (tilts h w t g).flatten (tilts h w t (tilts h w t g)).flatten (srt (mb (tilts h w t g).flatten)) qa → Q (.ref d) H'
theorem ok_ex {f : Addr} {fd : FuncData} (F : Fun K "exchange" "exchange" sExchange f fd) (b : Binds K fd ["tray", "word"] []) (hDC : D ≠ C) (CT : ClsT K mg D)
    (sf : PySem.W.selfFirst K D = true) (NO : NoOp K C Operator.RShift.info.2) (hs : PySem.W.findIn K (.ref D) (PySem.dunder Operator.RShift.info.2) = some (some (.ref fRs))) (hf : PySem.W.isFn K (.ref fRs) = true) (GRs : FnRn n P w_ K mg base CX0 5 fRs (spRs K C D))
    (PM : PropOf K D "marbles" pM gM) (GM : FnOk P w_ K mg base CX0 1 gM fdM ["self"] (spMb K D)) (bM : Binds K fdM ["self"] [])
    (CO : StX.CallO K D fCl) (GC : FnR P w_ K mg base (L2.CX P w_) 4 fCl (spCl K D CU)) :
    FnRn n P w_ K mg base CX0 6 f (spEx K C D) := by
  refine fn_n F b scEx (fun vs H Q E h => ?_) fun cdv A outer s H vs Q E hr h => ?_
  · obtain ⟨p, q, h, w, g, t, rfl, _⟩ := h
    rfl
  · obtain ⟨p, q, h, w, g, t, rfl, T0, hV, W0, k⟩ := h
    have nd := scEx.nd
    refine ⟨_, pssn_cons (psn_set (i := 2) nd rfl (.inr rfl) (pen_op (op_twoN hDC sf NO hs hf GRs hr pass0) (PE.up (pv 0)) (PE.up (pv 1))))
      (pssn_cons (psn_set (i := 3) nd rfl (.inr rfl) (pen_op (op_twoN hDC sf NO hs hf GRs hr pass0) (PE.up (pv 2)) (PE.up (pv 1))))
      (pssn_one (PS.up (ps_ret (pe_dcT (own := [("marble", 4)]) (g := gName 4) (hu_of hr) rfl nd (pi_str (pe_prop (pv 2) CT.cl PM GM (hr.mono (by decide)) bM .nil pass0 rfl)) (blkOk_by (N := NEx) (sc := defScope sExchange) (by decide +kernel)) (fun _ _ _ _ _ => pg_name (i := 4) nd rfl (.inl rfl))
        (fun _ _ _ _ _ => pe_callO (pv 2) CO GC (hr.mono (by decide)) passL (pa_cons (pv 4) pa_nil)) (fun _ _ _ _ _ => pe_callO (pv 3) CO GC (hr.mono (by decide)) passL (pa_cons (pv 4) pa_nil))))))), ?_⟩
    obtain ⟨dp, ap, hp, hSp⟩ := id T0
    obtain ⟨dq, hq⟩ := id W0
    have V1 := VG.tilts t hV
    have V2 := VG.tilts t V1
    refine ⟨_, rfl, _, rfl, p, dp, _, q, dq, _, rfl, rfl, hp, hq, p, q, h, w, g, t, rfl, T0, hV, W0, fun H1 p1 sm1 ht1 => ?_⟩
    obtain ⟨d1, a1, hp1, hS1⟩ := id ht1
    refine ⟨_, rfl, _, rfl, p1, d1, _, q, dq, _, rfl, rfl, hp1, sm1 _ _ hq, p1, q, h, w, _, t, rfl, ht1, V1, W0.same sm1, fun H2 p2 sm2 ht2 => ?_⟩
    have ht1' := ht1.same sm2
    obtain ⟨d1', a1', hp1', hS1'⟩ := id ht1'
    obtain ⟨d2, a2, hp2, hS2⟩ := id ht2
    have sm02 := sm1.trans sm2
    generalize hA : (tilts h w t g).flatten = A at k
    generalize hB : (tilts h w t (tilts h w t g)).flatten = B at k
    have ndA : (mb A).Nodup := by rw [← hA]; exact V1.nd
    have pmB : (mb B).Perm (mb A) := by
      rw [← hA, ← hB]
      exact (like_tilts t V1.rc).pm
    have ndB : (mb B).Nodup := pmB.nodup_iff.mpr ndA
    refine ⟨_, rfl, p1, d1', _, rfl, hp1', p1, h, w, _, rfl, ht1', V1, fun H3 sm3 => ⟨_, rfl, fun D_ hD => ?_⟩⟩
    rw [hA]
    have h26 : (srt (mb A)).length ≤ 26 := by
      rw [(srt_perm _).length_eq, ← hA]
      exact mb_26 V1
    have ndS : (srt (mb A)).Nodup := (srt_perm _).nodup_iff.mpr ndA
    have inA : ∀ m ∈ srt (mb A), A[A.idxOf m]? = some m ∧ m ≠ 46 := fun m hm => by
      have := mem_mb.mp (mem_srt.mp hm)
      exact ⟨(idx_at this.1).2, this.2⟩
    refine dcT_it (walk_str (z := S (srt (mb A)))) (fun i H4 => ∃ qa, Same H3 H4 ∧ ExAt H4 D_ w A B ((srt (mb A)).take i) qa)
      ⟨fun _ => 0, same_new hD, upd_same, fun m hm => by simp at hm⟩ (fun _ _ _ _ => True.intro) ?_ ?_
    · rintro i x H4 H5 hi ⟨qa, sm4, hEx⟩ ⟨rfl, c, hc, rfl⟩
      rw [S_at] at hc
      have hcS := List.mem_of_getElem? hc
      obtain ⟨hcA, c46⟩ := inA c hcS
      have hcB : B[B.idxOf c]? = some c := (idx_at (mem_mb.mp (pmB.mem_iff.mpr (mem_srt.mp hcS))).1).2
      have s23 := sm3.trans sm4
      have T1 := ht1'.same s23
      have T2 := ht2.same s23
      obtain ⟨e1, b1, g1, _⟩ := id T1
      obtain ⟨e2, b2, g2, _⟩ := id T2
      refine ⟨rfl, _, rfl, p1, rfl, _, rfl, ⟨e1, _, g1⟩, p1, _, h, w, _, rfl, T1, V1, .inl ⟨c, A.idxOf c, rfl, c46, by rw [hA]; exact hcA, fun H6 q1 sm6 hq1 hq1' => ?_⟩⟩
      have T2' := T2.same sm6
      refine ⟨_, rfl, p2, rfl, _, rfl, ⟨e2, _, sm6 _ _ g2⟩, p2, _, h, w, _, rfl, T2', V2, .inl ⟨c, B.idxOf c, rfl, c46, by rw [hB]; exact hcB, fun H7 q2 sm7 hq2 hq2' => ?_⟩⟩
      have hEx7 := (hEx.same sm6).same sm7
      have take1 : (srt (mb A)).take (i + 1) = (srt (mb A)).take i ++ [c] := by rw [List.take_add_one, hc]; rfl
      have cnew : c ∉ (srt (mb A)).take i := fun hm => by
        obtain ⟨j, hj⟩ := List.mem_iff_getElem?.mp hm
        rw [List.getElem?_take] at hj
        split at hj
        · rename_i hji
          have nd := List.pairwise_iff_getElem.mp ndS
          obtain ⟨l1, z1⟩ := List.getElem?_eq_some_iff.mp hj
          obtain ⟨l2, z2⟩ := List.getElem?_eq_some_iff.mp hc
          exact nd j i l1 l2 hji (z1.trans z2.symm)
        · cases hj
      have inj : ∀ m ∈ (srt (mb A)).take i, plK w (A.idxOf m) ≠ plK w (A.idxOf c) := fun m hm e => by
        have e2 := plK_inj e
        have := (inA m (List.mem_of_mem_take hm)).1
        rw [e2, hcA] at this
        have : c = m := Option.some.inj this
        exact cnew (by rw [this]; exact hm)
      obtain ⟨qn, hqn1, hqn2⟩ : ∃ qn : Nat → Addr, qn c = q2 ∧ ∀ m, m ≠ c → qn m = qa m := ⟨fun m => if m = c then q2 else qa m, if_pos rfl, fun m hm => if_neg hm⟩
      refine ⟨_, plK w (A.idxOf c), q1, rfl, by rw [plKV]; exact sm7 _ _ hq1', hEx7.1, ?_, qn, ?_, ?_⟩
      · rw [List.length_map, List.length_take]
        show _ < 16777216
        omega
      · exact same_put ((sm4.trans sm6).trans sm7) hD
      have hqD : ∀ {b : Addr} {xs : List V}, H7 b = some (.tup xs) → b ≠ D_ := fun e z => by
        rw [z, hEx7.1] at e
        cases e
      refine ⟨?_, fun m hm => ?_⟩
      · rw [upd_same, putK_new _ (valV_no inj), take1, List.map_append]
        congr 3
        · refine List.map_congr_left fun m hm => ?_
          rw [hqn2 m (fun z => cnew (by rw [← z]; exact hm))]
        · simp [hqn1]
      · rw [take1] at hm
        rcases List.mem_append.mp hm with hm | hm
        · rw [hqn2 m (fun z => cnew (by rw [← z]; exact hm))]
          have := hEx7.2 m hm
          rw [upd_ne (hqD this)]
          exact this
        · rw [List.mem_singleton.mp hm, hqn1, upd_ne (hqD hq2')]
          exact hq2'
    · rintro H4 ⟨qa, sm4, hEx⟩
      rw [S_size, List.take_length] at hEx
      exact k _ D_ qa ((sm02.trans sm3).trans sm4) ((sm02.trans sm3).free hD) hEx
end
end TR
end
section
set_option Elab.async false
set_option maxRecDepth 100000
set_option linter.all false
namespace TR
open PySem PySem.Spec PyProof.Rows L2 TM TK TB TP TH
theorem dget_same {H H' : Hp} {d : Addr} {y : V} {r : Option V} (h : DGet H d y r) (s : Same H H') : DGet H' d y r := by
  have rd : ∀ {u : HO}, Rd H d u → Rd H' d u := fun z => by
    rcases z with z | ⟨o, z⟩
    · exact .inl (s _ _ z)
    · exact .inr ⟨o, s _ _ z⟩
  rcases h with ⟨kvs, k, z, e, l⟩ | ⟨kvs, k, b, z, e, eb, l⟩
  · exact .inl ⟨kvs, k, rd z, e, l⟩
  · exact .inr ⟨kvs, k, b, rd z, e, s _ _ eb, l⟩
section
variable {P : Program} {w_ : World} {K : PySem.W.Frag} {mg : Str → Option Value} {base : Heap}
abbrev NCf : List Str := ["start", "followers", "circle", "following"]
theorem scCf : FnScope NCf ["start", "followers"] (defScope sCircleFrom) := ⟨rfl, rfl, rfl, by decide +kernel, rfl, by decide +kernel, by decide +kernel⟩
/-- from x0 on: val i is what follows after i steps, back at x0 after L -/
def spCf (K : PySem.W.Frag) : Sp := fun vs H Q _ => ∃ (x0 : V) (d : Addr) (val : Nat → V) (pd : Nat → PyData) (L : Nat), vs = [x0, .ref d] ∧ val 0 = x0 ∧ 1 ≤ L ∧ L ≤ 64 ∧ (∀ i, i < L → DGet H d (val i) (some (val (i + 1)))) ∧
  (∀ i, i ≤ L → (∀ H', Same H H' → Dp K H' (val i) (pd i)) ∧ SeqAt.shaped (pd i) = true) ∧ (∀ i, 1 ≤ i → i ≤ L → PyData.eqv (pd i) (pd 0) = decide (i = L)) ∧
  ∀ H' l, Same H H' → H l = none → H' l = some (.lst ((List.range L).map val)) → Q (.ref l) H'
theorem ok_cf {f : Addr} {fd : FuncData} (F : Fun K "_circle_from" "_circle_from" sCircleFrom f fd) : FnOk P w_ K mg base CX0 1 f fd ["start", "followers"] (spCf K) := by
  refine F.ok scCf (fun vs H Q E h => ?_) (fun cdv A outer s H vs Q E hr h => ?_)
  · obtain ⟨x0, d, val, pd, L, rfl, _⟩ := h
    rfl
  · obtain ⟨x0, d, val, pd, L, rfl, rfl, L1, L64, hG, hD, hE, k⟩ := h
    have nd := scCf.nd
    refine ⟨_, pss_cons (ps_set (i := 2) nd rfl (.inl rfl) (pe_lst (pa_cons (pv 0) pa_nil)))
      (pss_cons (ps_set (i := 3) nd rfl (.inl rfl) (pe_dget (hu_of hr) (pv 1) (pv 0) (fun _ _ => rfl)))
      (pss_cons (ps_while PassesOwn.never (pt_cmpR (op_neD hr.units) (pv 3) (pv 0) (nomark _))
        (pss_cons (ps_expr (pe_bm PySem.F.plainAttrs_list PySem.F.slot_list_append PySem.F.type_list_append mt_append (pv 2) (pa_cons (pv 3) pa_nil)))
        (pss_one (ps_set (i := 3) nd rfl (.inl rfl) (pe_dget (hu_of hr) (pv 1) (pv 3) (fun _ _ => rfl))))))
      (pss_one (ps_ret (pv 2))))), ?_⟩
    refine ⟨_, rfl, by show 1 ≤ sizeLine; decide, fun l hl => ?_⟩
    have s1 : Same H (upd H l (.lst [val 0])) := same_new hl
    refine ⟨_, rfl, _, rfl, d, _, rfl, dget_same (hG 0 (by omega)) s1, ?_⟩
    refine while_by (fun σ H1 => ∃ i, 1 ≤ i ∧ i ≤ L ∧ σ = [some (val 0), some (.ref d), some (.ref l), some (val i)] ∧ Same H H1 ∧ H1 l = some (.lst ((List.range i).map val)))
      (fun σ H1 => match H1 l with | some (.lst xs) => L - xs.length | _ => 0) ⟨1, by omega, L1, rfl, s1, by rw [upd_same]; rfl⟩ ?_ ?_
    · rintro σ H1 ⟨i, i1, iL, rfl, sm, hl1⟩
      refine ⟨_, rfl, _, rfl, pd i, pd 0, (hD i iL).1 _ sm, (hD 0 (by omega)).1 _ sm, (hD i iL).2, (hD 0 (by omega)).2, _, rfl, ?_⟩
      rw [hE i i1 iL]
      by_cases q : i = L
      · rw [decide_eq_true q]
        subst q
        exact ⟨_, rfl, k H1 l sm hl hl1⟩
      · rw [decide_eq_false q]
        have hlen : ((List.range i).map val).length = i := by rw [List.length_map, List.length_range]
        refine ⟨_, rfl, .inl ⟨rfl, _, SqL.of hl1⟩, _, rfl, l, _, _, rfl, rfl, hl1, ?_, ?_⟩
        · rw [hlen]
          show i < 16777216
          omega
        have s2 : Same H (upd H1 l (.lst ((List.range i).map val ++ [val i]))) := same_put sm hl
        refine ⟨_, rfl, _, rfl, d, _, rfl, dget_same (hG i (by omega)) s2, ?_, ?_⟩
        · refine ⟨i + 1, by omega, by omega, rfl, s2, ?_⟩
          rw [upd_same, List.range_succ, List.map_append]
          rfl
        · rw [upd_same, hl1]
          show L - ((List.range i).map val ++ [val i]).length < L - ((List.range i).map val).length
          rw [List.length_append, hlen]
          show L - (i + 1) < L - i
          omega
    · rintro σ H1 Q1 Q2 hq ⟨x, e1, y, e2, d1, d2, h1, h2, h3, h4, c, e3, q⟩
      exact ⟨x, e1, y, e2, d1, d2, h1, h2, h3, h4, c, e3, hq _ _ q⟩
end
end TR
end
section
set_option maxHeartbeats 4000000
set_option linter.all false
namespace TM
theorem flatten_len {h w : Nat} {g : Grid} (R : Rect h w g) : g.flatten.length = h * w := by
  rw [List.length_flatten]
  have : g.map List.length = List.replicate h w := List.eq_replicate_iff.mpr ⟨by rw [List.length_map]; exact R.1, fun x hx => by
    obtain ⟨l, hl, rfl⟩ := List.mem_map.mp hx
    exact R.2 l hl⟩
  rw [this]
  simp
/-- a place of the flat list is a row and a column -/
theorem at_flat {h w k : Nat} {g : Grid} (R : Rect h w g) (hk : k < g.flatten.length) : k / w < h ∧ k % w < w ∧ g.flatten[k]? = some (cell g (k / w) (k % w)) := by
  rw [flatten_len R] at hk
  have w0 : 0 < w := by
    rcases Nat.eq_zero_or_pos w with z | z
    · rw [z, Nat.mul_zero] at hk
      omega
    · exact z
  have h1 : k / w < h := Nat.div_lt_of_lt_mul (by rw [Nat.mul_comm]; exact hk)
  have h2 := Nat.mod_lt k w0
  refine ⟨h1, h2, ?_⟩
  have e := flat_at R h1 h2
  have : k / w * w + k % w = k := by rw [Nat.mul_comm]; exact Nat.div_add_mod k w
  rw [this] at e
  exact e
theorem same_cell {h w r c r' c' : Nat} {g : Grid} (R : Rect h w g) (nd : (mb g.flatten).Nodup) (hr : r < h) (hc : c < w) (hr' : r' < h) (hc' : c' < w) (e : cell g r c = cell g r' c') (n : cell g r c ≠ 46) : r = r' ∧ c = c' := by
  have e1 := flat_at R hr hc
  have e2 := flat_at R hr' hc'
  rw [← e] at e2
  have k := one_place nd n e1 e2
  have w0 : 0 < w := by omega
  have d1 : (r * w + c) / w = r := by rw [Nat.mul_comm, Nat.mul_add_div w0, Nat.div_eq_of_lt hc, Nat.add_zero]
  have d2 : (r' * w + c') / w = r' := by rw [Nat.mul_comm, Nat.mul_add_div w0, Nat.div_eq_of_lt hc', Nat.add_zero]
  have er : r = r' := by rw [← d1, ← d2, k]
  subst er
  exact ⟨rfl, by omega⟩
theorem cell_rel {f : Nat → Nat} {h w r c : Nat} {g : Grid} (R : Rect h w g) (hr : r < h) (hc : c < w) : cell (rel f g) r c = f (cell g r c) := by
  have hg : r < g.length := by rw [R.1]; exact hr
  have e := getD_at hg
  have hl := R.2 _ (List.mem_of_getElem? e)
  unfold cell
  have e2 : (rel f g).getD r [] = (g.getD r []).map f := by
    show (g.map (List.map f)).getD r [] = _
    rw [List.getD_eq_getElem?_getD, List.getElem?_map, e]
    rfl
  rw [e2]
  generalize g.getD r [] = l at hl
  rw [List.getD_eq_getElem?_getD, List.getElem?_map, List.getD_eq_getElem?_getD, List.getElem?_eq_getElem (show c < l.length by omega)]
  rfl
structure Fill (φ : Nat → Nat) (G1 : Grid) (h w : Nat) (seen : List Nat) (G : Grid) : Prop where
  rc : Rect h w G
  at_ : ∀ r c, r < h → c < w → cell G r c = if cell G1 r c ≠ 46 ∧ φ (cell G1 r c) ∈ seen then φ (cell G1 r c) else 46
theorem fill_start (φ : Nat → Nat) (G1 : Grid) (h w : Nat) : Fill φ G1 h w [] (List.replicate h (List.replicate w 46)) := by
  refine ⟨⟨List.length_replicate, fun r hr => by rw [(List.mem_replicate.mp hr).2, List.length_replicate]⟩, fun r c hr hc => ?_⟩
  rw [if_neg (fun z => by cases z.2)]
  unfold cell
  have e1 : (List.replicate h (List.replicate w 46)).getD r [] = List.replicate w 46 := by
    rw [List.getD_eq_getElem?_getD, List.getElem?_replicate, if_pos hr]
    rfl
  rw [e1, List.getD_eq_getElem?_getD, List.getElem?_replicate, if_pos hc]
  rfl
theorem Fill.put {φ : Nat → Nat} {G1 G : Grid} {h w r0 c0 m : Nat} {seen : List Nat} (F : Fill φ G1 h w seen G) (hr : r0 < h) (hc : c0 < w) (n : cell G1 r0 c0 ≠ 46) (e : φ (cell G1 r0 c0) = m)
    (u : ∀ r c, r < h → c < w → cell G1 r c ≠ 46 → φ (cell G1 r c) = m → r = r0 ∧ c = c0) : Fill φ G1 h w (seen ++ [m]) (putc G r0 c0 m) := by
  refine ⟨put_rect F.rc, fun r c hr' hc' => ?_⟩
  rw [put_cell F.rc hr hc hr' hc']
  by_cases q : r = r0 ∧ c = c0
  · obtain ⟨rfl, rfl⟩ := q
    rw [if_pos ⟨rfl, rfl⟩, if_pos ⟨n, by rw [e]; simp⟩, e]
  · rw [if_neg q, F.at_ r c hr' hc']
    by_cases q2 : cell G1 r c ≠ 46 ∧ φ (cell G1 r c) ∈ seen
    · rw [if_pos q2, if_pos ⟨q2.1, List.mem_append_left _ q2.2⟩]
    · rw [if_neg q2, if_neg]
      intro z
      rcases List.mem_append.mp z.2 with y | y
      · exact q2 ⟨z.1, y⟩
      · exact q (u r c hr' hc' z.1 (List.mem_singleton.mp y))
theorem Fill.all {φ : Nat → Nat} {G1 G : Grid} {h w : Nat} {S : List Nat} (F : Fill φ G1 h w S G) (R : Rect h w G1) (z : φ 46 = 46) (a : ∀ r c, r < h → c < w → cell G1 r c ≠ 46 → φ (cell G1 r c) ∈ S) : G = rel φ G1 := by
  refine cell_ext F.rc (map_rect R fun l => List.length_map ..) fun r c hr hc => ?_
  rw [F.at_ r c hr hc, cell_rel R hr hc]
  by_cases q : cell G1 r c = 46
  · rw [if_neg (fun y => y.1 q), q, z]
  · rw [if_pos ⟨q, a r c hr hc q⟩]
theorem pw_46 {f : Nat → Nat} (h : f 46 = 46) : ∀ n, pw f n 46 = 46
  | 0 => rfl
  | n + 1 => by
    show f (pw f n 46) = 46
    rw [pw_46 h n, h]
end TM
end
section
set_option Elab.async false
set_option maxRecDepth 100000
set_option linter.all false
namespace TR
open PySem PySem.Spec PyProof.Rows L2 TM TK TB TP TH TU
section
variable {P : Program} {w_ : World} {K : PySem.W.Frag} {mg : Str → Option Value} {base : Heap} {C D CU fRs fCl fI fEx fCf fCn fN pM gM pH gH pW gW : Addr} {n : Nat} {fdM fdH fdW fdCf fdCn fdN : FuncData}
theorem scCn : FnScope ["value", "limit"] ["value", "limit"] (defScope sCheckNumber) := ⟨rfl, rfl, rfl, by decide +kernel, rfl, by decide +kernel, by decide +kernel⟩
def spCn : Sp := fun vs H Q _ => ∃ (k l : Nat), vs = [.int k, .int l] ∧ k ≤ l ∧ Q .non H
theorem isN_ok {k l : Nat} (h : k ≤ l) : TA.isN (.int k) (l : Int) = true := by
  show (decide ((0 : Int) ≤ k) && decide ((k : Int) ≤ l)) = true
  rw [decide_eq_true (by omega), decide_eq_true (by omega)]
  rfl
theorem ok_cn {f : Addr} {fd : FuncData} (F : Fun K "check_number" "check_number" sCheckNumber f fd) (GN : FnOk P w_ K mg base CX0 1 fN fdN ["value", "limit"] (TA.spNum K)) (kN : PySem.W.keepIn K (.ref fN) = true) (bN : Binds K fdN ["value", "limit"] []) (mN : mg "is_number" = some (.ref fN)) :
    FnOk P w_ K mg base CX0 2 f fd ["value", "limit"] spCn := by
  refine F.ok scCn (fun vs H Q E h => ?_) (fun cdv A outer s H vs Q E hr h => ?_)
  · obtain ⟨k, l, rfl, _⟩ := h
    rfl
  · obtain ⟨k, l, rfl, hk, q⟩ := h
    refine ⟨_, pss_one (ps_if (pt_not (pt_val (pe_call GN hr rfl mN kN bN .nil pass0 (pa_cons (pv 0) (pa_cons (pv 1) pa_nil))))) pss_never pss_nil), ?_⟩
    refine ⟨_, rfl, _, rfl, _, _, _, _, _, rfl, TA.kn_int _, ?_⟩
    rw [isN_ok hk]
    exact ⟨true, rfl, iteF q⟩
abbrev NAr : List Str := ["tray", "word", "times", "first", "moves", "cells", "_", "marble", "circle", "row", "column", "rows", "line"]
theorem scAr : FnScope NAr ["tray", "word", "times"] (defScope sAfterRounds) := ⟨rfl, rfl, rfl, by decide +kernel, rfl, by decide +kernel, by decide +kernel⟩
def spAr (K : PySem.W.Frag) (C D : Addr) : Sp := fun vs H Q _ => ∃ (p q : Addr) (h w k : Nat) (g : Grid) (t : List Nat), vs = [.ref p, .ref q, .int k] ∧ TrayAt K D H p g ∧ VG h w g ∧ WordAt C H q t ∧ k ≤ 10 ^ 18 ∧
  ∀ H' r, Same H H' → TrayAt K D H' r (rounds h w t k g) → Q (.ref r) H'
structure TxtR (K : PySem.W.Frag) (mg : Str → Option Value) : Prop where
  em : ∃ u, mg "EMPTY" = some u ∧ RelV (.str (S [46])) u
  mr : ∃ u, mg "MAX_ROUNDS" = some u ∧ RelV (.int ((10 ^ 18 : Nat) : Int)) u
  range : mg "range" = none
  int : mg "int" = none
  len : mg "len" = none
theorem mb_let {h w : Nat} {g : Grid} (V : VG h w g) : ∀ c ∈ mb g.flatten, 97 ≤ c ∧ c < 123 := fun c hc => by
  have h1 := mem_mb.mp hc
  obtain ⟨r, hr, hcr⟩ := List.mem_flatten.mp h1.1
  rcases V.ok r hr c hcr with h2 | h2
  · exact absurd h2 h1.2
  · exact ⟨by omega, by omega⟩
theorem VG.rounds {h w : Nat} {t : List Nat} {g : Grid} : ∀ k, VG h w g → VG h w (TM.rounds h w t k g)
  | 0, V => V
  | k + 1, V => VG.tilts t (VG.rounds k V)
def plD (w k : Nat) : PyData := .tuple [.int ((k : Int) / w), .int ((k : Int) % w)]
theorem pl_dp {H : Hp} {a : Addr} {w k : Nat} (h : H a = some (.tup (plV w k))) : Dp K H (.ref a) (plD w k) := .tup (SqT.of h) (.cons (.int _) (.cons (.int _) .nil))
theorem pl_shaped (w k : Nat) : SeqAt.shaped (plD w k) = true := rfl
theorem pl_eqv (w a b : Nat) : PyData.eqv (plD w a) (plD w b) = decide (a = b) := by
  have h1 : PyData.eqv (plD w a) (plD w b) = (decide ((a : Int) / w = (b : Int) / w) && (decide ((a : Int) % w = (b : Int) % w) && true)) := by
    unfold plD
    simp [PyData.eqv, PyData.eqvAll]
    rfl
  rw [h1]
  by_cases q : a = b
  · subst q
    simp
  · rw [decide_eq_false q]
    have : ¬ ((a : Int) / w = (b : Int) / w ∧ (a : Int) % w = (b : Int) % w) := fun z => q (plK_inj (w := w) (by unfold plK; rw [z.1, z.2]))
    by_cases q1 : (a : Int) / w = (b : Int) / w
    · rw [decide_eq_true q1, decide_eq_false (fun z => this ⟨q1, z⟩)]
      rfl
    · rw [decide_eq_false q1]
      rfl
theorem ok_ar {f : Addr} {fd : FuncData} (F : Fun K "after_rounds" "after_rounds" sAfterRounds f fd) (b : Binds K fd ["tray", "word", "times"] []) (T : TxtR K mg) (hDC : D ≠ C) (CT : ClsT K mg D)
    (sf : PySem.W.selfFirst K D = true) (NO : NoOp K C Operator.RShift.info.2) (hs : PySem.W.findIn K (.ref D) (PySem.dunder Operator.RShift.info.2) = some (some (.ref fRs))) (hf : PySem.W.isFn K (.ref fRs) = true) (GRs : FnRn n P w_ K mg base CX0 5 fRs (spRs K C D))
    (PM : PropOf K D "marbles" pM gM) (GM : FnOk P w_ K mg base CX0 1 gM fdM ["self"] (spMb K D)) (bM : Binds K fdM ["self"] [])
    (PH : PropOf K D "height" pH gH) (GH : FnOk P w_ K mg base CX0 1 gH fdH ["self"] (spHt K D)) (bH : Binds K fdH ["self"] [])
    (PW_ : PropOf K D "width" pW gW) (GW : FnOk P w_ K mg base CX0 1 gW fdW ["self"] (spWd K D)) (bW : Binds K fdW ["self"] [])
    (CO : StX.CallO K D fCl) (GC : FnR P w_ K mg base (L2.CX P w_) 4 fCl (spCl K D CU))
    (GE : FnRn n P w_ K mg base CX0 6 fEx (spEx K C D)) (kE : PySem.W.keepIn K (.ref fEx) = true) (mE : mg "exchange" = some (.ref fEx))
    (GF : FnOk P w_ K mg base CX0 1 fCf fdCf ["start", "followers"] (spCf K)) (kF : PySem.W.keepIn K (.ref fCf) = true) (bF : Binds K fdCf ["start", "followers"] []) (mF : mg "_circle_from" = some (.ref fCf))
    (GN : FnOk P w_ K mg base CX0 2 fCn fdCn ["value", "limit"] spCn) (kN : PySem.W.keepIn K (.ref fCn) = true) (bN : Binds K fdCn ["value", "limit"] []) (mN : mg "check_number" = some (.ref fCn))
    (M : Mk K D fI) (GI : FnR P w_ K mg base CX0 3 fI (fun vs H Q E => ∃ ws rest, vs = ws ++ rest ∧ ws.length = 1 ∧ rest.length ≤ sizeLine ∧ ∀ p, H p = Option.none → spTi K D (ws ++ [V.ref p]) (upd H p (.tup rest)) Q E)) :
    FnRn n P w_ K mg base CX0 7 f (spAr K C D) := by
  refine fn_n F b scAr (fun vs H Q E h => ?_) fun cdv A outer s H vs Q E hr h => ?_
  · obtain ⟨p, q, h, w, k, g, t, rfl, _⟩ := h
    rfl
  · obtain ⟨p, q, h, w, k, g, t, rfl, T0, hV, W0, hk, kk⟩ := h
    have nd := scAr.nd
    refine ⟨_, pssn_cons (PS.up (ps_expr (pe_call GN (hr.mono (by decide)) rfl mN kN bN .nil pass0 (pa_cons (pv 2) (pa_cons (C8.pe_gc rfl T.mr) pa_nil)))))
      (pssn_cons (PS.up (ps_if (pt_cmpR op_eq (pv 2) pe_int (nomark _)) (pss_one (ps_ret (pv 0))) pss_nil))
      (pssn_cons (psn_set (i := 3) nd rfl (.inl rfl) (pen_op (op_twoN hDC sf NO hs hf GRs (hr.mono (by decide)) pass0) (PE.up (pv 0)) (PE.up (pv 1))))
      (pssn_cons (psn_set (i := 4) nd rfl (.inl rfl) (pen_call GE hr rfl mE kE pass0 (pan_cons (PE.up (pv 0)) (pan_cons (PE.up (pv 1)) pan_nil))))
      (pssn_cut (PS.up (ps_setLc (i := 5) (own := [("_", 6)]) (g := gName 6) (tt := tYes) rfl nd rfl rfl (sw_true rfl rfl rfl (by decide +kernel)) (pi_range1 (by rfl) T.range (pa_cons (pe_prop (pv 0) CT.cl PH GH (hr.mono (by decide)) bH .nil pass0 rfl) pa_nil)) (blkOk_by (N := NAr) (sc := defScope sAfterRounds) (by decide +kernel)) (fun _ _ _ _ _ => pg_name (i := 6) nd rfl (.inl rfl)) (fun _ _ _ _ _ => pts_nil)
          (fun _ _ _ _ _ => pe_op op_rep (pe_lst (pa_cons (C8.pe_gc rfl T.em) pa_nil)) (pe_prop (pv 0) CT.cl PW_ GW (hr.mono (by decide)) bW .nil pass0 rfl))))
      (pssn_cut (PS.up (ps_for PassesOwn.never rfl (pi_str (pe_prop (pv 3) CT.cl PM GM (hr.mono (by decide)) bM .nil pass0 rfl)) (pg_name (i := 7) nd rfl (.inl rfl))
          (pss_cons (ps_set (i := 8) nd rfl (.inl rfl) (pe_call GF (hr.mono (by decide)) rfl mF kF bF .nil pass0 (pa_cons (pe_callO (pv 3) CO GC (hr.mono (by decide)) passL (pa_cons (pv 7) pa_nil)) (pa_cons (pv 4) pa_nil))))
          (pss_cons (ps_asg (pe_ix ix_list (pv 8) (pe_op op_modN (pe_callTy call_int1 (by rfl) T.int (by decide +kernel) (pa_cons (pe_op op_sub (pv 2) pe_int) pa_nil)) (pe_callB call_len_seq (by rfl) T.len PySem.boot_len (pa_cons (pv 8) pa_nil))) (fun _ _ => rfl)) (pg_tup (by rfl) (pgs_cons (pg_name (i := 9) nd rfl (.inl rfl)) (pgs_cons (pg_name (i := 10) nd rfl (.inl rfl)) pgs_nil))))
          (pss_one (ps_asg (pv 7) (pg_sub (pe_ix ix_list (pv 5) (pv 9) (fun _ _ => rfl)) (pv 10) set_list)))))))
      (pssn_cons (PS.up (ps_setLc (i := 11) (own := [("line", 12)]) (g := gName 12) (tt := tYes) rfl nd rfl rfl (sw_true rfl rfl rfl (by decide +kernel)) (pi_list (pv 5)) (blkOk_by (N := NAr) (sc := defScope sAfterRounds) (by decide +kernel)) (fun _ _ _ _ _ => pg_name (i := 12) nd rfl (.inl rfl)) (fun _ _ _ _ _ => pts_nil)
          (fun _ _ _ _ _ => pe_joinK (K := K) rfl pe_str (pv 12))))
      (pssn_one (PS.up (ps_ret (pe_makeS M GI (hr.mono (by decide)) rfl CT.mgC pass0 (pv 11))))))))))), ?_⟩
    obtain ⟨dp, ap, hp, hSp⟩ := id T0
    obtain ⟨dq, hq⟩ := id W0
    have V1 := VG.tilts t hV
    have V2 := VG.tilts t V1
    refine ⟨_, rfl, k, 10 ^ 18, rfl, hk, ?_⟩
    refine ⟨_, rfl, rfl, _, rfl, ?_⟩
    by_cases k0 : k = 0
    · subst k0
      exact iteT ⟨_, rfl, kk H p (Same.refl H) T0⟩
    rw [show decide (V.int (k : Nat) = V.int 0) = false from decide_eq_false (fun z => k0 (by injection z with z; omega))]
    refine iteF ?_
    refine ⟨_, rfl, _, rfl, p, dp, _, q, dq, _, rfl, rfl, hp, hq, p, q, h, w, g, t, rfl, T0, hV, W0, fun H1 p1 sm1 ht1 => ?_⟩
    refine ⟨_, rfl, _, rfl, p, q, h, w, g, t, rfl, T0.same sm1, hV, W0.same sm1, fun H2 d qa sm2 hd0 hEx => ?_⟩
    have sm02 := sm1.trans sm2
    have Tt2 := T0.same sm02
    obtain ⟨dp2, ap2, hp2, _⟩ := id Tt2
    have h1 := hV.n1
    have h8 := hV.n8
    have w1 := hV.m1
    have w8 := hV.m8
    refine ⟨fun σ H3 => ∃ D0 ds v6, σ = [some (.ref p), some (.ref q), some (.int (k : Nat)), some (.ref p1), some (.ref d), some (.ref D0), v6, none, none, none, none, none, none] ∧ CellsAt H3 D0 ds (List.replicate h (List.replicate w 46)) ∧ ds.Nodup ∧ D0 ∉ ds ∧ H2 D0 = none ∧ (∀ b ∈ ds, H2 b = none) ∧ Same H2 H3, ?_, ?_⟩
    · refine ⟨_, rfl, p, dp2, _, rfl, hp2, p, h, w, g, rfl, Tt2, hV, (h : Int), rfl, by omega, by omega, fun D hD => lc_range (lo := 0) (n := ((h : Nat) : Int).toNat) (fun i H3 => ∃ ds, H3 D = some (.lst (ds.map V.ref)) ∧ ds.length = i ∧ (∀ b ∈ ds, H3 b = some (.lst ((List.replicate w 46).map sg))) ∧ ds.Nodup ∧ D ∉ ds ∧ (∀ b ∈ ds, H2 b = none) ∧ Same H2 H3)
        ⟨[], upd_same, rfl, fun b hb => (by cases hb), List.nodup_nil, by simp, fun b hb => (by cases hb), same_new hD⟩ ?_ ?_⟩
      · rintro i H3 hi ⟨ds, hL, hl, hrow, ndp, hDn, fr, sm⟩
        rw [Int.toNat_natCast] at hi
        refine ⟨rfl, by show 1 ≤ sizeLine; decide, fun e he => ?_⟩
        have se : Same H3 (upd H3 e (.lst [V.str (S [46])])) := same_new he
        have he' : upd H3 e (.lst [V.str (S [46])]) e = some (.lst [V.str (S [46])]) := upd_same
        generalize upd H3 e (.lst [V.str (S [46])]) = H4 at se he'
        have sm4 := sm.trans se
        refine ⟨_, rfl, p, dp2, _, rfl, sm4 _ _ hp2, p, h, w, g, rfl, Tt2.same sm4, hV, e, (w : Int), _, rfl, rfl, he', by omega, by omega, ?_, fun r hr => ?_⟩
        · show 1 * ((w : Nat) : Int).toNat ≤ 16777216
          rw [Int.toNat_natCast]
          omega
        rw [Int.toNat_natCast]
        have hL4 := se _ _ hL
        have nD : D ≠ r := ne_of_none hL4 hr
        have nl : ∀ b ∈ ds, b ≠ r := fun b hb => ne_of_none (se _ _ (hrow b hb)) hr
        refine ⟨_, by rw [upd_ne nD]; exact hL4, ?_, ds ++ [r], ?_, by simp [hl], fun b hb => ?_, ?_, ?_, ?_, same_put (sm4.trans (same_new hr)) hD⟩
        · rw [List.length_map]
          show _ < 16777216
          omega
        · rw [upd_same, List.map_append]
          rfl
        · rcases List.mem_append.mp hb with hb | hb
          · rw [upd_ne (fun z => hDn (by rw [← z]; exact hb)), upd_ne (nl b hb)]
            exact se _ _ (hrow b hb)
          · rw [List.mem_singleton.mp hb, upd_ne nD.symm, upd_same]
            exact congrArg (fun z => some (HO.lst z)) (rep_dots w)
        · rw [List.nodup_append]
          exact ⟨ndp, by simp, fun x hx y hy => by rw [List.mem_singleton.mp hy]; exact nl x hx⟩
        · intro z
          rcases List.mem_append.mp z with z | z
          · exact hDn z
          · exact nD (List.mem_singleton.mp z)
        · intro b hb
          rcases List.mem_append.mp hb with hb | hb
          · exact fr b hb
          · rw [List.mem_singleton.mp hb]
            exact sm4.free hr
      · rintro H3 ⟨ds, hL, hl, hrow, ndp, hDn, fr, sm⟩
        rw [Int.toNat_natCast] at hl
        refine ⟨D, ds, _, rfl, ⟨hL, by rw [hl, List.length_replicate], fun i a e => ?_⟩, ndp, hDn, hD, fr, sm⟩
        rw [hrow a (List.mem_of_getElem? e), List.getD_eq_getElem?_getD, List.getElem?_replicate, if_pos (by rw [← hl]; exact (List.getElem?_eq_some_iff.mp e).1)]
        rfl
    rintro σ H3 ⟨D0, ds, v6, rfl, C0, ndp, hDn, hD0, fr, sm3⟩
    obtain ⟨f0, sg0, hf0⟩ := turn_sig hV.rc V1.nd
    have hT : Two f0 (tilts h w t g).flatten (tilts h w t (tilts h w t g)).flatten := ⟨sg0, by rw [hf0, rel_flat], V1.nd, (like_tilts t V1.rc).pm⟩
    have hM := mb_let V1
    have hround : rounds h w t k g = rel (pw f0 (k - 1)) (tilts h w t g) := by
      have := rounds_pw sg0 hf0 (k - 1)
      rw [show k - 1 + 1 = k by omega] at this
      exact this
    have R1 := V1.rc
    generalize hB : (tilts h w t (tilts h w t g)).flatten = B at hT hEx
    have hA : (tilts h w t g).flatten = (tilts h w t g).flatten := rfl
    generalize hG1 : tilts h w t g = G1 at *
    have hcS : ∀ {c i : Nat}, (srt (mb G1.flatten))[i]? = some c → c ∈ mb G1.flatten := fun e => mem_srt.mp (List.mem_of_getElem? e)
    have ndS : (srt (mb G1.flatten)).Nodup := (srt_perm _).nodup_iff.mpr V1.nd
    have sS : (S (srt (mb G1.flatten))).cps.size = (srt (mb G1.flatten)).length := S_size _
    refine ⟨fun σ H4 => ∃ v7 v8 v9 v10 G, σ = [some (.ref p), some (.ref q), some (.int (k : Nat)), some (.ref p1), some (.ref d), some (.ref D0), v6, v7, v8, v9, v10, none, none] ∧ CellsAt H4 D0 ds G ∧ Fill (pw f0 (k - 1)) G1 h w (srt (mb G1.flatten)) G ∧ Same H2 H4, ?_, ?_⟩
    · have ht2 := (ht1.same sm2).same sm3
      obtain ⟨d1, a1, hp1, hS1⟩ := id ht2
      refine ⟨_, rfl, p1, d1, _, rfl, hp1, p1, h, w, _, rfl, ht2, V1, fun H4 sm4 => ⟨_, rfl, ?_⟩⟩
      refine for_it (walk_str (z := S (srt (mb G1.flatten)))) (fun i σ H5 => ∃ v7 v8 v9 v10 G, σ = [some (.ref p), some (.ref q), some (.int (k : Nat)), some (.ref p1), some (.ref d), some (.ref D0), v6, v7, v8, v9, v10, none, none] ∧ CellsAt H5 D0 ds G ∧ Fill (pw f0 (k - 1)) G1 h w ((srt (mb G1.flatten)).take i) G ∧ Same H2 H5)
        ⟨none, none, none, none, _, rfl, C0.same sm4, fill_start _ _ h w, sm3.trans sm4⟩ (fun _ _ _ _ _ => True.intro) ?_ ?_
      · rintro i x σ H5 H6 hi ⟨v7, v8, v9, v10, G, rfl, C5, F5, sm5⟩ ⟨rfl, c, hc, rfl⟩
        rw [S_at] at hc
        have hcM := hcS hc
        have c46 : c ≠ 46 := (mem_mb.mp hcM).2
        have hcA := (idx_at (mem_mb.mp hcM).1).2
        have T1 := (ht1.same sm2).same sm5
        obtain ⟨e1, b1, g1, _⟩ := id T1
        obtain ⟨L, L26, hL⟩ := ring_ex hT.ontoP hM hcM
        refine ⟨_, rfl, p1, rfl, _, rfl, ⟨e1, _, g1⟩, p1, _, h, w, _, rfl, T1, V1, .inl ⟨c, G1.flatten.idxOf c, rfl, c46, hcA, fun H7 q1 sm7 hq1 hq1' => ?_⟩⟩
        have hEx7 := (hEx.same sm5).same sm7
        obtain ⟨va, va0, va1⟩ : ∃ va : Nat → Addr, va 0 = q1 ∧ ∀ j, va (j + 1) = qa (pw (nxt B G1.flatten) j c) := ⟨fun j => match j with | 0 => q1 | j + 1 => qa (pw (nxt B G1.flatten) j c), rfl, fun _ => rfl⟩
        have inM : ∀ j, pw (nxt B G1.flatten) j c ∈ mb G1.flatten := pw_mem hT.ontoP.mem hcM
        have cont : ∀ j, H7 (va j) = some (.tup (plV w (G1.flatten.idxOf (pw (nxt B G1.flatten) j c)))) := fun j => by
          match j with
          | 0 => rw [va0]; exact hq1'
          | j + 1 =>
            rw [va1, hEx7.2 _ (mem_srt.mpr (inM j)), ← (hT.prv (inM j)).2.2.2]
            rfl
        have idx_inj : ∀ {a b : Nat}, a ∈ mb G1.flatten → b ∈ mb G1.flatten → G1.flatten.idxOf a = G1.flatten.idxOf b → a = b := fun ha hb e => by
          have e1 := (idx_at (mem_mb.mp ha).1).2
          have e2 := (idx_at (mem_mb.mp hb).1).2
          rw [e, e2] at e1
          exact (Option.some.inj e1).symm
        refine ⟨_, rfl, .ref q1, d, fun j => .ref (va j), fun j => plD w (G1.flatten.idxOf (pw (nxt B G1.flatten) j c)), L, rfl, congrArg V.ref va0, hL.one, by omega, fun j hj => ?_, fun j hj => ⟨fun H' s' => pl_dp (s' _ _ (cont j)), pl_shaped _ _⟩, fun j j1 jL => ?_, fun H8 l sm8 hl hl' => ?_⟩
        · have e := DGet.t (k := plK w (G1.flatten.idxOf (pw (nxt B G1.flatten) j c))) hEx7.1 (b := va j) (by rw [plKV]; exact cont j)
          rw [valV_at (f := fun m => plK w (G1.flatten.idxOf m)) (v := fun m => V.ref (qa m)) (mem_srt.mpr (inM j)) (fun a ha z => idx_inj (mem_srt.mp ha) (inM j) (plK_inj z)), ← va1] at e
          exact e
        · rw [pl_eqv]
          refine decide_eq_decide.mpr ⟨fun z => ?_, fun z => by subst z; rw [hL.back]; rfl⟩
          have e := idx_inj (inM j) (inM 0) z
          exact Classical.byContradiction fun n => hL.no j j1 (by omega) e
        have hjL : (k - 1) % L < L := Nat.mod_lt _ hL.one
        have emod : ((k : Int) - 1).fmod ((L : Nat) : Int) = (((k - 1) % L : Nat) : Int) := by
          rw [show (k : Int) - 1 = ((k - 1 : Nat) : Int) by omega, Int.fmod_eq_emod_of_nonneg _ (by omega)]
          rfl
        have pj := hL.mod (k - 1)
        have cj := cont ((k - 1) % L)
        rw [pj] at cj
        have bM := inM (k - 1)
        have fb := hT.pw_back hcM (k - 1)
        generalize pw (nxt B G1.flatten) (k - 1) c = bb at cj bM fb
        have b46 : bb ≠ 46 := (mem_mb.mp bM).2
        have hbA := idx_at (mem_mb.mp bM).1
        obtain ⟨r1, c1, ecell⟩ := at_flat R1 hbA.1
        rw [hbA.2] at ecell
        have ecell := (Option.some.inj ecell).symm
        generalize hrr : G1.flatten.idxOf bb / w = rr at r1 ecell
        generalize hcc : G1.flatten.idxOf bb % w = cc at c1 ecell
        have ep : plV w (G1.flatten.idxOf bb) = [V.int (rr : Nat), V.int (cc : Nat)] := by rw [← hrr, ← hcc]; rfl
        rw [ep] at cj
        refine ⟨_, rfl, _, rfl, _, _, rfl, rfl, .inl ⟨_, rfl, _, rfl, l, _, rfl, .inl (SqL.of hl'), _, _, rfl, rfl, ?_, l, _, _, .ref (va ((k - 1) % L)), rfl, rfl, SqL.of hl', ?_, ?_⟩⟩
        · rw [List.length_map, List.length_range]
          have := hL.one
          omega
        · rw [List.length_map, List.length_range, emod]
          exact atI_nat (by rw [List.getElem?_map, List.getElem?_range hjL]; rfl)
        refine ⟨_, _, rfl, SqT.of (sm8 _ _ cj), rfl, _, _, rfl, _, _, rfl, rfl, ?_⟩
        have C8 := (C5.same sm7).same sm8
        have hlen : rr < ds.length := by rw [C8.2.1, F5.rc.1]; exact r1
        have er := List.getElem?_eq_getElem hlen
        have hbr := C8.row er
        have hw8 : (G.getD rr []).length = w := getD_len F5.rc r1
        refine ⟨_, rfl, _, rfl, _, rfl, D0, _, _, _, rfl, rfl, SqL.of C8.1, atI_nat (by rw [List.getElem?_map, er]; all_goals rfl), _, rfl, ds[rr], _, _, cc, rfl, rfl, hbr, ?_, ?_⟩
        · rw [List.length_map, hw8]
          unfold ixN
          rw [if_pos (by omega), if_pos (by omega), Int.toNat_natCast]
        rw [← List.map_set]
        have take1 : (srt (mb G1.flatten)).take (i + 1) = (srt (mb G1.flatten)).take i ++ [c] := by rw [List.take_add_one, hc]; rfl
        refine ⟨_, _, _, _, putc G rr cc c, rfl, C8.put ndp hDn er, ?_, same_put ((sm5.trans sm7).trans sm8) (fr _ (List.getElem_mem hlen))⟩
        rw [take1]
        refine F5.put r1 c1 (by rw [ecell]; exact b46) (by rw [ecell]; exact fb) fun r2 c2 hr2 hc2 n2 e2 => ?_
        have aM : cell G1 r2 c2 ∈ mb G1.flatten := mem_mb.mpr ⟨List.mem_of_getElem? (flat_at R1 hr2 hc2), n2⟩
        have e3 : cell G1 r2 c2 = cell G1 rr cc := by
          rw [ecell]
          exact pw_inj hT.onto (k - 1) aM bM (e2.trans fb.symm)
        exact same_cell R1 V1.nd hr2 hc2 r1 c1 e3 n2
      · rintro σ H5 ⟨v7, v8, v9, v10, G, rfl, C5, F5, sm5⟩
        rw [S_size, List.take_length] at F5
        exact ⟨v7, v8, v9, v10, G, rfl, C5, F5, sm5⟩
    rintro σ H4 ⟨v7, v8, v9, v10, G, rfl, C4, F4, sm4⟩
    have eG : G = rounds h w t k g := by
      rw [hround]
      refine F4.all R1 (pw_46 sg0.z _) fun r c hr hc n => mem_srt.mpr (pw_mem hT.onto.mem (mem_mb.mpr ⟨List.mem_of_getElem? (flat_at R1 hr hc), n⟩) _)
    have VG_ : VG h w G := by
      rw [eG]
      exact VG.rounds k hV
    have RG := F4.rc
    have hlg := VG_.len
    refine ⟨_, rfl, D0, rfl, ⟨_, SqL.of C4.1⟩, fun E2 hE2 => lc_list (K := K) (a := D0) (xs := ds.map V.ref) (fun i H5 => Same H4 H5 ∧ H5 E2 = some (.lst ((G.take i).map fun r => V.str (S r))))
      ⟨same_new hE2, upd_same⟩ (fun i H5 _ ⟨sm, _⟩ => SqL.of (sm _ _ C4.1)) ?_ ?_⟩
    · rintro i x H5 hi ⟨sm, hL⟩
      obtain ⟨b, hb, rfl⟩ := at_map hi
      have hi' : i < G.length := by rw [← C4.2.1]; exact (List.getElem?_eq_some_iff.mp hb).1
      have hrow := getD_at hi'
      have hlr : (G.getD i []).length = w := getD_len RG (by rw [← RG.1]; exact hi')
      have hbr := sm _ _ (C4.row hb)
      generalize G.getD i [] = r at hrow hlr hbr
      refine ⟨rfl, ⟨_, rfl⟩, _, rfl, _, b, r.map fun c => S [c], rfl, rfl, .inl ?_, ?_, _, hL, ?_, ?_⟩
      · rw [List.map_map]
        exact SqL.of hbr
      · rw [sum_ones, List.length_map]
        show _ + _ * 0 ≤ 16777216
        omega
      · rw [List.length_map, List.length_take]
        show _ < 16777216
        omega
      · refine ⟨same_put sm hE2, ?_⟩
        rw [upd_same, take_map_snoc hrow, join_signs]
    · rintro H5 ⟨sm, hL⟩
      rw [List.length_map, C4.2.1, List.take_length] at hL
      refine ⟨_, rfl, E2, rowV G, rfl, .inr (SqL.of hL), fun x dx nx ndx nex => ?_⟩
      refine ⟨[.ref x], rowV G, rfl, rfl, ?_, fun pt hpt => ?_⟩
      · rw [List.length_map]
        show _ ≤ 16777216
        omega
      have hpx : x ≠ pt := fun z => by rw [← z, upd_same] at hpt; cases hpt
      refine ⟨x, dx, pt, h, w, G, rfl, by rw [upd_ne hpx, upd_same], SqT.of upd_same, VG_, fun H' ht kp => ⟨rfl, ?_⟩⟩
      rw [eG] at ht
      refine kk _ _ (((sm02.trans sm4).trans sm).trans fun b o e => ?_) ht
      have hbx : b ≠ x := ne_of_none e nx
      have hbd : b ≠ dx := ne_of_none e ndx
      have e2 : (upd (upd H5 dx (.own x)) x (.ins D dx [])) b = some o := by rw [upd_ne hbx, upd_ne hbd]; exact e
      exact kp b o (by rw [upd_ne (ne_of_none e2 hpt)]; exact e2) hbx
end
end TR
end
section
set_option Elab.async false
set_option maxRecDepth 100000
set_option linter.all false
namespace TM
/-- a circle's length, looked for -/
def ringLen (φ : Nat → Nat) (s : Nat) : Nat := ((List.range 26).find? fun i => pw φ (i + 1) s == s).getD 0 + 1
theorem ring_len {φ : Nat → Nat} {s L : Nat} (h : Ring φ s L) (h26 : L ≤ 26) : Ring φ s (ringLen φ s) := by
  have hL := h.one
  have hm : L - 1 ∈ List.range 26 := List.mem_range.mpr (by omega)
  have hp : (pw φ (L - 1 + 1) s == s) = true := by
    rw [show L - 1 + 1 = L by omega, h.back]
    exact beq_self_eq_true s
  have : ringLen φ s = L := by
    unfold ringLen
    cases e : (List.range 26).find? fun i => pw φ (i + 1) s == s with
    | none =>
      have := List.find?_eq_none.mp e _ hm
      exact absurd hp this
    | some i =>
      show i + 1 = L
      have h1 := List.find?_some e
      have h2 : pw φ (i + 1) s = s := by simpa using h1
      have h3 : L ≤ i + 1 := by
        rcases Nat.lt_or_ge (i + 1) L with q | q
        · exact absurd h2 (h.no _ (by omega) q)
        · exact q
      rcases Nat.lt_or_ge (L - 1) i with q | q
      · obtain ⟨_, as, bs, e1, e2⟩ := List.find?_eq_some_iff_append.mp e
        have hr : List.range 26 = as ++ i :: bs := e1
        have hl : as.length = i := by
          have h4 : (as ++ i :: bs)[as.length]? = some i := by simp
          rw [← hr] at h4
          have h5 := (List.getElem?_eq_some_iff.mp h4).1
          rw [List.length_range] at h5
          rw [List.getElem?_range h5] at h4
          exact Option.some.inj h4
        have h6 : L - 1 ∈ as := by
          have h7 : (List.range 26)[L - 1]? = some (L - 1) := List.getElem?_range (by omega)
          rw [hr, List.getElem?_append_left (by omega)] at h7
          exact List.mem_of_getElem? h7
        have := e2 _ h6
        rw [hp] at this
        cases this
      · omega
  rw [this]
  exact h
def orb (φ : Nat → Nat) (s : Nat) : List Nat := (List.range (ringLen φ s)).map fun i => pw φ i s
/-- the circles from each of the marbles on that is not yet seen -/
def cir (φ : Nat → Nat) : List Nat → List Nat → List (List Nat)
  | [], _ => []
  | s :: r, seen => if s ∈ seen then cir φ r seen else orb φ s :: cir φ r (seen ++ orb φ s)
theorem onto_nxt {f : Nat → Nat} {A B : List Nat} (T : Two f A B) : Onto (nxt A B) (mb A) :=
  ⟨fun c hc => by rw [T.nxt hc]; exact T.onto.mem c hc, fun c hc d hd e => T.onto.inj c hc d hd (by rw [← T.nxt hc, ← T.nxt hd]; exact e)⟩
end TM
namespace TR
open PySem PySem.Spec PyProof.Rows L2 TM TK TB TP TH TU
/-- y = {k: v for x in xs} on one line, y a local -/
theorem sw_dict {kx vx : Expr} {gs : List Comprehension} {scope : Scope} {pos py : Pos} {y : Str} {l : Nat} {env : Env} (h1 : env.scope.kind = .function) (h2 : env.scope.names.lookup y = some .local) (h3 : (py.line == pos.line) = true)
    (h4 : (scope.names.any fun (n, k) => n == y && (k == .local || k == .cell)) = false) : swapsWith (.DictComp kx vx gs scope pos) (some (.Name y py)) l env = pure true := by
  have k1 : env.kindOf y = some .local := h2
  have k2 : env.blockKind = .function := by
    unfold Env.blockKind
    rw [h1]
    rfl
  unfold swapsWith
  simp only [k2, k1, h4, Expr.pos, h3]
  rfl
theorem ps_setDc {X : Cx} {i : Nat} {y : Str} {py : Pos} {kx vx tg iter : Expr} {ifs : List Expr} {scope : Scope} {own : List (Str × Nat)} {pos spos : Pos} {wi : TI} {g : TG} {tt : TT} {tk tv : TE} (hc : X.calm = true) (hN : X.N.Nodup) (hy : X.N[i]? = some y) (hyl : X.env.scope.names.lookup y = some .local)
    (hsw : swapsWith (.DictComp kx vx [⟨tg, iter, ifs, 0⟩] scope pos) (some (.Name y py)) spos.line X.env = pure true) (hi : PI X tg iter wi) (ok : BlkOk X.N X.env.scope scope own)
    (hg : ∀ (s : Shared) (H : Hp) (C : Addr) (cl : List (Str × Addr)) (fp : List Addr), PG (X.blk s H scope (compEnvC scope cl C X.env) fp) tg g) (ht : ∀ (s : Shared) (H : Hp) (C : Addr) (cl : List (Str × Addr)) (fp : List Addr), PTs (X.blk s H scope (compEnvC scope cl C X.env) fp) ifs tt)
    (hk : ∀ (s : Shared) (H : Hp) (C : Addr) (cl : List (Str × Addr)) (fp : List Addr), PE (X.blk s H scope (compEnvC scope cl C X.env) fp) kx tk)
    (he : ∀ (s : Shared) (H : Hp) (C : Addr) (cl : List (Str × Addr)) (fp : List Addr), PE (X.blk s H scope (compEnvC scope cl C X.env) fp) vx tv) (hs : ∀ x, foldedSetIterable iter X.env x = pure x := by intro _; rfl) :
    PS X (.Assign [.Name y py] (.DictComp kx vx [⟨tg, iter, ifs, 0⟩] scope pos) spos) (tAsg (tDc wi g tt tk tv (own.map (·.2))) (gName i)) := by
  refine ⟨fun pins s σ H D I h => ?_⟩
  rw [exec_Assign_Name_used _ _ _ _ hsw]
  refine wpAny_bind (wpAny_standAt (wpAny_bind ?_))
  have h' : tDc wi g tt tk tv (own.map (·.2)) σ H (fun x H1 => gName i x σ H1 D.nx) := h
  show wpAny _ X.A (do let _ ← comprehension (.DictComp kx vx [⟨tg, iter, ifs, 0⟩] scope pos) scope X.env (firstIterPos [⟨tg, iter, ifs, 0⟩] pos) newDict false (eval iter X.env) (some (assign (.Name y py) X.env))) _ _ s
  refine wpAny_bind (thn (dc_core (Qf := fun _ s' => SP X pins D .next s') hc hN I hi ok hg ht hk he hs h' fun L C s' m H' I' q hns f => ?_) fun _ s' hq => wpAny_pure (wpAny_pure hq))
  show wpAny _ _ (assign (.Name y py) X.env (.ref L)) _ _ _
  refine wpAny_assign_Name (store_ok2 (v := V.ref L) I' hN hy (.inl hyl) rfl (fun s2 I2 ⟨a, sb, ha⟩ => ?_) (.inr hyl))
  obtain ⟨a0, a1, _, a3, a4, a5⟩ := f
  have haC : C ≠ a := ha.elim (fun z => by rw [z]; exact a1) fun z e => a4 y a z e.symm
  exact ⟨m, hns.sameBut sb haC, fun h3 sb3 => ⟨_, H', I2.turned (t' := s2.toks) (fun b o hb e => (sb3.2 b hb).trans e) a0 a1 a3 a4 a5, q⟩⟩
section
variable {X : Cx}
theorem dc_it {J : It} {N : Nat} {G : Hp → Prop} {Y : Nat → Hp → V → Hp → Prop} {g : TG} {tt : TT} {tk tv : TE} {vs : List Nat} {σ : L2.St} {H1 : Hp} {D : Addr} {Qd : Hp → Prop} (Wk : Walk J N G Y) (Pv : Nat → Hp → Prop) (h0 : Pv 0 (upd H1 D (.dK []))) (hl : ∀ i H, i ≤ N → Pv i H → G H)
    (hs : ∀ i x H H', i < N → Pv i H → Y i H x H' → g x (wipe σ vs) H' fun σ2 H2 => wipe σ2 vs = wipe σ vs ∧ tt σ2 H2 fun b H3 =>
      if b = true then tk σ2 H3 fun y H4 => tv σ2 H4 fun z H5 => ∃ kvs k, y = kV k ∧ H5 D = some (.dK kvs) ∧ kvs.length < sizeLine ∧ Pv (i + 1) (upd H5 D (.dK (putK kvs k z))) else Pv (i + 1) H3) (hd : ∀ H, Pv N H → Qd H) :
    ∃ W : Nat → Nat → Hp → Prop, (∃ m, W 0 m (upd H1 D (.dK []))) ∧ ∀ i m H, W i m H →
      (J.stop i H ∧ Qd H) ∨ (J.go i H ∧ ∃ Nx : Hp → Prop, (∀ H', Nx H' → ∃ m', m' < m ∧ W (i + 1) m' H') ∧ ∀ x H', J.yld i H x H' → g x (wipe σ vs) H' fun σ2 H2 => wipe σ2 vs = wipe σ vs ∧ tt σ2 H2 fun b H3 =>
        if b = true then tk σ2 H3 fun y H4 => tv σ2 H4 fun z H5 => ∃ kvs k, y = kV k ∧ H5 D = some (.dK kvs) ∧ kvs.length < sizeLine ∧ Nx (upd H5 D (.dK (putK kvs k z))) else Nx H3) := by
  refine ⟨fun i m H => m = N - i ∧ i ≤ N ∧ Pv i H, ⟨N, by simp, Nat.zero_le _, h0⟩, ?_⟩
  rintro i m H ⟨rfl, hi, p⟩
  rcases Nat.lt_or_ge i N with q | q
  · exact .inr ⟨Wk.goes i H q (hl i H hi p), Pv (i + 1), fun H' p' => ⟨N - (i + 1), by omega, rfl, q, p'⟩, fun x H' y => hs i x H H' q p (Wk.yields i H x H' q (hl i H hi p) y)⟩
  · have : i = N := by omega
    subst this
    exact .inl ⟨Wk.stops H (hl i H hi p), hd H p⟩
end
section
variable {P : Program} {w_ : World} {K : PySem.W.Frag} {mg : Str → Option Value} {base : Heap} {C D CP CU fRs fCl fCf fAt pM gM : Addr} {n : Nat} {fdM fdCf fdAt : FuncData}
abbrev NCi : List Str := ["tray", "word", "first", "second", "followers", "marble", "found", "seen", "start", "circle"]
theorem scCi : FnScope NCi ["tray", "word"] (defScope sCircles) := ⟨rfl, rfl, rfl, by decide +kernel, rfl, by decide +kernel, by decide +kernel⟩
def strL (o : List Nat) : V := .str (S o)
def spCi (K : PySem.W.Frag) (C D : Addr) : Sp := fun vs H Q _ => ∃ (p q : Addr) (h w : Nat) (g : Grid) (t : List Nat), vs = [.ref p, .ref q] ∧ TrayAt K D H p g ∧ VG h w g ∧ WordAt C H q t ∧
  ∀ H' l, Same H H' → H l = none → H' l = some (.lst ((cir (nxt (tilts h w t g).flatten (tilts h w t (tilts h w t g)).flatten) (srt (mb (tilts h w t g).flatten)) []).map strL)) → Q (.ref l) H'
theorem let_shaped {c : Nat} (h : 97 ≤ c ∧ c < 123) : SeqAt.shaped (.str (S [c])) = true := by
  have all : ∀ k : Fin 26, SeqAt.shaped (.str (S [97 + k.1])) = true := by decide +kernel
  have := all ⟨c - 97, by omega⟩
  rw [show 97 + (c - 97) = c by omega] at this
  exact this
theorem str_eqv (a b : Nat) : PyData.eqv (.str (S [a])) (.str (S [b])) = decide (a = b) := by
  by_cases q : a = b
  · subst q
    simp [PyData.eqv]
  · rw [decide_eq_false q]
    simp only [PyData.eqv]
    exact beq_eq_false_iff_ne.mpr fun z => q (by simpa using S_inj z)
theorem ok_ci {f : Addr} {fd : FuncData} (F : Fun K "circles" "circles" sCircles f fd) (b : Binds K fd ["tray", "word"] []) (hset : mg "set" = none) (hDC : D ≠ C) (CT : ClsT K mg D)
    (sf : PySem.W.selfFirst K D = true) (NO : NoOp K C Operator.RShift.info.2) (hs : PySem.W.findIn K (.ref D) (PySem.dunder Operator.RShift.info.2) = some (some (.ref fRs))) (hf : PySem.W.isFn K (.ref fRs) = true) (GRs : FnRn n P w_ K mg base CX0 5 fRs (spRs K C D))
    (PM : PropOf K D "marbles" pM gM) (GM : FnOk P w_ K mg base CX0 1 gM fdM ["self"] (spMb K D)) (bM : Binds K fdM ["self"] [])
    (CO : StX.CallO K D fCl) (GC : FnR P w_ K mg base (L2.CX P w_) 4 fCl (spCl K D CU))
    (MA : Meth K D "at" fAt) (GA : FnOk P w_ K mg base (L2.CX P w_) 4 fAt fdAt ["self", "place"] (spAt K D CP)) (bA : Binds K fdAt ["self", "place"] [])
    (GF : FnOk P w_ K mg base CX0 1 fCf fdCf ["start", "followers"] (spCf K)) (kF : PySem.W.keepIn K (.ref fCf) = true) (bF : Binds K fdCf ["start", "followers"] []) (mF : mg "_circle_from" = some (.ref fCf)) :
    FnRn n P w_ K mg base CX0 6 f (spCi K C D) := by
  refine fn_n F b scCi (fun vs H Q E h => ?_) fun cdv A outer s H vs Q E hr h => ?_
  · obtain ⟨p, q, h, w, g, t, rfl, _⟩ := h
    rfl
  · obtain ⟨p, q, h, w, g, t, rfl, T0, hV, W0, k⟩ := h
    have nd := scCi.nd
    refine ⟨_, pssn_cons (psn_set (i := 2) nd rfl (.inr rfl) (pen_op (op_twoN hDC sf NO hs hf GRs hr pass0) (PE.up (pv 0)) (PE.up (pv 1))))
      (pssn_cons (psn_set (i := 3) nd rfl (.inr rfl) (pen_op (op_twoN hDC sf NO hs hf GRs hr pass0) (PE.up (pv 2)) (PE.up (pv 1))))
      (pssn_cons (PS.up (ps_setDc (i := 4) (own := [("marble", 5)]) (g := gName 5) (tt := tYes) rfl nd rfl rfl (sw_dict rfl rfl rfl (by decide +kernel)) (pi_str (pe_prop (pv 2) CT.cl PM GM (hr.mono (by decide)) bM .nil pass0 rfl)) (blkOk_by (N := NCi) (sc := defScope sCircles) (by decide +kernel)) (fun _ _ _ _ _ => pg_name (i := 5) nd rfl (.inl rfl)) (fun _ _ _ _ _ => pts_nil)
          (fun _ _ _ _ _ => pv 5) (fun _ _ _ _ _ => pe_meth (pv 3) CT.cl MA GA (hr.mono (by decide)) bA .nil passL (pa_cons (pe_callO (pv 2) CO GC (hr.mono (by decide)) passL (pa_cons (pv 5) pa_nil)) pa_nil))))
      (pssn_cons (PS.up (ps_set (i := 6) nd rfl (.inl rfl) (pe_lst pa_nil)))
      (pssn_cons (PS.up (ps_set (i := 7) nd rfl (.inl rfl) (pe_callTy0 cr_set0K (by rfl) hset (by decide +kernel))))
      (pssn_cons (PS.up (ps_for PassesOwn.never rfl (pi_str (pe_prop (pv 2) CT.cl PM GM (hr.mono (by decide)) bM .nil pass0 rfl)) (pg_name (i := 8) nd rfl (.inl rfl))
        (pss_cons (ps_if (pt_cmpR or_sinK (pv 8) (pv 7) (by rfl)) (pss_one ps_continue) pss_nil)
        (pss_cons (ps_set (i := 9) nd rfl (.inl rfl) (pe_call GF (hr.mono (by decide)) rfl mF kF bF .nil pass0 (pa_cons (pv 8) (pa_cons (pv 4) pa_nil))))
        (pss_cons (ps_for PassesOwn.never rfl (pi_list (pv 9)) (pg_name (i := 5) nd rfl (.inl rfl)) (pss_one (ps_expr (pe_saddK (pv 7) (pa_cons (pv 5) pa_nil)))))
        (pss_one (ps_expr (pe_bm PySem.F.plainAttrs_list PySem.F.slot_list_append PySem.F.type_list_append mt_append (pv 6) (pa_cons (pe_join pe_str (pv 9)) pa_nil)))))))))
      (pssn_one (PS.up (ps_ret (pv 6))))))))), ?_⟩
    obtain ⟨dp, ap, hp, hSp⟩ := id T0
    obtain ⟨dq, hq⟩ := id W0
    have V1 := VG.tilts t hV
    have V2 := VG.tilts t V1
    refine ⟨_, rfl, _, rfl, p, dp, _, q, dq, _, rfl, rfl, hp, hq, p, q, h, w, g, t, rfl, T0, hV, W0, fun H1 p1 sm1 ht1 => ?_⟩
    obtain ⟨d1, a1, hp1, hS1⟩ := id ht1
    refine ⟨_, rfl, _, rfl, p1, d1, _, q, dq, _, rfl, rfl, hp1, sm1 _ _ hq, p1, q, h, w, _, t, rfl, ht1, V1, W0.same sm1, fun H2 p2 sm2 ht2 => ?_⟩
    have ht1' := ht1.same sm2
    obtain ⟨d1', a1', hp1', hS1'⟩ := id ht1'
    obtain ⟨d2, a2, hp2, hS2⟩ := id ht2
    have sm02 := sm1.trans sm2
    obtain ⟨f0, sg0, hf0⟩ := turn_sig hV.rc V1.nd
    have hT : Two f0 (tilts h w t g).flatten (tilts h w t (tilts h w t g)).flatten := ⟨sg0, by rw [hf0, rel_flat], V1.nd, (like_tilts t V1.rc).pm⟩
    have hM := mb_let V1
    have h26 : (srt (mb (tilts h w t g).flatten)).length ≤ 26 := by
      rw [(srt_perm _).length_eq]
      exact mb_26 V1
    have hBr : (tilts h w t (tilts h w t g)).flatten = (tilts h w t (tilts h w t g)).flatten := rfl
    generalize hG2 : tilts h w t (tilts h w t g) = G2 at *
    generalize hG1 : tilts h w t g = G1 at *
    have R1 := V1.rc
    have R2 := V2.rc
    have hcS : ∀ {c i : Nat}, (srt (mb G1.flatten))[i]? = some c → c ∈ mb G1.flatten := fun e => mem_srt.mp (List.mem_of_getElem? e)
    have ndS : (srt (mb G1.flatten)).Nodup := (srt_perm _).nodup_iff.mpr V1.nd
    refine ⟨_, rfl, p1, d1', _, rfl, hp1', p1, h, w, _, rfl, ht1', V1, fun H3 sm3 => ⟨_, rfl, fun D_ hD => ?_⟩⟩
    refine dc_it (walk_str (z := S (srt (mb G1.flatten)))) (fun i H4 => Same H3 H4 ∧ H4 D_ = some (.dK (((srt (mb G1.flatten)).take i).map fun m => (Sum.inr (S [m]), sg (nxt G1.flatten G2.flatten m)))))
      ⟨same_new hD, upd_same⟩ (fun _ _ _ _ => True.intro) ?_ ?_
    · rintro i x H4 H5 hi ⟨sm4, hDk⟩ ⟨rfl, c, hc, rfl⟩
      rw [S_at] at hc
      have hcM := hcS hc
      have c46 : c ≠ 46 := (mem_mb.mp hcM).2
      have hcA := idx_at (mem_mb.mp hcM).1
      have s23 := sm3.trans sm4
      have T1 := ht1'.same s23
      have T2 := ht2.same s23
      obtain ⟨e1, b1, g1, _⟩ := id T1
      obtain ⟨e2, b2, g2, _⟩ := id T2
      refine ⟨rfl, _, rfl, _, rfl, p2, e2, _, rfl, g2, rfl, ?_⟩
      refine ⟨_, rfl, p1, rfl, _, rfl, ⟨e1, _, g1⟩, p1, _, h, w, _, rfl, T1, V1, .inl ⟨c, G1.flatten.idxOf c, rfl, c46, hcA.2, fun H6 q1 sm6 hq1 hq1' => ?_⟩⟩
      have hl2 : G2.flatten.length = G1.flatten.length := hT.len
      obtain ⟨r1, c1, ec1⟩ := at_flat R2 (show G1.flatten.idxOf c < G2.flatten.length by rw [hl2]; exact hcA.1)
      have evl : cell G2 (G1.flatten.idxOf c / w) (G1.flatten.idxOf c % w) = nxt G1.flatten G2.flatten c := by
        show _ = G2.flatten.getD (G1.flatten.idxOf c) 46
        rw [List.getD_eq_getElem?_getD, ec1]
        rfl
      have nM : nxt G1.flatten G2.flatten c ≠ 46 := (mem_mb.mp ((onto_nxt hT).mem c hcM)).2
      generalize hrr : G1.flatten.idxOf c / w = rr at r1 evl
      generalize hcc : G1.flatten.idxOf c % w = cc at c1 evl
      have ep : plV w (G1.flatten.idxOf c) = [V.int (rr : Nat), V.int (cc : Nat)] := by rw [← hrr, ← hcc]; rfl
      replace hq1' : H6 q1 = some (.tup (plV w (G1.flatten.idxOf c))) := hq1'
      rw [ep] at hq1'
      have eat : atV G2 rr cc = sg (nxt G1.flatten G2.flatten c) := by
        have hrow := getD_at (show rr < G2.length by rw [R2.1]; exact r1)
        have hlw : (G2.getD rr []).length = w := getD_len R2 r1
        unfold atV
        unfold cell at evl
        generalize G2.getD rr [] = row at hlw evl
        have e3 : row.getD cc 46 = row.getD cc 0 := by
          rw [List.getD_eq_getElem?_getD, List.getD_eq_getElem?_getD, List.getElem?_eq_getElem (show cc < row.length by omega)]
          rfl
        rw [e3, evl, if_neg nM]
      refine ⟨p2, .ref q1, h, w, _, rfl, T2.same sm6, V2, .inl ⟨q1, rr, cc, rfl, SqT.of hq1', r1, c1, ?_⟩⟩
      have hD6 := sm6 _ _ hDk
      have take1 : (srt (mb G1.flatten)).take (i + 1) = (srt (mb G1.flatten)).take i ++ [c] := by rw [List.take_add_one, hc]; rfl
      have cnew : c ∉ (srt (mb G1.flatten)).take i := fun hm => by
        obtain ⟨j, hj⟩ := List.mem_iff_getElem?.mp hm
        rw [List.getElem?_take] at hj
        split at hj
        · rename_i hji
          have nd := List.pairwise_iff_getElem.mp ndS
          obtain ⟨l1, z1⟩ := List.getElem?_eq_some_iff.mp hj
          obtain ⟨l2, z2⟩ := List.getElem?_eq_some_iff.mp hc
          exact nd j i l1 l2 hji (z1.trans z2.symm)
        · cases hj
      refine ⟨_, .inr (S [c]), rfl, hD6, ?_, same_put (sm4.trans sm6) hD, ?_⟩
      · rw [List.length_map, List.length_take]
        show _ < 16777216
        omega
      · rw [upd_same, putK_new _ (valV_no fun m hm e => cnew (by rw [← one_inj.mp e]; exact hm)), take1, List.map_append, eat]
        rfl
    rintro H4 ⟨sm4, hDk⟩
    rw [S_size, List.take_length] at hDk
    -- found, seen
    refine ⟨by show 0 ≤ sizeLine; decide, fun l hl => ?_⟩
    have sA : Same H4 (upd H4 l (.lst [])) := same_new hl
    have hlA : upd H4 l (.lst []) l = some (.lst []) := upd_same
    generalize upd H4 l (.lst []) = H5 at sA hlA
    refine ⟨rfl, fun z hz => ?_⟩
    have hlz : l ≠ z := ne_of_none hlA hz
    have sB : Same H4 (upd H5 z (SetK P w_ z (fun _ => false) 0)) := same_put sA (sA.free hz)
    have hlB : (upd H5 z (SetK P w_ z (fun _ => false) 0)) l = some (.lst []) := by rw [upd_ne hlz]; exact hlA
    have hzB : (upd H5 z (SetK P w_ z (fun _ => false) 0)) z = some (SetK P w_ z (fun _ => false) 0) := upd_same
    have hz4 : H4 z = none := sA.free hz
    have smB := (sm3.trans sm4).trans sB
    have T1 := ht1'.same smB
    obtain ⟨e1, b1, g1, _⟩ := id T1
    refine ⟨_, rfl, p1, e1, _, rfl, g1, p1, h, w, _, rfl, T1, V1, fun H7 sm7 => ⟨_, rfl, ?_⟩⟩
    refine for_it (walk_str (z := S (srt (mb G1.flatten)))) (fun i σ H8 => ∃ v5 v8 v9 fs seen N Z, σ = [some (.ref p), some (.ref q), some (.ref p1), some (.ref p2), some (.ref D_), v5, some (.ref l), some (.ref z), v8, v9] ∧ Same H4 H8 ∧ H8 l = some (.lst (fs.map strL)) ∧ fs.length ≤ i ∧
        fs ++ cir (nxt G1.flatten G2.flatten) ((srt (mb G1.flatten)).drop i) seen = cir (nxt G1.flatten G2.flatten) (srt (mb G1.flatten)) [] ∧ H8 z = some (SetK P w_ z Z N) ∧ (∀ c : Nat, Z (.inr (S [c])) = decide (c ∈ seen)) ∧ N ≤ i * 26)
      ⟨_, none, none, [], [], 0, _, rfl, sB.trans sm7, (show H7 l = some (HO.lst (([] : List (List Nat)).map strL)) from sm7 _ _ hlB), Nat.le_refl _, rfl, sm7 _ _ hzB, fun c => by simp, by omega⟩ (fun _ _ _ _ _ => True.intro) ?_ ?_
    · rintro i x σ H8 H9 hi ⟨v5, v8, v9, fs, seen, N, Z, rfl, sm8, hl8, hfl, hfs, hz8, hZ, hN⟩ ⟨rfl, c, hc, rfl⟩
      rw [S_at] at hc
      have hcM := hcS hc
      have hi26 : i < 26 := by
        have := (List.getElem?_eq_some_iff.mp hc).1
        omega
      have edrop : (srt (mb G1.flatten)).drop i = c :: (srt (mb G1.flatten)).drop (i + 1) := by
        obtain ⟨h1, h2⟩ := List.getElem?_eq_some_iff.mp hc
        rw [List.drop_eq_getElem_cons h1, h2]
      rw [edrop] at hfs
      refine ⟨_, rfl, _, rfl, .inr (S [c]), z, Z, N, rfl, rfl, hz8, _, rfl, ?_⟩
      rw [show (if false = true then !Z (.inr (S [c])) else Z (.inr (S [c]))) = decide (c ∈ seen) from hZ c]
      by_cases hin : c ∈ seen
      · rw [decide_eq_true hin]
        refine iteT ⟨_, _, _, fs, seen, N, Z, rfl, sm8, hl8, by omega, ?_, hz8, hZ, by omega⟩
        rw [← hfs]
        conv => rhs; unfold cir
        rw [if_pos hin]
      · rw [decide_eq_false hin]
        refine iteF ?_
        obtain ⟨L0, L26, hL0⟩ := ring_ex (onto_nxt hT) hM hcM
        have hL := ring_len hL0 L26
        have L26' : ringLen (nxt G1.flatten G2.flatten) c ≤ 26 := by rw [hL.uniq hL0]; exact L26
        have inM : ∀ j, pw (nxt G1.flatten G2.flatten) j c ∈ mb G1.flatten := pw_mem (onto_nxt hT).mem hcM
        refine ⟨_, rfl, _, rfl, sg c, D_, fun j => sg (pw (nxt G1.flatten G2.flatten) j c), fun j => .str (S [pw (nxt G1.flatten G2.flatten) j c]), ringLen (nxt G1.flatten G2.flatten) c, rfl, rfl, hL.one, by omega, fun j hj => ?_, fun j hj => ⟨fun H' s' => .str _, let_shaped (hM _ (inM j))⟩, fun j j1 jL => ?_, fun H10 lc sm10 hlc hlc' => ?_⟩
        · have e := DGet.k (k := Sum.inr (S [pw (nxt G1.flatten G2.flatten) j c])) (sm8 _ _ hDk)
          rw [valV_at (f := fun m => (Sum.inr (S [m]) : Key)) (v := fun m => sg (nxt G1.flatten G2.flatten m)) (mem_srt.mpr (inM j)) (fun a ha y => one_inj.mp y)] at e
          exact e
        · rw [str_eqv]
          refine decide_eq_decide.mpr ⟨fun y => ?_, fun y => by subst y; rw [hL.back]; rfl⟩
          exact Classical.byContradiction fun n => hL.no j j1 (by omega) y
        have eorb : ((List.range (ringLen (nxt G1.flatten G2.flatten) c)).map fun j => sg (pw (nxt G1.flatten G2.flatten) j c)) = (orb (nxt G1.flatten G2.flatten) c).map sg := by
          unfold orb
          rw [List.map_map]
          rfl
        have lorb : (orb (nxt G1.flatten G2.flatten) c).length = ringLen (nxt G1.flatten G2.flatten) c := by
          unfold orb
          rw [List.length_map, List.length_range]
        rw [eorb] at hlc'
        generalize horb : orb (nxt G1.flatten G2.flatten) c = ob at hlc' lorb
        have sm10' := sm8.trans sm10
        have hl10 := sm10 _ _ hl8
        have hz10 := sm10 _ _ hz8
        have lcl : lc ≠ l := fun y => by rw [y, hl8] at hlc; cases hlc
        have lcz : lc ≠ z := fun y => by rw [y, hz8] at hlc; cases hlc
        refine ⟨_, rfl, lc, rfl, ⟨_, SqL.of hlc'⟩, for_list (K := K) (a := lc) (xs := ob.map sg) (fun j σ H11 => ∃ v5 N Z, σ = [some (.ref p), some (.ref q), some (.ref p1), some (.ref p2), some (.ref D_), v5, some (.ref l), some (.ref z), some (sg c), some (.ref lc)] ∧ Same H4 H11 ∧ H11 l = some (.lst (fs.map strL)) ∧ H11 lc = some (.lst (ob.map sg)) ∧ H11 z = some (SetK P w_ z Z N) ∧ (∀ c : Nat, Z (.inr (S [c])) = decide (c ∈ seen ++ ob.take j)) ∧ N ≤ i * 26 + j)
          ⟨_, N, Z, rfl, sm10', hl10, hlc', hz10, fun c => by rw [List.take_zero, List.append_nil]; exact hZ c, by omega⟩ (fun j σ H11 _ ⟨_, _, _, _, _, _, y, _⟩ => SqL.of y) ?_ ?_⟩
        · rintro j x σ H11 hj ⟨v5, N, Z, rfl, sm11, hl11, hlc11, hz11, hZ, hN⟩
          obtain ⟨m, hm, rfl⟩ := at_map hj
          have hjl := (List.getElem?_eq_some_iff.mp hm).1
          have zl : l ≠ z := hlz
          refine ⟨_, rfl, ⟨z, Z, N, rfl, hz11⟩, _, rfl, z, .inr (S [m]), Z, N, rfl, rfl, hz11, ?_, ?_⟩
          · show _ < 4096
            omega
          refine ⟨_, _, _, rfl, same_put sm11 hz4, by rw [upd_ne zl]; exact hl11, by rw [upd_ne lcz]; exact hlc11, upd_same, fun d => ?_, ?_⟩
          · have et : ob.take (j + 1) = ob.take j ++ [m] := by rw [List.take_add_one, hm]; rfl
            rw [et, ← List.append_assoc]
            show (Z (.inr (S [d])) || decide ((Sum.inr (S [d]) : Key) = .inr (S [m]))) = _
            rw [hZ d]
            by_cases q1 : d = m
            · subst q1
              simp
            · rw [show decide ((Sum.inr (S [d]) : Key) = .inr (S [m])) = false from decide_eq_false fun y => q1 (one_inj.mp y), Bool.or_false]
              simp [q1]
          · split <;> omega
        · rintro σ H11 ⟨v5, N, Z, rfl, sm11, hl11, hlc11, hz11, hZ, hN⟩
          rw [List.length_map] at hN
          rw [List.length_map, List.take_length] at hZ
          refine ⟨_, rfl, .inl ⟨rfl, _, SqL.of hl11⟩, ⟨_, rfl⟩, _, rfl, _, lc, ob.map fun c => S [c], rfl, rfl, .inl ?_, ?_, l, _, _, rfl, rfl, hl11, ?_, ?_⟩
          · rw [List.map_map]
            exact SqL.of hlc11
          · rw [sum_ones, List.length_map]
            show _ + _ * 0 ≤ 16777216
            omega
          · rw [List.length_map]
            show _ < 16777216
            omega
          rw [join_signs]
          refine ⟨_, _, _, fs ++ [ob], seen ++ ob, N, Z, rfl, same_put sm11 (sA.free hz |> fun _ => hl), ?_, by rw [List.length_append]; simp; omega, ?_, by rw [upd_ne hlz.symm]; exact hz11, hZ, by omega⟩
          · rw [upd_same, List.map_append]
            rfl
          · rw [← hfs, List.append_assoc]
            conv => rhs; unfold cir
            rw [if_neg hin, horb]
            rfl
    · rintro σ H8 ⟨v5, v8, v9, fs, seen, N, Z, rfl, sm8, hl8, hfl, hfs, hz8, hZ, hN⟩
      rw [S_size, List.drop_length] at hfs
      have e2 : fs = cir (nxt G1.flatten G2.flatten) (srt (mb G1.flatten)) [] := by
        rw [← hfs]
        simp [cir]
      rw [e2] at hl8
      exact ⟨_, rfl, k _ l (((sm02.trans sm3).trans sm4).trans sm8) (((sm02.trans sm3).trans sm4).free hl) hl8⟩
end
end TR
end
section
set_option Elab.async false
set_option maxRecDepth 100000
set_option linter.all false
namespace TM
/-- the circles are apart from each other -/
theorem cir_ok {φ : Nat → Nat} {M : List Nat} (O : Onto φ M) (hM : ∀ c ∈ M, 97 ≤ c ∧ c < 123) : ∀ (r seen : List Nat), (∀ s ∈ r, s ∈ M) → (∀ c ∈ seen, c ∈ M) → (∀ c ∈ seen, φ c ∈ seen) → seen.Nodup →
    (seen ++ (cir φ r seen).flatten).Nodup ∧ ∀ c ∈ (cir φ r seen).flatten, c ∈ M
  | [], seen, _, _, _, nd => by simpa [cir] using nd
  | s :: r, seen, hr, hs, cl, nd => by
    have hsM := hr s List.mem_cons_self
    have hr' : ∀ s ∈ r, s ∈ M := fun x hx => hr x (List.mem_cons_of_mem _ hx)
    unfold cir
    split
    · exact cir_ok O hM r seen hr' hs cl nd
    · rename_i hn
      obtain ⟨L0, L26, hL0⟩ := ring_ex O hM hsM
      have hL := ring_len hL0 L26
      have clp : ∀ n c, c ∈ seen → pw φ n c ∈ seen := fun n c hc => by
        induction n with
        | zero => exact hc
        | succ n ih => exact cl _ ih
      have mo : ∀ c, c ∈ orb φ s ↔ ∃ i, i < ringLen φ s ∧ pw φ i s = c := fun c => by
        unfold orb
        rw [List.mem_map]
        exact ⟨fun ⟨i, hi, e⟩ => ⟨i, List.mem_range.mp hi, e⟩, fun ⟨i, hi, e⟩ => ⟨i, List.mem_range.mpr hi, e⟩⟩
      have oM : ∀ c ∈ orb φ s, c ∈ M := fun c hc => by
        obtain ⟨i, _, rfl⟩ := (mo c).mp hc
        exact pw_mem O.mem hsM i
      have on : (orb φ s).Nodup := by
        unfold orb
        refine List.pairwise_map.mpr ((List.pairwise_lt_range (n := ringLen φ s)).imp_of_mem fun {a b} ha hb hab e => ?_)
        have := Ring.step O hsM hL (List.mem_range.mp ha) (List.mem_range.mp hb) e
        omega
      have nd2 : (seen ++ orb φ s).Nodup := by
        rw [List.nodup_append]
        refine ⟨nd, on, fun a ha b hb e => ?_⟩
        subst e
        obtain ⟨i, hi, e⟩ := (mo a).mp hb
        refine hn ?_
        have h1 := clp (ringLen φ s - i) a ha
        rw [← e, ← pw_add, show ringLen φ s - i + i = ringLen φ s by omega, hL.back] at h1
        exact h1
      have cl2 : ∀ c ∈ seen ++ orb φ s, φ c ∈ seen ++ orb φ s := fun c hc => by
        rcases List.mem_append.mp hc with h | h
        · exact List.mem_append_left _ (cl c h)
        · refine List.mem_append_right _ ?_
          obtain ⟨i, hi, rfl⟩ := (mo c).mp h
          refine (mo _).mpr ?_
          rcases Nat.lt_or_ge (i + 1) (ringLen φ s) with q | q
          · exact ⟨i + 1, q, rfl⟩
          · refine ⟨0, hL.one, ?_⟩
            have : i + 1 = ringLen φ s := by omega
            show s = φ (pw φ i s)
            have e : φ (pw φ i s) = pw φ (i + 1) s := rfl
            rw [e, this, hL.back]
      have hs2 : ∀ c ∈ seen ++ orb φ s, c ∈ M := fun c hc => by
        rcases List.mem_append.mp hc with h | h
        · exact hs c h
        · exact oM c h
      obtain ⟨i1, i2⟩ := cir_ok O hM r (seen ++ orb φ s) hr' hs2 cl2 nd2
      refine ⟨by rw [List.flatten_cons, ← List.append_assoc]; exact i1, fun c hc => ?_⟩
      rw [List.flatten_cons] at hc
      rcases List.mem_append.mp hc with h | h
      · exact oM c h
      · exact i2 c h
theorem cir_26 {φ : Nat → Nat} {M : List Nat} (O : Onto φ M) (hM : ∀ c ∈ M, 97 ≤ c ∧ c < 123) (r : List Nat) (hr : ∀ s ∈ r, s ∈ M) : ((cir φ r []).map List.length).sum ≤ 26 := by
  obtain ⟨h1, h2⟩ := cir_ok O hM r [] hr (fun _ h => by cases h) (fun _ h => by cases h) List.nodup_nil
  rw [← List.length_flatten]
  exact few 26 _ (by simpa using h1) fun c hc => hM c (h2 c hc)
def backN (cs : List (List Nat)) : Nat := cs.foldl (fun a o => Nat.lcm a o.length) 1
theorem two_pow (n : Nat) : n ≤ 2 ^ n := Nat.le_of_lt Nat.lt_two_pow_self
theorem lcm_le {a b k m : Nat} (ha : 1 ≤ a) (hak : a ≤ 2 ^ k) (hbm : b ≤ 2 ^ m) (hb : 1 ≤ b) : 1 ≤ Nat.lcm a b ∧ Nat.lcm a b ≤ 2 ^ (k + m) := by
  refine ⟨Nat.lcm_pos ha hb, ?_⟩
  have h1 : Nat.lcm a b ≤ a * b := Nat.le_of_dvd (Nat.mul_pos ha hb) (Nat.lcm_dvd_mul a b)
  rw [Nat.pow_add]
  exact Nat.le_trans h1 (Nat.mul_le_mul hak hbm)
theorem orb_one {φ : Nat → Nat} {s : Nat} : 1 ≤ (orb φ s).length := by
  unfold orb ringLen
  rw [List.length_map, List.length_range]
  omega
theorem cir_one {φ : Nat → Nat} : ∀ (r seen : List Nat), ∀ o ∈ cir φ r seen, 1 ≤ o.length
  | [], _, o, h => by cases h
  | s :: r, seen, o, h => by
    unfold cir at h
    split at h
    · exact cir_one r seen o h
    · rcases List.mem_cons.mp h with rfl | h
      · exact orb_one
      · exact cir_one r _ o h
end TM
namespace TR
open PySem PySem.Spec PyProof.Rows L2 TM TK TB TP TH TU
section
variable {X : Cx} {n : Nat}
/-- a walk whose source wants n tokens out -/
def PIn (n : Nat) (X : Cx) (tg iter : Expr) (wi : TI) : Prop := ∀ (pins : List (Addr × Obj)) (s : Shared) (σ : L2.St) (H : Hp) (R : It → Hp → Prop), n ≤ s.toks → Inv X pins σ H s → wi σ H R →
  wpAny (model X.prog X.w) X.A (eval iter X.env) (fun v s1 => wpAny (model X.prog X.w) X.A (pyIter v) (PIE X pins σ tg R) X.xe s1) X.xe s
theorem pin_list {tg l : Expr} {tl : TE} (hl : PEn n X l tl) : PIn n X tg l (iList X.K tl) := by
  intro pins s σ H R hn I h
  refine thn (hl pins s σ H _ hn I h) fun v s1 z => ?_
  obtain ⟨x, H1, I1, r1, a, rfl, ⟨xs, hq⟩, q⟩ := z
  cases r1
  obtain ⟨its, rv, pp, hz⟩ := I1.list hq
  have new : H1 s1.heap.objs.size = none := I1.hok.fresh (Nat.le_refl _)
  refine wpAny_pyIter_list pp.isList ⟨s1.heap.objs.size, [s1.heap.objs.size], _, _, H1, rfl, I1.kept (t' := s1.toks) fun b o e => Heap.get?_push_of_some _ e, turn_list a _, ⟨_, Heap.get?_push_size _ rfl, rfl, rfl⟩, fun b hb => ?_, q⟩
  rw [List.mem_singleton.mp hb]
  exact I1.fpOk (Nat.le_refl _) new
theorem psn_forN {tg iter : Expr} {body : List Stmt} {wi : TI} {g : TG} {tb : TS} {pos : Pos} (hp : PassesOwn (model X.prog X.w) X.A X.env X.xe) (hc : X.calm = true) (hi : PIn n X tg iter wi) (hg : PG X tg g) (hb : PSsn n X body tb)
    (hs : ∀ x, foldedSetIterable iter X.env x = pure x := by intro _; rfl) : PSn n X (.For tg iter body [] pos) (tFor wi g tb) := by
  intro pins s σ H D hn I h
  refine wpAny_For (thnN hn (hi pins s σ H _ hn I h) fun v s1 hn1 h1 => thnN hn1 h1 fun itv s2 hn2 h2 => ?_) hs
  obtain ⟨it, fp, tn, J, H2, rfl, I2, T, st2, f2, W, ⟨m0, w0⟩, turn⟩ := h2
  refine codeAny_forLoop_any (fun m s' => n ≤ s'.toks ∧ ∃ i σ' H', Inv X pins σ' H' s' ∧ tn i s'.heap ∧ (∀ b ∈ fp, H' b = none) ∧ W i m σ' H') ?_ m0 ⟨hn2, 0, σ, H2, I2, st2, fun b hb => (f2 b hb).1, w0⟩
  rintro m s3 ⟨hn3, i, σ3, H3, I3, st3, fr3, w3⟩
  have ok3 : ∀ {H' : Hp}, (∀ b ∈ fp, H' b = none) → ∀ b ∈ fp, FpOk X pins H' b := fun z b hb => ⟨z b hb, (f2 b hb).2⟩
  rcases turn i m σ3 H3 w3 with ⟨stop, qn⟩ | ⟨go, N, hN, step⟩
  · refine wpAny_passesOwn hp (thn (T.done X rfl rfl rfl hc i pins s3 σ3 H3 X.xe I3 (ok3 fr3) st3 stop) fun r s4 hr => ?_)
    obtain ⟨rfl, I4⟩ := hr
    exact wpAny_execs_nil ⟨σ3, H3, I4, qn⟩
  · refine wpAny_passesOwn hp (thnN hn3 (T.item X rfl rfl rfl hc i pins s3 σ3 H3 X.xe I3 (ok3 fr3) st3 go) fun r s4 hn4 hr => ?_)
    obtain ⟨u, rfl, h4⟩ := hr
    refine wpAny_passesOwn hp (thnN hn4 h4 fun _ s5 hn5 ⟨x, H5, I5, r5, y5, st5, fr5⟩ => ?_)
    have J5 := I5.pinned (ok3 fr5) (T.obj _ _ st5)
    refine wpAny_passesOwn hp (thnN hn5 (hg.run _ s5 σ3 H5 x u _ J5 r5 (step x H5 y5)) fun _ s6 hn6 ⟨σ6, H6, I6, q6⟩ => ?_)
    refine wpAny_passesOwn hp (thnN hn6 (hb _ s6 σ6 H6 _ hn6 I6 q6) fun f s7 hn7 q7 => ?_)
    have more : ∀ {σ7 : L2.St} {H7 : Hp}, Inv X (pins ++ pinsAt fp s5.heap) σ7 H7 s7 → N σ7 H7 → ∃ m', m' < m ∧ (n ≤ s7.toks ∧ ∃ i σ' H', Inv X pins σ' H' s7 ∧ tn i s7.heap ∧ (∀ b ∈ fp, H' b = none) ∧ W i m' σ' H') := fun {σ7 H7} I7 z => by
      obtain ⟨m', hm, w7⟩ := hN σ7 H7 z
      obtain ⟨t1, t2⟩ := turn_back T st5 I7
      exact ⟨m', hm, hn7, i + 1, σ7, H7, I7.unpinned, t1, t2, w7⟩
    cases f with
    | next => obtain ⟨σ7, H7, I7, z⟩ := q7; exact more I7 z
    | cont => obtain ⟨σ7, H7, I7, z⟩ := q7; exact more I7 z
    | brk => obtain ⟨σ7, H7, I7, z⟩ := q7; exact ⟨σ7, H7, I7.unpinned, z⟩
    | ret v => obtain ⟨x7, σ7, H7, I7, r7, z⟩ := q7; exact ⟨x7, σ7, H7, I7.unpinned, r7, z⟩
end
section
variable {X : Cx}
def rLcm : List V → Hp → VK → Prop := fun vs H Q => ∃ a b : Nat, vs = [.int a, .int b] ∧ a ≤ 2 ^ 40 ∧ b ≤ 2 ^ 20 ∧ Q (.int ((Nat.lcm a b : Nat) : Int)) H
theorem cr_lcm : CallR X (.builtin "math.lcm") rLcm := by
  intro pins s σ H vs us Q I r h
  obtain ⟨a, b, rfl, ha, hb, q⟩ := h
  obtain ⟨t, u, rfl⟩ := Vals.int2 r
  have e : (Nat.lcm 1 ((a : Nat) : Int).natAbs).lcm ((b : Nat) : Int).natAbs = Nat.lcm a b := by
    rw [Int.natAbs_natCast, Int.natAbs_natCast, Nat.lcm_one_left]
  have hl : Nat.lcm a b ≤ 2 ^ 60 := by
    rcases Nat.eq_zero_or_pos (Nat.lcm a b) with z | z
    · rw [z]; exact Nat.zero_le _
    · have h0 : 0 < a * b := by
        rcases Nat.eq_zero_or_pos (a * b) with y | y
        · rcases Nat.mul_eq_zero.mp y with y | y
          · rw [y, Nat.lcm_zero_left] at z; omega
          · rw [y, Nat.lcm_zero_right] at z; omega
        · exact y
      refine Nat.le_trans (Nat.le_of_dvd h0 (Nat.lcm_dvd_mul a b)) ?_
      exact Nat.le_trans (Nat.mul_le_mul ha hb) (by decide)
  refine PySem.W.mg_lcm (by rw [Int.natAbs_natCast]; omega) (by rw [Int.natAbs_natCast]; omega) ?_ ?_
  · rw [e, Int.natAbs_natCast]
    have h1 : (Nat.lcm a b).log2 ≤ 60 := by
      rcases Nat.eq_zero_or_pos (Nat.lcm a b) with z | z
      · rw [z]; decide
      · rcases Nat.lt_or_ge 60 (Nat.lcm a b).log2 with y | y
        · have := (Nat.le_log2 (by omega)).mp (show 61 ≤ (Nat.lcm a b).log2 by omega)
          omega
        · exact y
    exact Nat.lt_of_le_of_lt h1 (by decide)
  · rw [e]
    exact ⟨.int _, H, I.tok _, ⟨_, rfl⟩, q⟩
end
section
variable {P : Program} {w_ : World} {K : PySem.W.Frag} {mg : Str → Option Value} {base : Heap} {C D fCi : Addr} {n : Nat}
abbrev NBk : List Str := ["tray", "word", "rounds", "circle"]
theorem scBk : FnScope NBk ["tray", "word"] (defScope sBackAfter) := ⟨rfl, rfl, rfl, by decide +kernel, rfl, by decide +kernel, by decide +kernel⟩
/-- the circles between a first and a second round -/
def cirs (h w : Nat) (t : List Nat) (g : Grid) : List (List Nat) := cir (nxt (tilts h w t g).flatten (tilts h w t (tilts h w t g)).flatten) (srt (mb (tilts h w t g).flatten)) []
def spBk (K : PySem.W.Frag) (C D : Addr) : Sp := fun vs H Q _ => ∃ (p q : Addr) (h w : Nat) (g : Grid) (t : List Nat), vs = [.ref p, .ref q] ∧ TrayAt K D H p g ∧ VG h w g ∧ WordAt C H q t ∧
  ∀ H', Same H H' → Q (.int ((backN (cirs h w t g) : Nat) : Int)) H'
theorem ok_bk {f : Addr} {fd : FuncData} (F : Fun K "back_after" "back_after" sBackAfter f fd) (b : Binds K fd ["tray", "word"] []) (hlen : mg "len" = none) (hlcm : mg "lcm" = some (.builtin "math.lcm"))
    (GC : FnRn n P w_ K mg base CX0 6 fCi (spCi K C D)) (kC : PySem.W.keepIn K (.ref fCi) = true) (mC : mg "circles" = some (.ref fCi)) : FnRn n P w_ K mg base CX0 7 f (spBk K C D) := by
  refine fn_n F b scBk (fun vs H Q E h => ?_) fun cdv A outer s H vs Q E hr h => ?_
  · obtain ⟨p, q, h, w, g, t, rfl, _⟩ := h
    rfl
  · obtain ⟨p, q, h, w, g, t, rfl, T0, hV, W0, k⟩ := h
    have nd := scBk.nd
    refine ⟨_, pssn_cons (PS.up (ps_set (i := 2) nd rfl (.inl rfl) pe_int))
      (pssn_cons (psn_forN PassesOwn.never rfl (pin_list (pen_call GC hr rfl mC kC pass0 (pan_cons (PE.up (pv 0)) (pan_cons (PE.up (pv 1)) pan_nil)))) (pg_name (i := 3) nd rfl (.inl rfl))
        (pssn_one (PS.up (ps_set (i := 2) nd rfl (.inl rfl) (pe_callBfun cr_lcm rfl hlcm (pa_cons (pv 2) (pa_cons (pe_callB call_len_str (by rfl) hlen PySem.boot_len (pa_cons (pv 3) pa_nil)) pa_nil)))))))
      (pssn_one (PS.up (ps_ret (pv 2))))), ?_⟩
    have V1 := VG.tilts t hV
    obtain ⟨f0, sg0, hf0⟩ := turn_sig hV.rc V1.nd
    have hT : Two f0 (tilts h w t g).flatten (tilts h w t (tilts h w t g)).flatten := ⟨sg0, by rw [hf0, rel_flat], V1.nd, (like_tilts t V1.rc).pm⟩
    have h26 : ((cirs h w t g).map List.length).sum ≤ 26 := cir_26 (onto_nxt hT) (mb_let V1) _ fun s hs => mem_srt.mp hs
    have h1 : ∀ o ∈ cirs h w t g, 1 ≤ o.length := cir_one _ _
    refine ⟨_, rfl, _, rfl, p, q, h, w, g, t, rfl, T0, hV, W0, fun H1 l sm1 hl hl' => ?_⟩
    replace hl' : H1 l = some (.lst ((cirs h w t g).map strL)) := hl'
    generalize cirs h w t g = cs at k h26 h1 hl'
    refine ⟨l, rfl, ⟨_, SqL.of hl'⟩, for_list (K := K) (a := l) (xs := cs.map strL) (fun i σ H2 => ∃ v3, σ = [some (.ref p), some (.ref q), some (.int ((backN (cs.take i) : Nat) : Int)), v3] ∧ H2 = H1 ∧ 1 ≤ backN (cs.take i) ∧ backN (cs.take i) ≤ 2 ^ ((cs.take i).map List.length).sum)
      ⟨none, rfl, rfl, Nat.le_refl _, Nat.le_refl _⟩ (fun i σ H2 _ ⟨_, _, e, _⟩ => by rw [e]; exact SqL.of hl') ?_ ?_⟩
    · rintro i x σ H2 hi ⟨v3, rfl, rfl, b1, b2⟩
      obtain ⟨o, ho, rfl⟩ := at_map hi
      have et : cs.take (i + 1) = cs.take i ++ [o] := by rw [List.take_add_one, ho]; rfl
      have eb : backN (cs.take (i + 1)) = Nat.lcm (backN (cs.take i)) o.length := by
        rw [et]
        unfold backN
        rw [List.foldl_append]
        rfl
      have es : ((cs.take (i + 1)).map List.length).sum = ((cs.take i).map List.length).sum + o.length := by
        rw [et, List.map_append, List.sum_append]
        simp
      have tot : ((cs.take (i + 1)).map List.length).sum ≤ 26 := by
        have : cs = cs.take (i + 1) ++ cs.drop (i + 1) := (List.take_append_drop _ _).symm
        rw [this, List.map_append, List.sum_append] at h26
        omega
      have o1 := h1 o (List.mem_of_getElem? ho)
      have hp := lcm_le b1 b2 (two_pow o.length) o1
      have b40 : backN (cs.take i) ≤ 2 ^ 40 := Nat.le_trans b2 (Nat.pow_le_pow_right (by decide) (by omega))
      have sl : (S o).length ≤ sizeLine := by
        rw [S_len]
        show _ ≤ 16777216
        omega
      refine ⟨_, rfl, _, rfl, _, rfl, sl, _, _, rfl, b40, ?_, ?_⟩
      · rw [S_len]
        exact Nat.le_trans (show o.length ≤ 26 by omega) (by decide)
      · rw [S_len]
        refine ⟨some (strL o), ?_, rfl, by rw [eb]; exact hp.1, by rw [eb, es]; exact hp.2⟩
        rw [eb]
        rfl
    · rintro σ H2 ⟨v3, rfl, rfl, b1, b2⟩
      rw [List.length_map, List.take_length]
      exact ⟨_, rfl, k _ sm1⟩
end
end TR
end
section
set_option Elab.async false
set_option maxRecDepth 100000
set_option linter.all false
namespace TR
open PySem PySem.Spec PyProof.Rows L2 TM TK TB TP TH TU
section
variable {P : Program} {w_ : World} {K : PySem.W.Frag} {mg : Str → Option Value} {base : Heap} {C D fT pO gO : Addr} {mc : Value} {fdT : FuncData} {a : Addr} {ns : List Int}
theorem scGr : FnScope ["_law_row", "_law_many"] ["_law_row", "_law_many"] (defScope sLawGreat) := ⟨rfl, rfl, rfl, by decide +kernel, rfl, by decide +kernel, by decide +kernel⟩
def spGr (K : PySem.W.Frag) (a : Addr) (ns : List Int) : Sp := fun vs H Q _ => ∃ (r : Addr) (m : Int), vs = [.ref r, .int m] ∧ RowAt K a ns H r ∧ 1 ≤ m ∧ ∀ H' (k : Nat), (k : Int) < m → RowAt K a ns H' r → But r H H' → Q (.int k) H'
theorem ok_gr {f : Addr} {fd : FuncData} (F : Fun K "_law_great" "_law_great" sLawGreat f fd) (L : TxtL K mg) (GT : FnOk P w_ K mg base CX0 1 fT fdT ["_law_row", "_law_many"] (spTk K a ns)) (kT : PySem.W.keepIn K (.ref fT) = true) (bT : Binds K fdT ["_law_row", "_law_many"] []) (mT : mg "_law_taken" = some (.ref fT)) :
    FnOk P w_ K mg base CX0 2 f fd ["_law_row", "_law_many"] (spGr K a ns) := by
  refine F.ok scGr (fun vs H Q E h => ?_) (fun cdv A outer s H vs Q E hr h => ?_)
  · obtain ⟨r, m, rfl, _⟩ := h
    rfl
  · obtain ⟨r, m, rfl, hR, m1, k⟩ := h
    refine ⟨_, pss_one (ps_ret (pe_op op_modN (pe_callTy call_int1 (by rfl) L.int (by decide +kernel) (pa_cons (pe_op op_add (pe_op op_mul (pe_call GT hr rfl mT kT bT .nil pass0 (pa_cons (pv 0) (pa_cons (pe_op op_pow pe_int pe_int) pa_nil))) (pe_op op_pow pe_int pe_int))
        (pe_call GT hr rfl mT kT bT .nil pass0 (pa_cons (pv 0) (pa_cons (pe_op op_pow pe_int pe_int) pa_nil)))) pa_nil)) (pv 1))), ?_⟩
    refine ⟨_, rfl, _, _, rfl, rfl, ⟨by decide, by decide, by decide⟩, r, _, rfl, hR, by decide, by decide, fun H1 i hi R1 b1 => ?_⟩
    refine ⟨_, _, rfl, rfl, ⟨by decide, by decide, by decide⟩, _, _, rfl, rfl, .inr (by decide), ?_⟩
    refine ⟨_, rfl, _, _, rfl, rfl, ⟨by decide, by decide, by decide⟩, r, _, rfl, R1, by decide, by decide, fun H2 j hj R2 b2 => ?_⟩
    refine ⟨_, _, rfl, rfl, .inl ⟨_, rfl, _, rfl, _, _, rfl, rfl, by omega, ?_⟩⟩
    have hk := fmod_in (k := (i : Int) * 10 ^ (9 : Int).toNat + (j : Int)) m1
    have := k H2 (((i : Int) * 10 ^ (9 : Int).toNat + (j : Int)).fmod m).toNat (by omega) R2 (b1.trans b2)
    rw [Int.toNat_of_nonneg hk.1] at this
    exact this
theorem scTry : FnScope ["_law_rows_here"] ["_law_rows_here"] (defScope sLawTray) := ⟨rfl, rfl, rfl, by decide +kernel, rfl, by decide +kernel, by decide +kernel⟩
def spTry (K : PySem.W.Frag) (D : Addr) : Sp := fun vs H Q _ => ∃ (l : Addr) (h w : Nat) (g : Grid), vs = [.ref l] ∧ VG h w g ∧ H l = some (.lst (rowV g)) ∧ ∀ H' p, Same H H' → TrayAt K D H' p g → Q (.ref p) H'
theorem ok_try {f : Addr} {fd : FuncData} (F : Fun K "_law_tray" "_law_tray" sLawTray f fd) (CT : ClsT K mg D) (CR_ : ClX.CRead K D mc) (CM : ClX.CMet K D mc "of_text" pO gO) (GO : FnR P w_ K mg base CX0 5 gO (spOt K D)) :
    FnOk P w_ K mg base CX0 6 f fd ["_law_rows_here"] (spTry K D) := by
  refine F.ok scTry (fun vs H Q E h => ?_) (fun cdv A outer s H vs Q E hr h => ?_)
  · obtain ⟨l, h, w, g, rfl, _⟩ := h
    rfl
  · obtain ⟨l, h, w, g, rfl, hV, hl, k⟩ := h
    refine ⟨_, pss_one (ps_ret (ClX.pe_cmeth (pe_glob (v := .ref D) rfl CT.mgC rfl) CR_ CM GO hr pass0 (pa_cons (pe_join pe_str (pv 0)) pa_nil))), ?_⟩
    have h1 := row_sum 8 g fun r hr => hV.row hr
    have h2 := hV.len
    refine ⟨rfl, ⟨_, rfl⟩, _, rfl, _, l, g.map S, rfl, rfl, .inl ?_, ?_, h, w, g, ?_, hV, fun H' p sm ht => k H' p sm ht⟩
    · rw [List.map_map]
      exact SqL.of hl
    · rw [List.length_map]
      show _ + _ * 1 ≤ 16777216
      omega
    · show [V.ref D, V.str (Txt.join (S [10]) (g.map S))] = _
      rw [join_S]
end
end TR
end
section
set_option Elab.async false
set_option maxRecDepth 100000
set_option linter.all false
namespace TR
open PySem PySem.Spec PyProof.Rows L2 TM TK TB TP TH TU
section
variable {X : Cx}
def dWell (d : PyData) : Prop := PySem.W.alike d d = true ∧ d.depth ≤ 60 ∧ PyData.eqv d d = true
theorem hits_data {pins : List (Addr × Obj)} {σ : L2.St} {H : Hp} {s : Shared} (I : Inv X pins σ H s) {A : Around} (hu : A.units + 60 < cLine) {ls : List (Key × V)} {vb : List (Key × Value)} (rb : KV ls vb) {ks : List (Key × V)} {va : List (Key × Value)} (ra : KV ks va) :
    (∀ p ∈ ks, ∃ z d, valV ls p.1 = some z ∧ Dp X.K H p.2 d ∧ Dp X.K H z d ∧ dWell d) → PySem.W.KeqHits A s vb va true := by
  unfold KV at ra
  induction ra with
  | nil => intro _; exact .nil
  | @cons p q ps qs h t ih =>
    intro hp
    obtain ⟨h1, h2⟩ := h
    obtain ⟨z, d, e, d1, d2, w1, w2, w3⟩ := hp p List.mem_cons_self
    have rr : RelO (some z) (valueAt vb p.1) := by rw [← e]; exact rb.val p.1
    obtain ⟨y, hy, ry⟩ := rr.some_of
    obtain ⟨k, v⟩ := q
    have h1' : p.1 = k := h1
    rw [h1'] at hy
    obtain ⟨as, r1⟩ := Dp.reads I d _ _ d1 h2
    obtain ⟨bs, r2⟩ := Dp.reads I d _ _ d2 ry
    have E := PySem.W.eqAt_alike d d A s _ _ _ _ r1 r2 w1 (by rw [Nat.min_self]; omega)
    rw [w3] at E
    show PySem.W.KeqHits A s vb ((k, v) :: qs) (true && true)
    exact .hit hy E (ih fun p' hm => hp p' (List.mem_cons_of_mem _ hm))
def rNeDD (K : PySem.W.Frag) : R2 := fun x y H Q => ∃ a b ks ls, x = .ref a ∧ y = .ref b ∧ H a = some (.dK ks) ∧ H b = some (.dK ls) ∧ ks.length = ls.length ∧ (∀ p ∈ ks, ∃ z d, valV ls p.1 = some z ∧ Dp K H p.2 d ∧ Dp K H z d ∧ dWell d) ∧ Q (.bl false) H
theorem op_neDD (hu : X.A.units + 64 < cLine) : OpR X (compareOp .NotEq) (rNeDD X.K) := by
  intro pins s σ H x y v u Q I rx ry h
  obtain ⟨a, b, ks, ls, rfl, rfl, ea, eb, hlen, hp, q⟩ := h
  obtain rfl : v = Value.ref a := rx
  obtain rfl : u = Value.ref b := ry
  obtain ⟨_, ya, va, ra, da⟩ := (show ObjOk X.prog X.w H s.heap a (.dK ks) from I.hok a _ ea)
  obtain ⟨_, yb, vb, rb, db⟩ := (show ObjOk X.prog X.w H s.heap b (.dK ls) from I.hok b _ eb)
  have hl : va.length = vb.length := by rw [← ra.length, ← rb.length]; exact hlen
  exact PySem.W.keq_ne (knd := mixKind X.prog X.w) (r := true) ya yb da db (by omega) (fun _ => hits_data I (by show X.A.units + 1 + 60 < cLine; omega) rb ra hp) (fin_bl I q (by simp [hl]))
/-- pairs in order -/
def pairD (z : Int × Int) : PyData := .tuple [.int z.1, .int z.2]
def Sd (zs : List (Int × Int)) : Prop := zs.Pairwise fun x y => SrtO.lexB y x = false
/-- what sorted gives: its pairs, in order -/
def sorted_res (K : PySem.W.Frag) (H : Hp) (zs0 : List (Int × Int)) (Q : VK) : Prop := ∀ (ys : List V) (zs : List (Int × Int)) (p : Addr), zs.Perm zs0 → Sd zs → DpAll K H ys (zs.map pairD) → H p = none → Q (.ref p) (upd H p (.lst ys))
/-- the pairs that values stand for -/
def PrsV (H : Hp) (vs : List Value) (zs : List (Int × Int)) : Prop := Paired (fun (v : Value) (z : Int × Int) => ∃ a, v = Value.ref a ∧ H a = some (.tup [.int z.1, .int z.2])) vs zs
def pkH (H : Hp) : Value → Int × Int
  | .ref a => match H a with
    | some (.tup [.int i, .int j]) => (i, j)
    | _ => (0, 0)
  | _ => (0, 0)
theorem pkH_at {H : Hp} {a : Addr} {i j : Int} (h : H a = some (.tup [.int i, .int j])) : pkH H (.ref a) = (i, j) := by
  simp only [pkH, h]
theorem prs_len {H : Hp} : ∀ {vs : List Value} {zs : List (Int × Int)}, PrsV H vs zs → vs.length = zs.length
  | _, _, h => Paired.length h
theorem prs_map {H : Hp} {vs : List Value} {zs : List (Int × Int)} (h : PrsV H vs zs) : vs.map (pkH H) = zs := by
  unfold PrsV at h
  induction h with
  | nil => rfl
  | @cons v z _ _ h t ih =>
    obtain ⟨a, rfl, e⟩ := h
    rw [List.map_cons, ih, pkH_at e]
theorem prs_mem {H : Hp} {vs : List Value} {zs : List (Int × Int)} (h : PrsV H vs zs) : ∀ v ∈ vs, ∃ a, v = Value.ref a ∧ H a = some (.tup [.int (pkH H v).1, .int (pkH H v).2]) := by
  unfold PrsV at h
  induction h with
  | nil => intro v hv; cases hv
  | @cons v z _ _ h t ih =>
    intro u hu
    rcases List.mem_cons.mp hu with rfl | hu
    · obtain ⟨a, rfl, e⟩ := h
      refine ⟨a, rfl, ?_⟩
      rw [pkH_at e]
      exact e
    · exact ih u hu
theorem prs_dp {K : PySem.W.Frag} {H : Hp} : ∀ {out : List Value}, (∀ v ∈ out, ∃ a, v = Value.ref a ∧ H a = some (.tup [.int (pkH H v).1, .int (pkH H v).2])) → DpAll K H (out.map backV) ((out.map (pkH H)).map pairD)
  | [], _ => .nil
  | v :: r, h => by
    obtain ⟨a, rfl, e⟩ := h v List.mem_cons_self
    exact .cons (.tup (SqT.of e) (.cons (.int _) (.cons (.int _) .nil))) (prs_dp fun u hu => h u (List.mem_cons_of_mem _ hu))
open SrtO in
theorem sorted_prs {pins : List (Addr × Obj)} {σ : L2.St} {H : Hp} {s : Shared} (I : Inv X pins σ H s) {r : Value} {zs0 : List (Int × Int)} {Q : VK}
    (hcol : ∀ R : List Value → Shared → Prop, (∀ (h' : Heap) (tk : Nat) (vs : List Value), (∀ b o, s.heap.get? b = some o → h'.get? b = some o) → PrsV H vs zs0 → R vs { s with heap := h', toks := tk }) → wpAny (model X.prog X.w) X.A.in1 (collect r) R X.xe s)
    (hz : zs0.length ≤ sizeLine) (q : sorted_res X.K H zs0 Q) : wpAny (model X.prog X.w) X.A (call (.builtin "sorted") [r]) (EP X pins σ Q) X.xe s := by
  refine Calls.call_function_entry PyProof.Rows.kind_sorted PyProof.Rows.plain_sorted PyProof.Rows.entry_sorted (PyProof.Rows.args_sorted1 _) ?_
  unfold Builtin.«sorted»
  refine wpAny_bind (m := checkCount "sorted" 1 1 _) (wpAny_pure ?_)
  refine wpAny_bind (hcol _ fun h' tk vs hk P => ?_)
  have hzv : vs.length ≤ sizeLine := by rw [prs_len P]; exact hz
  have I1 : Inv X pins σ H { s with heap := h', toks := tk } := I.kept hk
  refine wpAny_bind (wpAny_newList ?_ hzv)
  have hoL : (h'.push (seqObj "list" vs.toArray 0)).get? h'.objs.size = some (seqObj "list" vs.toArray 0) := Heap.get?_push_size _ rfl
  show wpAny _ _ _ _ _ { s with heap := h'.push (seqObj "list" vs.toArray 0), toks := tk }
  have pm := prs_mem P
  have hp : ∀ v ∈ vs, Srt.IsPair h' v (pkH H v).1 (pkH H v).2 := fun v hv => by
    obtain ⟨t, e, ht⟩ := pm v hv
    obtain ⟨_, its2, r2, o, ho, hc, n, hd⟩ := I1.hok _ _ ht
    obtain ⟨u1, u2, rfl, ri, rj⟩ := vals2 r2
    obtain ⟨t1, rfl⟩ := ri
    obtain ⟨t2, rfl⟩ := rj
    exact ⟨t, o, t1, t2, n, e, ho, hc, hd⟩
  refine wpAny_bind (wpAny_holding (wpAny_call_entry PyProof.Rows.slot_list_sort ⟨_, hoL, rfl⟩ PyProof.Rows.entry_list_sort
    (SrtO.list_sort_ord (SrtO.swo_lex (pkH H)) hoL hzv (fun h2 => pairs_sortableO (by omega) (fun v hm => (hp v hm).keeps fun b o e _ => Heap.get?_push_of_some _ e) fun o e => ?_) fun out hs hb => ⟨_, rfl, ?_⟩) (PyProof.Rows.args_list_sort _)))
  · have e' : some o = some (seqObj "list" vs.toArray 0) := e.symm.trans hoL
    cases e'
    intro c
    exact absurd (Value.type.inj c) (by decide)
  obtain ⟨e', he'⟩ := PyProof.Rows.sortedHeap_at (vs := vs) (out := out.toArray) hoL
  have hm : ∀ v ∈ out, ∃ a, v = Value.ref a ∧ H a = some (.tup [.int (pkH H v).1, .int (pkH H v).2]) := fun v hv => pm v (hb.perm.mem_iff.mp hv)
  have hlen : (out.map backV).length ≤ sizeLine := by rw [List.length_map, hb.perm.length_eq]; exact hzv
  refine wpAny_pure ⟨_, rfl, .ref h'.objs.size, upd H h'.objs.size (.lst (out.map backV)), I1.laid (t' := tk) (fun b u e => ?_) (Nat.le_refl _)
    (show ObjOk X.prog X.w _ _ _ (.lst (out.map backV)) from ⟨hlen, out, e', vals_back fun u hu => ?_, he'⟩), rfl, q _ (out.map (pkH H)) _ ?_ ?_ (prs_dp hm) (I1.hok.fresh (Nat.le_refl _))⟩
  · have hb : b < h'.objs.size := Heap.lt_size e
    rw [PyProof.Rows.sortedHeap_old (Nat.ne_of_lt hb) (by rw [size_push']; exact Nat.lt_succ_of_lt hb)]
    exact Heap.get?_push_of_some _ e
  · obtain ⟨a, e, _⟩ := hm u hu
    exact ⟨a, e⟩
  · rw [← prs_map P]
    exact hb.perm.map _
  · exact List.pairwise_map.mpr hs
end
end TR
end
section
set_option Elab.async false
set_option maxRecDepth 100000
set_option linter.all false
namespace TR
open PySem PySem.Spec PyProof.Rows L2 TM TK TB TP TH TU
section
variable {X : Cx}
def pK (z : Int × Int) : List Key := [Sum.inl z.1, Sum.inl z.2]
theorem call_sortedDT (hc : X.calm = true) : CallR X (.builtin "sorted") (fun xs H Q => ∃ d kvs zs, xs = [V.ref d] ∧ H d = some (.dT kvs) ∧ kvs.map (·.1) = zs.map pK ∧ sorted_res X.K H zs Q) := by
  intro pins s σ H xs us Q I r h
  obtain ⟨d, kvs, zs, rfl, hd, hz, q⟩ := h
  obtain ⟨u, rfl, rx⟩ := r.one
  cases rx
  obtain ⟨z, hs, ks, pr, o, es, ep, ho, hx, hdt, he, hn⟩ := (show ObjOk X.prog X.w H s.heap d (.dT kvs) from I.hok d _ hd)
  have l1 : es.size = ks.length := size_of_entries he
  have l2 : kvs.length = ks.length := Paired.length pr
  have l3 : kvs.length = zs.length := by
    have e := congrArg List.length hz
    rw [List.length_map, List.length_map] at e
    exact e
  refine sorted_prs I (fun R k => PySem.W.kdu_collect (kdl_raw hs hx hdt) (I.ok.hd hc) ho (by omega) fun h' tk acc' kp it => k h' tk _ kp ?_) (by omega) q
  have ea : acc'.toList = ks.map fun x => Value.ref x.2.1 := by
    have hl : acc'.toList.length = ks.length := by rw [Array.length_toList, it.1]; exact l1
    apply List.ext_getElem?
    intro j
    rw [List.getElem?_map]
    cases hj : acc'.toList[j]? with
    | none =>
      have h1 := List.getElem?_eq_none_iff.mp hj
      rw [List.getElem?_eq_none (by omega)]
      all_goals rfl
    | some v =>
      obtain ⟨en, hen, hv⟩ := it.2 j v (by rw [← Array.getElem?_toList]; exact hj)
      have qe := entry_at he j
      rw [hen] at qe
      cases hb : ks[j]? with
      | none =>
        rw [hb] at qe
        exact nomatch (show some en = none from qe)
      | some b =>
        rw [hb] at qe
        have e2 : en = entryOfKey (tupleKind (mixKind X.prog X.w)) b := Option.some.inj qe
        rw [hv, e2]
        all_goals rfl
  rw [ea]
  clear ea it kp he hn l1 l2 l3 q hdt ho z hd k
  unfold PrsV
  induction pr generalizing zs with
  | nil =>
    cases zs with
    | nil => exact .nil
    | cons a b => cases hz
  | @cons p x ps xs h t ih =>
    cases zs with
    | nil => cases hz
    | cons z zs =>
      rw [List.map_cons, List.map_cons] at hz
      injection hz with h1 h2
      refine .cons ⟨_, rfl, ?_⟩ (ih _ h2)
      rw [h.2.1, h1]
      rfl
/-- d.values() as a value -/
def valuesO (p d : Addr) : HO := .ext fun h => h.IsValuesView p d
theorem valuesO_ok {P : Program} {w : World} {H : Hp} {h : Heap} {p d : Addr} (e : h.get? p = some { cls := .type "dict_values", data := .fields #[.ref d] }) : ObjOk P w H h p (valuesO p d) :=
  ⟨⟨_, e, rfl, rfl⟩, ⟨_, e⟩, fun h1 h2 x k => let ⟨o, ho, r⟩ := x; ⟨o, k o ho, r⟩⟩
def rValuesT : V → List V → Hp → VK → Prop := fun x xs H Q => ∃ (a : Addr) (kvs : List (List L2.Key × V)), x = .ref a ∧ xs = [] ∧ H a = some (.dT kvs) ∧ ∀ p, H p = none → Q (.ref p) (upd H p (valuesO p a))
theorem mt_valuesT : MtR X "dict.values" rValuesT := by
  intro pins s σ H x xs v us Q I rx rxs h
  obtain ⟨a, kvs, rfl, rfl, ha, q⟩ := h
  cases rx
  cases rxs
  obtain ⟨z, hd, xs', rel, o, es, ep, ho, hx, hdat, _⟩ := dt_of I.hok ha
  refine call_meetsIn F.slot_dict_values ⟨o, ho, hx.1⟩ F.entry_dict_values (F.args_dict_values_1 _) (PySem.meets_dict_values_raw a hd) ⟨⟨es, ep, o, ho, hx, hdat⟩, ?_⟩
  have hf : H s.heap.objs.size = none := I.hok.fresh (Nat.le_refl _)
  exact ⟨.ref s.heap.objs.size, upd H s.heap.objs.size (valuesO s.heap.objs.size a), I.laid (t' := s.toks) (fun b u e => Heap.get?_push_of_some _ e) (Nat.le_refl _) (valuesO_ok (Heap.get?_push_size _ rfl)), rfl, q _ hf⟩
theorem cr_sortedVT (hc : X.calm = true) : CallR X (.builtin "sorted") (fun xs H Q => ∃ p d kvs zs, xs = [V.ref p] ∧ H p = some (valuesO p d) ∧ H d = some (.dT kvs) ∧ Paired (fun (y : List Key × V) (z : Int × Int) => ∃ a, y.2 = V.ref a ∧ H a = some (.tup [.int z.1, .int z.2])) kvs zs ∧ sorted_res X.K H zs Q) := by
  intro pins s σ H xs us Q I r h
  obtain ⟨p, d, kvs, zs, rfl, hp, hd, hz, q⟩ := h
  obtain ⟨u, rfl, rx⟩ := r.one
  cases rx
  have view : s.heap.IsValuesView p d := (show ObjOk X.prog X.w H s.heap p (valuesO p d) from I.hok p _ hp).1
  obtain ⟨z, hs, ks, pr, o, es, ep, ho, hx, hdt, he, hn⟩ := (show ObjOk X.prog X.w H s.heap d (.dT kvs) from I.hok d _ hd)
  have l1 : es.size = ks.length := size_of_entries he
  have l2 : kvs.length = ks.length := Paired.length pr
  have l3 : kvs.length = zs.length := Paired.length hz
  refine sorted_prs I (fun R k => PySem.W.kdu_collect (KdlSrc.rawValues (es := es) (ep := ep)) (I.ok.hd hc) ⟨view, o, ho, hx, hdt⟩ (by omega) fun h' tk acc' kp it => k h' tk _ kp ?_) (by omega) q
  have ea : acc'.toList = ks.map fun x => x.2.2 := by
    have hl : acc'.toList.length = ks.length := by rw [Array.length_toList, it.1]; exact l1
    apply List.ext_getElem?
    intro j
    rw [List.getElem?_map]
    cases hj : acc'.toList[j]? with
    | none =>
      have h1 := List.getElem?_eq_none_iff.mp hj
      rw [List.getElem?_eq_none (by omega)]
      all_goals rfl
    | some v =>
      obtain ⟨hi, hv⟩ := it.2 j v (by rw [← Array.getElem?_toList]; exact hj)
      have qe := entry_at he j
      rw [Array.getElem?_eq_getElem hi] at qe
      cases hb : ks[j]? with
      | none =>
        rw [hb] at qe
        exact nomatch qe
      | some b =>
        rw [hb] at qe
        have e2 : es[j] = entryOfKey (tupleKind (mixKind X.prog X.w)) b := Option.some.inj qe
        rw [hv, e2]
        all_goals rfl
  rw [ea]
  clear ea it kp he hn l1 l2 l3 q hdt ho z hd k
  unfold PrsV
  induction pr generalizing zs with
  | nil =>
    cases hz
    exact .nil
  | @cons p x ps xs h t ih =>
    cases hz with
    | cons h1 h2 =>
      obtain ⟨a, e1, e2⟩ := h1
      refine .cons ⟨a, ?_, e2⟩ (ih _ h2)
      have r2 := h.2.2
      rw [e1] at r2
      exact r2
end
end TR
end
section
set_option Elab.async false
set_option maxRecDepth 100000
set_option linter.all false
namespace TR
open PySem PySem.Spec PyProof.Rows L2 TM TK TB TP TH TU
section
variable {X : Cx}
theorem cr_sortedTxt (hc : X.calm = true) : CallR X (.builtin "sorted") (fun xs H Q => ∃ t : List Nat, xs = [V.str (S t)] ∧ t.length < 64 ∧ ∀ p, H p = none → Q (.ref p) (upd H p (.lst ((srt t).map sg)))) := by
  intro pins s σ H xs us Q I r h
  obtain ⟨t, rfl, h64, q⟩ := h
  obtain ⟨u, rfl, rx⟩ := r.one
  obtain ⟨tk, rfl⟩ := rx
  refine Calls.call_function_entry PyProof.Rows.kind_sorted PyProof.Rows.plain_sorted PyProof.Rows.entry_sorted (PyProof.Rows.args_sorted1 _) ?_
  unfold Builtin.«sorted»
  refine wpAny_bind (m := checkCount "sorted" 1 1 _) (wpAny_pure ?_)
  have hsz : (S t).cps.size = t.length := by show t.toArray.size = _; simp
  refine wpAny_bind (wpAny_collect_str (A := X.A.in1) (show X.A.in1.handled = none from I.ok.hd hc) (S t) tk (fun s' acc hk g1 g2 g3 hacc => ?_) (by rw [hsz, sizeLine_eq]; omega))
  obtain ⟨h', gens, drawn, tk', os⟩ := s'
  dsimp only at g1 g2 g3 hk
  subst g1 g2 g3
  have hal : acc.toList.length = t.length := by rw [Array.length_toList, hacc.1, hsz]
  have hS : StrsAre acc.toList (t.map fun c => S [c]) := strs_at (by rw [hal, List.length_map]) fun j v e => by
    obtain ⟨c, u, e1, e2⟩ := hacc.2 j v (by rw [← Array.getElem?_toList]; exact e)
    have e3 : t[j]? = some c := by
      have : t.toArray[j]? = some c := e1
      simpa using this
    exact ⟨S [c], u, by rw [List.getElem?_map, e3]; rfl, e2⟩
  have I1 : Inv X pins σ H { s with heap := h', toks := tk' } := I.kept hk
  refine wpAny_bind (wpAny_newList ?_ (by rw [hal, sizeLine_eq]; omega))
  have hoL : (h'.push (seqObj "list" acc.toList.toArray 0)).get? h'.objs.size = some (seqObj "list" acc.toList.toArray 0) := Heap.get?_push_size _ rfl
  show wpAny _ _ _ _ _ { s with heap := h'.push (seqObj "list" acc.toList.toArray 0), toks := tk' }
  refine wpAny_bind (wpAny_holding (wpAny_call_entry PyProof.Rows.slot_list_sort ⟨_, hoL, rfl⟩ PyProof.Rows.entry_list_sort
    (list_sort_treeK strKind_oneLt (s := { s with heap := h'.push (seqObj "list" acc.toList.toArray 0), toks := tk' }) hoL hS.keysOf (fun v₁ v₂ rest e => keyKind_strs (by rw [← e]; exact hS)) (by rw [hal]; exact h64) fun st' hp hs => ⟨_, rfl, ?_⟩)
    (PyProof.Rows.args_list_sort _)))
  obtain ⟨ys, g1, g2, g3⟩ := sorted_out_str hS hp hs
  obtain ⟨e', he'⟩ := PyProof.Rows.sortedHeap_at (vs := acc.toList) (out := (arrOf st').map (·.2)) hoL
  have hlen : (ys.map V.str).length ≤ sizeLine := by
    rw [List.length_map, g2.length_eq, List.length_map]
    exact Nat.le_trans (Nat.le_of_lt h64) (by decide)
  have ey := sort_uniq g2 g3
  have ev : ys.map V.str = (srt t).map sg := by
    rw [ey, List.map_map]
    rfl
  refine wpAny_pure ⟨_, rfl, .ref h'.objs.size, upd H h'.objs.size (.lst (ys.map V.str)), I1.laid (t' := tk') (fun b u e => ?_) (Nat.le_refl _)
    (show ObjOk X.prog X.w _ _ _ (.lst (ys.map V.str)) from ⟨hlen, ((arrOf st').map (·.2)).toList, e', vals_of_strs g1, by rw [Array.toArray_toList]; exact he'⟩), rfl, ?_⟩
  · have hb : b < h'.objs.size := Heap.lt_size e
    rw [PyProof.Rows.sortedHeap_old (Nat.ne_of_lt hb) (by rw [size_push']; exact Nat.lt_succ_of_lt hb)]
    exact Heap.get?_push_of_some _ e
  · rw [ev]
    exact q _ (I1.hok.fresh (Nat.le_refl _))
theorem cmp_signs {prog : Program} {w : World} {A : Around} {t : List Nat} : CmpOf prog w A .Lt (SignAt (S t)) (fun i j => decide (((t.getD i 0 : Nat) : Int) < ((t.getD j 0 : Nat) : Int))) := fun i j vi vj s Q E hi hj h => by
  obtain ⟨c, u, e1, rfl⟩ := hi
  obtain ⟨d, v, e2, rfl⟩ := hj
  have at_ : ∀ {i c : Nat}, (S t).cps[i]? = some c → t.getD i 0 = c := fun {i c} e => by
    have : t.toArray[i]? = some c := e
    have : t[i]? = some c := by simpa using this
    rw [List.getD_eq_getElem?_getD, this]
    rfl
  dsimp only at h
  rw [at_ e1, at_ e2] at h
  refine PySem.P.lt_str ?_
  have e : decide ((⟨#[c]⟩ : Str).cps.toList < (⟨#[d]⟩ : Str).cps.toList) = decide (((c : Nat) : Int) < ((d : Nat) : Int)) := by
    have : (([c] : List Nat) < [d]) ↔ ((c : Nat) : Int) < ((d : Nat) : Int) := by rw [List.cons_lt_cons_iff, Int.ofNat_lt]; simp
    exact decide_eq_decide.mpr this
  rw [e]
  exact h
theorem cr_minTxt (hc : X.calm = true) : CallR X (.builtin "min") (fun xs H Q => ∃ t : List Nat, xs = [V.str (S t)] ∧ t ≠ [] ∧ ∀ m, m ∈ t → (∀ y ∈ t, m ≤ y) → Q (sg m) H) := by
  intro pins s σ H xs us Q I r h
  obtain ⟨t, rfl, hne, q⟩ := h
  obtain ⟨u, rfl, rx⟩ := r.one
  obtain ⟨tk, rfl⟩ := rx
  have hsz : (S t).cps.size = t.length := by show t.toArray.size = _; simp
  have hpos : 0 < t.length := List.length_pos_iff.mpr hne
  refine call_min_walk (wpAny_pyIter_str fun o St W hst => ?_)
  refine ⟨s.heap.objs.size, [s.heap.objs.size], [s.heap.objs.size], (S t).cps.size, SignAt (S t), St, _, rfl, W _ (I.ok.hd hc), hst, fun b hb => ?_, by rw [hsz]; exact hpos, cmp_signs, fun v h' tk' hP hk => ?_⟩
  · rw [List.mem_singleton.mp hb]
    show _ < (s.heap.push _).objs.size
    rw [Heap.size_push]
    exact Nat.lt_succ_self _
  · obtain ⟨c, u, e1, rfl⟩ := hP
    obtain ⟨b1, b2⟩ := argBest_lt (fun i => ((t.getD i 0 : Nat) : Int)) ((S t).cps.size - 1)
    rw [hsz] at e1 b1 b2
    have e1' : t[argBest (fun i j => decide (((t.getD i 0 : Nat) : Int) < ((t.getD j 0 : Nat) : Int))) (t.length - 1)]? = some c := by
      have : t.toArray[argBest (fun i j => decide (((t.getD i 0 : Nat) : Int) < ((t.getD j 0 : Nat) : Int))) (t.length - 1)]? = some c := e1
      simpa using this
    refine ⟨.str (S [c]), H, I.kept (t' := tk') fun b u e => hk b u (fun hm => ?_) (Heap.get?_push_of_some _ e), ⟨_, rfl⟩, q c (List.mem_of_getElem? e1') fun y hy => ?_⟩
    · have e2 := Heap.lt_size e
      rw [List.mem_singleton.mp hm] at e2
      exact absurd e2 (Nat.lt_irrefl _)
    · obtain ⟨j, hj, rfl⟩ := List.mem_iff_getElem.mp hy
      have := b2 j (by omega)
      rw [List.getD_eq_getElem?_getD, e1', List.getD_eq_getElem?_getD, List.getElem?_eq_getElem hj] at this
      simp only [Option.getD_some] at this
      omega
end
end TR
end
section
set_option Elab.async false
set_option maxRecDepth 100000
set_option linter.all false
namespace TR
open PySem PySem.Spec PyProof.Rows L2 TM TK TB TP TH TU TW
section
variable {X : Cx} {n : Nat}
theorem pen_cmpR2 {op : CmpOp} {r : R2} {a b : Expr} {ta tb : TE} {pos : Pos} (ho : OpR X (compareOp op) r) (ha : PEn n X a ta) (hb : PEn n X b tb) (hm : behindInMarks op b = false) : PEn n X (.Compare a [op] [b] pos) (tOp r ta tb) := fun pins s σ H Q hn I h =>
  wpAny_Compare1 (thnN hn (ha pins s σ H _ hn I h) fun v s1 hn1 ⟨x, H1, I1, r1, q1⟩ => thn (hb pins s1 σ H1 _ hn1 I1 q1) fun u s2 ⟨y, H2, I2, r2, q2⟩ => ho pins s2 σ H2 x y v u Q I2 r1 r2 q2) hm
end
theorem two_of {h w : Nat} {t : List Nat} {g : Grid} (hV : VG h w g) : ∃ f0, Two f0 (tilts h w t g).flatten (tilts h w t (tilts h w t g)).flatten ∧ tilts h w t (tilts h w t g) = rel f0 (tilts h w t g) := by
  have V1 := VG.tilts t hV
  obtain ⟨f0, sg0, hf0⟩ := turn_sig hV.rc V1.nd
  exact ⟨f0, ⟨sg0, by rw [hf0, rel_flat], V1.nd, (like_tilts t V1.rc).pm⟩, hf0⟩
theorem cirs_26 {h w : Nat} {t : List Nat} {g : Grid} (hV : VG h w g) : ((cirs h w t g).map List.length).sum ≤ 26 := by
  obtain ⟨f0, hT, _⟩ := two_of (t := t) hV
  exact cir_26 (onto_nxt hT) (mb_let (VG.tilts t hV)) _ fun s hs => mem_srt.mp hs
theorem backN_pow : ∀ (cs : List (List Nat)) (a k : Nat), 1 ≤ a → a ≤ 2 ^ k → (∀ o ∈ cs, 1 ≤ o.length) → 1 ≤ cs.foldl (fun a o => Nat.lcm a o.length) a ∧ cs.foldl (fun a o => Nat.lcm a o.length) a ≤ 2 ^ (k + (cs.map List.length).sum)
  | [], a, k, h1, h2, _ => ⟨h1, h2⟩
  | o :: r, a, k, h1, h2, h => by
    have hp := lcm_le h1 h2 (two_pow o.length) (h o List.mem_cons_self)
    have := backN_pow r _ (k + o.length) hp.1 hp.2 fun x hx => h x (List.mem_cons_of_mem _ hx)
    rw [List.map_cons, List.sum_cons, ← Nat.add_assoc]
    exact this
theorem backN_ok {h w : Nat} {t : List Nat} {g : Grid} (hV : VG h w g) : 1 ≤ backN (cirs h w t g) ∧ backN (cirs h w t g) ≤ 2 ^ 26 := by
  have := backN_pow (cirs h w t g) 1 0 (Nat.le_refl _) (Nat.le_refl _) (cir_one _ _)
  refine ⟨this.1, Nat.le_trans this.2 (Nat.pow_le_pow_right (by decide) ?_)⟩
  have := cirs_26 (t := t) hV
  omega
section
variable {P : Program} {w_ : World} {K : PySem.W.Frag} {mg : Str → Option Value} {base : Heap} {C D CU fCl fTc fCm fAr fBk fTe : Addr} {n : Nat} {fdCm : FuncData}
theorem scCm : FnScope ["tray", "marble"] ["tray", "marble"] (defScope sCheckMarble) := ⟨rfl, rfl, rfl, by decide +kernel, rfl, by decide +kernel, by decide +kernel⟩
def spCm (K : PySem.W.Frag) (D : Addr) : Sp := fun vs H Q _ => ∃ (p : Addr) (c h w : Nat) (g : Grid), vs = [.ref p, sg c] ∧ TrayAt K D H p g ∧ VG h w g ∧ c ∈ mb g.flatten ∧ ∀ H', Same H H' → Q .non H'
theorem ok_cm {f : Addr} {fd : FuncData} (F : Fun K "check_marble" "check_marble" sCheckMarble f fd) (hs : PySem.W.findIn K (.ref D) "__contains__" = some (some (.ref fTc))) (hf : PySem.W.isFn K (.ref fTc) = true) (FC : FnR P w_ K mg base CX0 3 fTc (spTc K D)) :
    FnOk P w_ K mg base CX0 4 f fd ["tray", "marble"] (spCm K D) := by
  refine F.ok scCm (fun vs H Q E h => ?_) (fun cdv A outer s H vs Q E hr h => ?_)
  · obtain ⟨p, c, h, w, g, rfl, _⟩ := h
    rfl
  · obtain ⟨p, c, h, w, g, rfl, T0, hV, hm, k⟩ := h
    obtain ⟨dx, a, hp, hS⟩ := id T0
    refine ⟨_, pss_one (ps_if (pt_cmpR (op_notOwn hs hf FC (hr.mono (by decide)) pass0) (pv 1) (pv 0) (by rfl)) pss_never pss_nil), ?_⟩
    have hh : has g [c] = true := by
      show (true && decide (c ∈ mb g.flatten)) = true
      rw [decide_eq_true hm]
      rfl
    refine ⟨_, rfl, _, rfl, p, dx, _, rfl, hp, p, _, h, w, g, rfl, T0, hV, .inl ⟨[c], rfl, by show 1 ≤ 1000; decide, fun H1 sm => ?_⟩⟩
    rw [hh]
    exact ⟨true, rfl, _, rfl, iteF (k _ sm)⟩
/-- where a marble stands, as a place's tuple -/
def PlcAt (H : Hp) (q : Addr) (w : Nat) (g : Grid) (c : Nat) : Prop := H q = some (.tup (plV w (g.flatten.idxOf c)))
theorem call_ok {H : Hp} {p : Addr} {c h w : Nat} {g : Grid} {Q : VK} {E : XK} (T0 : TrayAt K D H p g) (hV : VG h w g) (hm : c ∈ mb g.flatten) (k : ∀ H' q, Same H H' → H q = none → PlcAt H' q w g c → Q (.ref q) H') : spCl K D CU [.ref p, sg c] H Q E := by
  have hc := mem_mb.mp hm
  exact ⟨p, _, h, w, g, rfl, T0, hV, .inl ⟨c, g.flatten.idxOf c, rfl, hc.2, (idx_at hc.1).2, fun H' q s hq e => k H' q s hq e⟩⟩
abbrev NMa : List Str := ["tray", "marble", "word", "times", "after"]
theorem scMa : FnScope NMa ["tray", "marble", "word", "times"] (defScope sMarbleAfter) := ⟨rfl, rfl, rfl, by decide +kernel, rfl, by decide +kernel, by decide +kernel⟩
def spMa (K : PySem.W.Frag) (C D : Addr) : Sp := fun vs H Q _ => ∃ (p q : Addr) (c h w k : Nat) (g : Grid) (t : List Nat), vs = [.ref p, sg c, .ref q, .int k] ∧ TrayAt K D H p g ∧ VG h w g ∧ WordAt C H q t ∧ c ∈ mb g.flatten ∧ k ≤ 10 ^ 18 ∧
  ∀ H' r, Same H H' → H r = none → PlcAt H' r w (rounds h w t k g) c → Q (.ref r) H'
theorem mb_rounds {h w : Nat} {t : List Nat} {g : Grid} (hV : VG h w g) : ∀ k, (mb (rounds h w t k g).flatten).Perm (mb g.flatten)
  | 0 => List.Perm.refl _
  | k + 1 => by
    have V := VG.rounds (t := t) k hV
    exact ((like_tilts t V.rc).pm).trans (mb_rounds hV k)
theorem ok_ma {f : Addr} {fd : FuncData} (F : Fun K "marble_after" "marble_after" sMarbleAfter f fd) (b : Binds K fd ["tray", "marble", "word", "times"] [])
    (GM : FnOk P w_ K mg base CX0 4 fCm fdCm ["tray", "marble"] (spCm K D)) (kM : PySem.W.keepIn K (.ref fCm) = true) (bM : Binds K fdCm ["tray", "marble"] []) (mM : mg "check_marble" = some (.ref fCm))
    (GA : FnRn n P w_ K mg base CX0 7 fAr (spAr K C D)) (kA : PySem.W.keepIn K (.ref fAr) = true) (mA : mg "after_rounds" = some (.ref fAr))
    (CO : StX.CallO K D fCl) (GC : FnR P w_ K mg base (L2.CX P w_) 4 fCl (spCl K D CU)) : FnRn n P w_ K mg base CX0 8 f (spMa K C D) := by
  refine fn_n F b scMa (fun vs H Q E h => ?_) fun cdv A outer s H vs Q E hr h => ?_
  · obtain ⟨p, q, c, h, w, k, g, t, rfl, _⟩ := h
    rfl
  · obtain ⟨p, q, c, h, w, k, g, t, rfl, T0, hV, W0, hm, hk, kk⟩ := h
    have nd := scMa.nd
    refine ⟨_, pssn_cons (PS.up (ps_expr (pe_call GM (hr.mono (by decide)) rfl mM kM bM .nil pass0 (pa_cons (pv 0) (pa_cons (pv 1) pa_nil)))))
      (pssn_cons (psn_set (i := 4) nd rfl (.inl rfl) (pen_call GA (hr.mono (by decide)) rfl mA kA pass0 (pan_cons (PE.up (pv 0)) (pan_cons (PE.up (pv 2)) (pan_cons (PE.up (pv 3)) pan_nil)))))
      (pssn_one (PS.up (ps_ret (pe_callO (pv 4) CO GC (hr.mono (by decide)) passL (pa_cons (pv 1) pa_nil)))))), ?_⟩
    refine ⟨_, rfl, _, rfl, p, c, h, w, g, rfl, T0, hV, hm, fun H1 s1 => ?_⟩
    refine ⟨_, rfl, _, rfl, _, rfl, p, q, h, w, k, g, t, rfl, T0.same s1, hV, W0.same s1, hk, fun H2 r s2 hr2 => ?_⟩
    have V2 := VG.rounds (t := t) k hV
    obtain ⟨dr, ar, er, _⟩ := id hr2
    refine ⟨_, rfl, r, rfl, _, rfl, ⟨dr, _, er⟩, call_ok hr2 V2 ((mb_rounds hV k).mem_iff.mpr hm) fun H3 r2 s3 h3 e3 => kk _ _ ((s1.trans s2).trans s3) ((s1.trans s2).free h3) e3⟩
abbrev NIb : List Str := ["tray", "word"]
theorem scIb : FnScope NIb ["tray", "word"] (defScope sIsBack) := ⟨rfl, rfl, rfl, by decide +kernel, rfl, by decide +kernel, by decide +kernel⟩
def spIb (K : PySem.W.Frag) (C D : Addr) : Sp := fun vs H Q _ => ∃ (p q : Addr) (h w : Nat) (g : Grid) (t : List Nat), vs = [.ref p, .ref q] ∧ TrayAt K D H p g ∧ VG h w g ∧ WordAt C H q t ∧
  ∀ H', Same H H' → Q (.bl (decide (rounds h w t (backN (cirs h w t g)) g = g))) H'
theorem ok_ib {f : Addr} {fd : FuncData} (F : Fun K "is_back" "is_back" sIsBack f fd) (b : Binds K fd ["tray", "word"] [])
    (GA : FnRn n P w_ K mg base CX0 7 fAr (spAr K C D)) (kA : PySem.W.keepIn K (.ref fAr) = true) (mA : mg "after_rounds" = some (.ref fAr))
    (GB : FnRn n P w_ K mg base CX0 7 fBk (spBk K C D)) (kB : PySem.W.keepIn K (.ref fBk) = true) (mB : mg "back_after" = some (.ref fBk))
    (hE : PySem.W.findIn K (.ref D) "__eq__" = some (some (.ref fTe))) (iE : PySem.W.isFn K (.ref fTe) = true) (GTe : FnR P w_ K mg base CX0 1 fTe (spTe K D)) : FnRn n P w_ K mg base CX0 8 f (spIb K C D) := by
  refine fn_n F b scIb (fun vs H Q E h => ?_) fun cdv A outer s H vs Q E hr h => ?_
  · obtain ⟨p, q, h, w, g, t, rfl, _⟩ := h
    rfl
  · obtain ⟨p, q, h, w, g, t, rfl, T0, hV, W0, k⟩ := h
    refine ⟨_, pssn_one (psn_ret (pen_cmpR2 (op_cmpOwn (op := .Eq) (fun _ _ => rfl) hE iE GTe (hr.mono (by decide)) pass0) (pen_call GA (hr.mono (by decide)) rfl mA kA pass0 (pan_cons (PE.up (pv 0)) (pan_cons (PE.up (pv 1)) (pan_cons (pen_call GB (hr.mono (by decide)) rfl mB kB pass0 (pan_cons (PE.up (pv 0)) (pan_cons (PE.up (pv 1)) pan_nil))) pan_nil)))) (PE.up (pv 0)) (nomark _))), ?_⟩
    have hb := backN_ok (t := t) hV
    refine ⟨_, rfl, _, rfl, _, rfl, _, rfl, p, q, h, w, g, t, rfl, T0, hV, W0, fun H1 s1 => ?_⟩
    refine ⟨p, q, h, w, _, g, t, rfl, T0.same s1, hV, W0.same s1, Nat.le_trans hb.2 (by decide), fun H2 r s2 hr2 => ?_⟩
    have s12 := s1.trans s2
    have T2 := T0.same s12
    obtain ⟨d1, a1, e1, _⟩ := id hr2
    obtain ⟨d2, a2, e2, _⟩ := id T2
    exact ⟨_, rfl, r, d1, _, rfl, e1, .inl ⟨p, d2, _, rfl, e2⟩, r, p, h, w, h, w, _, _, rfl, hr2, T2, VG.rounds _ hV, hV, k _ s12⟩
end
end TR
end
section
set_option Elab.async false
set_option maxRecDepth 100000
set_option linter.all false
namespace TR
open PySem PySem.Spec PyProof.Rows L2 TM TK TB TP TH TU TW
section
variable {f : Nat → Nat} {A B : List Nat}
theorem pw_same (T : Two f A B) {c : Nat} (hc : c ∈ mb A) : ∀ n, pw (TM.nxt A B) n c = pw f n c
  | 0 => rfl
  | n + 1 => by
    show TM.nxt A B (pw (TM.nxt A B) n c) = f (pw f n c)
    rw [pw_same T hc n]
    exact T.nxt (pw_mem T.onto.mem hc n)
theorem pw_pre (T : Two f A B) {c : Nat} (hc : c ∈ mb A) (n : Nat) : ∃ d, d ∈ mb A ∧ pw f n d = c := ⟨_, pw_mem T.ontoP.mem hc n, T.pw_back hc n⟩
end
section
variable {φ : Nat → Nat} {M : List Nat}
theorem ring_of (O : Onto φ M) (hM : ∀ c ∈ M, 97 ≤ c ∧ c < 123) {s : Nat} (hs : s ∈ M) : Ring φ s (ringLen φ s) := by
  obtain ⟨L, h1, h2⟩ := ring_ex O hM hs
  exact ring_len h2 h1
theorem orb_len (s : Nat) : (orb φ s).length = ringLen φ s := by
  unfold orb
  rw [List.length_map, List.length_range]
theorem orb_get {s i : Nat} (h : i < ringLen φ s) : (orb φ s)[i]? = some (pw φ i s) := by
  unfold orb
  rw [List.getElem?_map, List.getElem?_range h]
  rfl
theorem orb_mem {s c : Nat} (h : c ∈ orb φ s) : ∃ i, i < ringLen φ s ∧ pw φ i s = c := by
  obtain ⟨i, hi, e⟩ := List.mem_map.mp h
  exact ⟨i, List.mem_range.mp hi, e⟩
theorem orb_self (s : Nat) : s ∈ orb φ s := by
  have : (orb φ s)[0]? = some (pw φ 0 s) := orb_get (by unfold ringLen; omega)
  exact List.mem_of_getElem? this
theorem orb_M (O : Onto φ M) {s : Nat} (hs : s ∈ M) : ∀ c ∈ orb φ s, c ∈ M := fun c hc => by
  obtain ⟨i, _, rfl⟩ := orb_mem hc
  exact pw_mem O.mem hs i
/-- one turn of the circle leaves each of its marbles -/
theorem orb_turn (O : Onto φ M) (hM : ∀ c ∈ M, 97 ≤ c ∧ c < 123) {s c : Nat} (hs : s ∈ M) (hc : c ∈ orb φ s) : pw φ (ringLen φ s) c = c := by
  obtain ⟨i, _, rfl⟩ := orb_mem hc
  rw [← pw_add, Nat.add_comm, pw_add, (ring_of O hM hs).back]
theorem times_turn {c L : Nat} (h : pw φ L c = c) : ∀ k, pw φ (k * L) c = c
  | 0 => by rw [Nat.zero_mul]; rfl
  | k + 1 => by
    rw [Nat.succ_mul, Nat.add_comm, pw_add, times_turn h k]
    exact h
/-- only whole turns leave a circle's first marble -/
theorem turn_dvd (O : Onto φ M) (hM : ∀ c ∈ M, 97 ≤ c ∧ c < 123) {s n : Nat} (hs : s ∈ M) (h : pw φ n s = s) : ringLen φ s ∣ n := by
  have R := ring_of O hM hs
  have e := R.mod n
  rw [h] at e
  refine Nat.dvd_of_mod_eq_zero ?_
  refine Classical.byContradiction fun z => ?_
  exact R.no _ (by omega) (Nat.mod_lt _ R.one) e
theorem cir_cover : ∀ (r seen : List Nat), ∀ s ∈ r, s ∈ seen ∨ s ∈ (cir φ r seen).flatten
  | [], _, s, h => by cases h
  | x :: r, seen, s, h => by
    unfold cir
    split
    · next q =>
      rcases List.mem_cons.mp h with rfl | h
      · exact .inl q
      · exact cir_cover r seen s h
    · rcases List.mem_cons.mp h with rfl | h
      · exact .inr (List.mem_flatten.mpr ⟨_, List.mem_cons_self, orb_self s⟩)
      · rcases cir_cover r (seen ++ orb φ x) s h with q | q
        · rcases List.mem_append.mp q with q | q
          · exact .inl q
          · exact .inr (List.mem_flatten.mpr ⟨_, List.mem_cons_self, q⟩)
        · rw [List.flatten_cons]
          exact .inr (List.mem_append.mpr (.inr q))
theorem orb_closed (O : Onto φ M) (hM : ∀ c ∈ M, 97 ≤ c ∧ c < 123) {s : Nat} (hs : s ∈ M) : ∀ c ∈ orb φ s, φ c ∈ orb φ s := fun c hc => by
  obtain ⟨i, hi, rfl⟩ := orb_mem hc
  have R := ring_of O hM hs
  by_cases q : i + 1 < ringLen φ s
  · exact List.mem_of_getElem? (orb_get q)
  · have e : i + 1 = ringLen φ s := by omega
    have : φ (pw φ i s) = s := by
      have := R.back
      rw [← e] at this
      exact this
    rw [this]
    exact orb_self s
/-- each circle starts with its least marble, and they stand in order -/
theorem cir_order (O : Onto φ M) (hM : ∀ c ∈ M, 97 ≤ c ∧ c < 123) : ∀ (r seen : List Nat), (∀ s ∈ r, s ∈ M) → r.Pairwise (· < ·) → (∀ c ∈ seen, c ∈ M) → (∀ c ∈ seen, φ c ∈ seen) → (∀ c ∈ M, c ∉ r → c ∈ seen) →
    (∀ o ∈ cir φ r seen, ∃ s, s ∈ M ∧ s ∈ r ∧ o = orb φ s ∧ ∀ c ∈ o, s ≤ c) ∧ (cir φ r seen).Pairwise fun o o' => o.getD 0 0 < o'.getD 0 0
  | [], _, _, _, _, _, _ => ⟨fun o h => (by cases h), List.Pairwise.nil⟩
  | s :: r, seen, hr, up, hs, cl, rest => by
    obtain ⟨u1, u2⟩ := List.pairwise_cons.mp up
    have hr' := fun x hx => hr x (List.mem_cons_of_mem _ hx)
    have sM := hr s List.mem_cons_self
    unfold cir
    split
    · next q =>
      obtain ⟨i1, i2⟩ := cir_order O hM r seen hr' u2 hs cl fun c hc hn => by
        by_cases z : c = s
        · rw [z]
          exact q
        · exact rest c hc fun hm => by
            rcases List.mem_cons.mp hm with h | h
            · exact z h
            · exact hn h
      exact ⟨fun o ho => let ⟨x, h1, h2, h3⟩ := i1 o ho; ⟨x, h1, List.mem_cons_of_mem _ h2, h3⟩, i2⟩
    · next q =>
      have oM := orb_M O sM
      have oC := orb_closed O hM sM
      obtain ⟨i1, i2⟩ := cir_order O hM r (seen ++ orb φ s) hr' u2 (fun c hc => by
          rcases List.mem_append.mp hc with h | h
          · exact hs c h
          · exact oM c h) (fun c hc => by
          rcases List.mem_append.mp hc with h | h
          · exact List.mem_append.mpr (.inl (cl c h))
          · exact List.mem_append.mpr (.inr (oC c h))) fun c hc hn => by
        by_cases z : c = s
        · rw [z]
          exact List.mem_append.mpr (.inr (orb_self s))
        · exact List.mem_append.mpr (.inl (rest c hc fun hm => by
            rcases List.mem_cons.mp hm with h | h
            · exact z h
            · exact hn h))
      have head : ∀ x : Nat, (orb φ x).getD 0 0 = x := fun x => by
        have : (orb φ x)[0]? = some (pw φ 0 x) := orb_get (by unfold ringLen; omega)
        rw [List.getD_eq_getElem?_getD, this]
        rfl
      refine ⟨fun o ho => ?_, List.pairwise_cons.mpr ⟨fun o ho => ?_, i2⟩⟩
      · rcases List.mem_cons.mp ho with rfl | ho
        · refine ⟨s, sM, List.mem_cons_self, rfl, fun c hc => ?_⟩
          refine Classical.byContradiction fun z => q ?_
          have cs : c ∈ seen := rest c (oM c hc) fun hm => by
            rcases List.mem_cons.mp hm with h | h
            · omega
            · have := u1 c h
              omega
          obtain ⟨i, hi, e⟩ := orb_mem hc
          have R := ring_of O hM sM
          have := pw_mem cl cs (ringLen φ s - i)
          rw [← e, ← pw_add, show ringLen φ s - i + i = ringLen φ s by omega, R.back] at this
          exact this
        · obtain ⟨x, h1, h2, h3⟩ := i1 o ho
          exact ⟨x, h1, List.mem_cons_of_mem _ h2, h3⟩
      · obtain ⟨x, h1, h2, rfl, h3⟩ := i1 o ho
        rw [head, head]
        exact u1 x h2
end
end TR
end
section
set_option Elab.async false
set_option maxRecDepth 100000
set_option linter.all false
namespace TR
open PySem PySem.Spec PyProof.Rows L2 TM TK TB TP TH TU TW
theorem fold_dvd : ∀ (cs : List (List Nat)) (a : Nat), a ∣ cs.foldl (fun a o => Nat.lcm a o.length) a ∧ ∀ o ∈ cs, o.length ∣ cs.foldl (fun a o => Nat.lcm a o.length) a
  | [], a => ⟨Nat.dvd_refl _, fun o h => by cases h⟩
  | o :: r, a => by
    obtain ⟨h1, h2⟩ := fold_dvd r (Nat.lcm a o.length)
    refine ⟨Nat.dvd_trans (Nat.dvd_lcm_left a o.length) h1, fun x hx => ?_⟩
    rcases List.mem_cons.mp hx with rfl | hx
    · exact Nat.dvd_trans (Nat.dvd_lcm_right a x.length) h1
    · exact h2 x hx
theorem fold_of_dvd : ∀ (cs : List (List Nat)) (a m : Nat), a ∣ m → (∀ o ∈ cs, o.length ∣ m) → cs.foldl (fun a o => Nat.lcm a o.length) a ∣ m
  | [], a, m, h, _ => h
  | o :: r, a, m, h, hr => fold_of_dvd r _ m (Nat.lcm_dvd h (hr o List.mem_cons_self)) fun x hx => hr x (List.mem_cons_of_mem _ hx)
theorem dvd_backN {cs : List (List Nat)} {o : List Nat} (h : o ∈ cs) : o.length ∣ backN cs := (fold_dvd cs 1).2 o h
theorem backN_dvd {cs : List (List Nat)} {m : Nat} (h : ∀ o ∈ cs, o.length ∣ m) : backN cs ∣ m := fold_of_dvd cs 1 m (Nat.one_dvd _) h
section
variable {h w : Nat} {t : List Nat} {g : Grid}
theorem cir_facts (hV : VG h w g) : (∀ o ∈ cirs h w t g, ∃ s, s ∈ mb (tilts h w t g).flatten ∧ o = orb (TM.nxt (tilts h w t g).flatten (tilts h w t (tilts h w t g)).flatten) s ∧ ∀ c ∈ o, s ≤ c) ∧
    (cirs h w t g).Pairwise (fun o o' => o.getD 0 0 < o'.getD 0 0) ∧ (cirs h w t g).flatten.Perm (mb g.flatten) := by
  obtain ⟨f0, T, _⟩ := two_of (t := t) hV
  have V1 := VG.tilts t hV
  have O := onto_nxt T
  have hM := mb_let V1
  have pS := srt_perm (mb (tilts h w t g).flatten)
  have ndS : (srt (mb (tilts h w t g).flatten)).Nodup := pS.nodup_iff.mpr T.nd
  have up : (srt (mb (tilts h w t g).flatten)).Pairwise (· < ·) := (srt_up _).and ndS |>.imp fun {a b} hh => Nat.lt_of_le_of_ne hh.1 hh.2
  obtain ⟨c1, c2⟩ := cir_order O hM (srt (mb (tilts h w t g).flatten)) [] (fun s hs => mem_srt.mp hs) up (fun _ h => by cases h) (fun _ h => by cases h) fun c hc hn => absurd (mem_srt.mpr hc) hn
  refine ⟨fun o ho => let ⟨s, a, _, b, c⟩ := c1 o ho; ⟨s, a, b, c⟩, c2, ?_⟩
  obtain ⟨n1, n2⟩ := cir_ok O hM (srt (mb (tilts h w t g).flatten)) [] (fun s hs => mem_srt.mp hs) (fun _ h => by cases h) (fun _ h => by cases h) List.nodup_nil
  rw [List.nil_append] at n1
  refine ((List.perm_ext_iff_of_nodup n1 T.nd).mpr fun c => ⟨n2 c, fun hc => ?_⟩).trans (like_tilts t hV.rc).pm
  rcases cir_cover (φ := TM.nxt (tilts h w t g).flatten (tilts h w t (tilts h w t g)).flatten) (srt (mb (tilts h w t g).flatten)) [] c (mem_srt.mpr hc) with h | h
  · cases h
  · exact h
/-- a marble that n exchanges bring from c's place stands there after n + 1 rounds -/
theorem place_at (hV : VG h w g) {f0 : Nat → Nat} (T : Two f0 (tilts h w t g).flatten (tilts h w t (tilts h w t g)).flatten) (e0 : tilts h w t (tilts h w t g) = rel f0 (tilts h w t g)) {c : Nat} (hc : c ∈ mb (tilts h w t g).flatten) (n : Nat) :
    (rounds h w t (n + 1) g).flatten.idxOf (pw f0 n c) = (tilts h w t g).flatten.idxOf c ∧ pw f0 n c ∈ mb (tilts h w t g).flatten := by
  have hm := pw_mem T.onto.mem hc n
  refine ⟨idx_uniq (VG.rounds (n + 1) hV).nd (mem_mb.mp hm).2 ?_, hm⟩
  rw [rounds_pw T.s e0 n, rel_flat, List.getElem?_map]
  show Option.map _ ((tilts h w t g).flatten[_]?) = _
  rw [(idx_at (mem_mb.mp hc).1).2]
  rfl
/-- the exchange says where a marble goes next -/
theorem exch_at (hV : VG h w g) {m : Nat} (hm : m ∈ mb g.flatten) (n : Nat) : ∃ c, c ∈ mb (tilts h w t g).flatten ∧ (rounds h w t (n + 1) g).flatten.idxOf m = (tilts h w t g).flatten.idxOf c ∧
    (rounds h w t (n + 1 + 1) g).flatten.idxOf m = (tilts h w t (tilts h w t g)).flatten.idxOf c := by
  obtain ⟨f0, T, e0⟩ := two_of (t := t) hV
  have hm1 : m ∈ mb (tilts h w t g).flatten := (like_tilts t hV.rc).pm.mem_iff.mpr hm
  obtain ⟨c, hc, rfl⟩ := pw_pre T hm1 n
  refine ⟨c, hc, (place_at hV T e0 hc n).1, ?_⟩
  obtain ⟨d, hd, rfl⟩ := pw_pre T hc 1
  have e1 := (place_at hV T e0 hd (n + 1)).1
  rw [pw_add] at e1
  have e2 := (place_at hV T e0 hd 1).1
  show _ = (rounds h w t (1 + 1) g).flatten.idxOf _
  rw [e1, e2]
/-- the marbles of a circle, from first on -/
theorem circle_at (hV : VG h w g) {o : List Nat} (ho : o ∈ cirs h w t g) {i : Nat} (hi : i < o.length) (n : Nat) : ∃ c d : Nat, o[i]? = some c ∧ o[(i + n) % o.length]? = some d ∧ c ∈ mb g.flatten ∧ d ∈ mb g.flatten ∧
    (rounds h w t (1 + n) g).flatten.idxOf d = (rounds h w t 1 g).flatten.idxOf c ∧ (rounds h w t (2 + o.length) g).flatten.idxOf c = (rounds h w t 2 g).flatten.idxOf c := by
  obtain ⟨f0, T, e0⟩ := two_of (t := t) hV
  have O := onto_nxt T
  have hM := mb_let (VG.tilts t hV)
  have pm := (like_tilts t hV.rc).pm
  obtain ⟨s, sM, rfl, _⟩ := (cir_facts hV).1 o ho
  have R := ring_of O hM sM
  rw [orb_len] at hi ⊢
  have cM := pw_mem O.mem sM i
  refine ⟨_, _, orb_get hi, orb_get (Nat.mod_lt _ R.one), pm.mem_iff.mp cM, pm.mem_iff.mp (pw_mem O.mem sM _), ?_, ?_⟩
  · rw [R.mod, Nat.add_comm i n, pw_add, pw_same T cM n, Nat.add_comm 1 n]
    exact (place_at hV T e0 cM n).1
  · obtain ⟨d, hd, e⟩ := pw_pre T cM 1
    have turn : pw f0 (ringLen (TM.nxt (tilts h w t g).flatten (tilts h w t (tilts h w t g)).flatten) s) d = d := by
      refine T.onto.inj _ (pw_mem T.onto.mem hd _) _ hd ?_
      have e3 : pw (TM.nxt (tilts h w t g).flatten (tilts h w t (tilts h w t g)).flatten) (ringLen (TM.nxt (tilts h w t g).flatten (tilts h w t (tilts h w t g)).flatten) s) (pw (TM.nxt (tilts h w t g).flatten (tilts h w t (tilts h w t g)).flatten) i s) = pw (TM.nxt (tilts h w t g).flatten (tilts h w t (tilts h w t g)).flatten) i s := by
        rw [← pw_add, Nat.add_comm, pw_add, R.back]
      rw [pw_same T cM] at e3
      rw [← e, ← pw_add, Nat.add_comm, pw_add] at e3
      exact e3
    have e1 := (place_at hV T e0 hd 1).1
    have e2 := (place_at hV T e0 hd (1 + ringLen (TM.nxt (tilts h w t g).flatten (tilts h w t (tilts h w t g)).flatten) s)).1
    rw [pw_add, turn, e] at e2
    rw [e] at e1
    rw [show 2 + ringLen (TM.nxt (tilts h w t g).flatten (tilts h w t (tilts h w t g)).flatten) s = 1 + ringLen (TM.nxt (tilts h w t g).flatten (tilts h w t (tilts h w t g)).flatten) s + 1 by omega, e2]
    exact e1.symm
/-- back_after rounds leave each marble -/
theorem back_turn (hV : VG h w g) {f0 : Nat → Nat} (T : Two f0 (tilts h w t g).flatten (tilts h w t (tilts h w t g)).flatten) {c : Nat} (hc : c ∈ mb (tilts h w t g).flatten) : pw f0 (backN (cirs h w t g)) c = c := by
  have O := onto_nxt T
  have hM := mb_let (VG.tilts t hV)
  obtain ⟨c1, _, c3⟩ := cir_facts (t := t) hV
  have : c ∈ (cirs h w t g).flatten := c3.mem_iff.mpr ((like_tilts t hV.rc).pm.mem_iff.mp hc)
  obtain ⟨o, ho, hco⟩ := List.mem_flatten.mp this
  obtain ⟨k, hk⟩ := dvd_backN ho
  obtain ⟨s, sM, rfl, _⟩ := c1 o ho
  rw [orb_len] at hk
  rw [hk, Nat.mul_comm, ← pw_same T hc]
  exact times_turn (orb_turn O hM sM hco) k
theorem back_after_same (hV : VG h w g) (n : Nat) : rounds h w t (n + 1 + backN (cirs h w t g)) g = rounds h w t (n + 1) g := by
  obtain ⟨f0, T, e0⟩ := two_of (t := t) hV
  rw [show n + 1 + backN (cirs h w t g) = (n + backN (cirs h w t g)) + 1 by omega, rounds_pw T.s e0 (n + backN (cirs h w t g)), rounds_pw T.s e0 n]
  refine List.map_congr_left fun l hl => List.map_congr_left fun c hc => ?_
  rw [pw_add]
  by_cases z : c = 46
  · rw [z, pw_46 T.s.z]
  · rw [back_turn hV T (mem_mb.mpr ⟨List.mem_flatten.mpr ⟨l, hl, hc⟩, z⟩)]
theorem back_least (hV : VG h w g) {m : Nat} (e : rounds h w t (1 + m) g = rounds h w t 1 g) : backN (cirs h w t g) ∣ m := by
  obtain ⟨f0, T, e0⟩ := two_of (t := t) hV
  have O := onto_nxt T
  have hM := mb_let (VG.tilts t hV)
  rw [Nat.add_comm, rounds_pw T.s e0] at e
  have e2 : (tilts h w t g).flatten.map (pw f0 m) = (tilts h w t g).flatten := by
    have := congrArg List.flatten e
    rw [rel_flat] at this
    exact this
  refine backN_dvd fun o ho => ?_
  obtain ⟨s, sM, rfl, _⟩ := (cir_facts hV).1 o ho
  rw [orb_len]
  refine turn_dvd O hM sM ?_
  rw [pw_same T sM]
  have h1 := (idx_at (mem_mb.mp sM).1).2
  have h2 : ((tilts h w t g).flatten.map (pw f0 m))[(tilts h w t g).flatten.idxOf s]? = some (pw f0 m s) := by rw [List.getElem?_map, h1]; rfl
  rw [e2, h1] at h2
  exact (Option.some.inj h2).symm
theorem sum_ones : ∀ l : List Nat, (∀ x ∈ l, 1 ≤ x) → (l.sum = l.length ↔ ∀ x ∈ l, x = 1) ∧ l.length ≤ l.sum
  | [], _ => ⟨⟨fun _ x h => (nomatch h), fun _ => rfl⟩, Nat.le_refl _⟩
  | a :: l, h => by
    have ha := h a List.mem_cons_self
    obtain ⟨i1, i2⟩ := sum_ones l fun x hx => h x (List.mem_cons_of_mem _ hx)
    rw [List.sum_cons, List.length_cons]
    refine ⟨⟨fun e x hx => ?_, fun e => ?_⟩, by omega⟩
    · rcases List.mem_cons.mp hx with rfl | hx
      · omega
      · exact i1.mp (by omega) x hx
    · have := i1.mpr fun x hx => e x (List.mem_cons_of_mem _ hx)
      have := e a List.mem_cons_self
      omega
theorem back_one (hV : VG h w g) : decide (backN (cirs h w t g) = 1) = decide ((cirs h w t g).length = (mb g.flatten).length) := by
  obtain ⟨_, _, c3⟩ := cir_facts (t := t) hV
  have hl : ((cirs h w t g).map List.length).sum = (mb g.flatten).length := by rw [← List.length_flatten, c3.length_eq]
  have h1 : ∀ x ∈ (cirs h w t g).map List.length, 1 ≤ x := fun x hx => by
    obtain ⟨o, ho, rfl⟩ := List.mem_map.mp hx
    exact cir_one _ _ o ho
  have key := (sum_ones _ h1).1
  rw [List.length_map, hl] at key
  refine decide_eq_decide.mpr ⟨fun e => ?_, fun e => ?_⟩
  · refine (key.mpr fun x hx => ?_).symm
    obtain ⟨o, ho, rfl⟩ := List.mem_map.mp hx
    have := dvd_backN ho
    rw [e] at this
    exact Nat.eq_one_of_dvd_one this
  · have := key.mp e.symm
    refine Nat.eq_one_of_dvd_one (backN_dvd fun o ho => ?_)
    rw [this _ (List.mem_map.mpr ⟨o, ho, rfl⟩)]
    exact Nat.dvd_refl 1
/-- the exchange's keys and values are the same places -/
theorem exch_perm (hV : VG h w g) : ((srt (mb (tilts h w t g).flatten)).map fun m => (tilts h w t g).flatten.idxOf m).Perm ((srt (mb (tilts h w t g).flatten)).map fun m => (tilts h w t (tilts h w t g)).flatten.idxOf m) := by
  obtain ⟨f0, T, e0⟩ := two_of (t := t) hV
  have pS := srt_perm (mb (tilts h w t g).flatten)
  have ndS : (srt (mb (tilts h w t g).flatten)).Nodup := pS.nodup_iff.mpr T.nd
  have P := T.ontoP
  have e : ((srt (mb (tilts h w t g).flatten)).map fun m => (tilts h w t (tilts h w t g)).flatten.idxOf m) = ((srt (mb (tilts h w t g).flatten)).map (TM.nxt (tilts h w t (tilts h w t g)).flatten (tilts h w t g).flatten)).map fun m => (tilts h w t g).flatten.idxOf m := by
    rw [List.map_map]
    refine List.map_congr_left fun m hm => ?_
    exact (T.prv (mem_srt.mp hm)).2.2.2.symm
  rw [e]
  refine List.Perm.map _ ?_
  have nd2 : ((srt (mb (tilts h w t g).flatten)).map (TM.nxt (tilts h w t (tilts h w t g)).flatten (tilts h w t g).flatten)).Nodup := by
    refine List.pairwise_map.mpr (ndS.imp_of_mem fun {a b} ha hb hab z => hab (P.inj a (mem_srt.mp ha) b (mem_srt.mp hb) z))
  refine (List.perm_ext_iff_of_nodup ndS nd2).mpr fun c => ⟨fun hc => ?_, fun hc => ?_⟩
  · have hM := mem_srt.mp hc
    refine List.mem_map.mpr ⟨f0 c, mem_srt.mpr (T.onto.mem c hM), ?_⟩
    exact T.onto.inj _ (T.prv (T.onto.mem c hM)).1 _ hM (T.prv (T.onto.mem c hM)).2.1
  · obtain ⟨m, hm, rfl⟩ := List.mem_map.mp hc
    exact mem_srt.mpr (P.mem m (mem_srt.mp hm))
end
end TR
end
section
set_option Elab.async false
set_option maxRecDepth 100000
set_option linter.all false
namespace TR
open PySem PySem.Spec PyProof.Rows L2 TM TK TB TP TH TU TW
def PdAt (H : Hp) (D : Addr) (w : Nat) (pos : Nat → Nat) (M : List Nat) (ps qa : Nat → Addr) : Prop := H D = some (.lst (M.map fun m => V.ref (ps m))) ∧ ∀ m ∈ M, H (ps m) = some (.tup [sg m, .ref (qa m)]) ∧ H (qa m) = some (.tup (plV w (pos m)))
theorem PdAt.same {H H' : Hp} {D : Addr} {w : Nat} {pos : Nat → Nat} {M : List Nat} {ps qa : Nat → Addr} (h : PdAt H D w pos M ps qa) (s : Same H H') : PdAt H' D w pos M ps qa := ⟨s _ _ h.1, fun m hm => ⟨s _ _ (h.2 m hm).1, s _ _ (h.2 m hm).2⟩⟩
theorem pd_step {H1 H7 : Hp} {D T q2 : Addr} {w i c : Nat} {M : List Nat} {pos : Nat → Nat} {ps qa : Nat → Addr} (ndM : M.Nodup) (hc : M[i]? = some c) (hD : H1 D = none) (P : PdAt H7 D w pos (M.take i) ps qa) (s : Same H1 H7) (hT : H7 T = some (.tup [sg c, .ref q2])) (hq : H7 q2 = some (.tup (plV w (pos c)))) :
    ∃ ps' qa', Same H1 (upd H7 D (.lst ((M.take i).map (fun m => V.ref (ps m)) ++ [V.ref T]))) ∧ PdAt (upd H7 D (.lst ((M.take i).map (fun m => V.ref (ps m)) ++ [V.ref T]))) D w pos (M.take (i + 1)) ps' qa' := by
  have take1 : M.take (i + 1) = M.take i ++ [c] := by rw [List.take_add_one, hc]; rfl
  have cnew : c ∉ M.take i := fun hm => by
    obtain ⟨j, hj⟩ := List.mem_iff_getElem?.mp hm
    rw [List.getElem?_take] at hj
    split at hj
    · rename_i hji
      have nd := List.pairwise_iff_getElem.mp ndM
      obtain ⟨l1, z1⟩ := List.getElem?_eq_some_iff.mp hj
      obtain ⟨l2, z2⟩ := List.getElem?_eq_some_iff.mp hc
      exact nd j i l1 l2 hji (z1.trans z2.symm)
    · cases hj
  obtain ⟨pn, hp1, hp2⟩ : ∃ pn : Nat → Addr, pn c = T ∧ ∀ m, m ≠ c → pn m = ps m := ⟨fun m => if m = c then T else ps m, if_pos rfl, fun m hm => if_neg hm⟩
  obtain ⟨qn, hq1, hq2⟩ : ∃ qn : Nat → Addr, qn c = q2 ∧ ∀ m, m ≠ c → qn m = qa m := ⟨fun m => if m = c then q2 else qa m, if_pos rfl, fun m hm => if_neg hm⟩
  have hqD : ∀ {b : Addr} {xs : List V}, H7 b = some (.tup xs) → b ≠ D := fun e z => by
    rw [z, P.1] at e
    cases e
  refine ⟨pn, qn, same_put s hD, ?_, fun m hm => ?_⟩
  · rw [upd_same, take1, List.map_append]
    congr 3
    · refine List.map_congr_left fun m hm => ?_
      rw [hp2 m (fun z => cnew (by rw [← z]; exact hm))]
    · simp [hp1]
  · rw [take1] at hm
    rcases List.mem_append.mp hm with hm | hm
    · have ne : m ≠ c := fun z => cnew (by rw [← z]; exact hm)
      obtain ⟨g1, g2⟩ := P.2 m hm
      rw [hp2 m ne, hq2 m ne, upd_ne (hqD g1), upd_ne (hqD g2)]
      exact ⟨g1, g2⟩
    · rw [List.mem_singleton.mp hm, hp1, hq1, upd_ne (hqD hT), upd_ne (hqD hq)]
      exact ⟨hT, hq⟩
theorem merge_new : ∀ (kvs acc : List (Key × V)), ((acc ++ kvs).map (·.1)).Nodup → mergeK acc kvs = acc ++ kvs
  | [], acc, _ => by simp [mergeK]
  | p :: r, acc, nd => by
    have h1 : valV acc p.1 = none := by
      refine Classical.byContradiction fun z => ?_
      cases e : valV acc p.1 with
      | none => exact z e
      | some v =>
        have : ∃ q ∈ acc, q.1 = p.1 := by
          refine Classical.byContradiction fun hn => ?_
          have : valV acc p.1 = none := by
            have := valV_no (S := List.range acc.length) (f := fun i => (acc.getD i (Sum.inl 0, .non)).1) (v := fun i => (acc.getD i (Sum.inl 0, .non)).2) (k := p.1) fun m hm e => hn ⟨_, by
              have hl := List.mem_range.mp hm
              rw [List.getD_eq_getElem?_getD, List.getElem?_eq_getElem hl]
              exact List.getElem_mem hl, e⟩
            have e2 : ((List.range acc.length).map fun i => ((acc.getD i (Sum.inl 0, V.non)).1, (acc.getD i (Sum.inl 0, V.non)).2)) = acc := by
              apply List.ext_getElem (by simp)
              intro i a b
              simp only [List.length_map, List.length_range] at a
              simp [List.getD_eq_getElem?_getD, List.getElem?_eq_getElem b]
            rw [e2] at this
            exact this
          rw [this] at e
          cases e
        obtain ⟨q, hq, eq⟩ := this
        rw [List.map_append, List.nodup_append] at nd
        exact (nd.2.2 q.1 (List.mem_map.mpr ⟨q, hq, rfl⟩) p.1 (List.mem_map.mpr ⟨p, List.mem_cons_self, rfl⟩) eq)
    show mergeK (putK acc p.1 p.2) r = _
    rw [putK_new _ h1, merge_new r _ (by rw [List.append_assoc]; exact nd), List.append_assoc]
    rfl
def mkv (M : List Nat) (qa : Nat → Addr) : List (Key × V) := M.map fun m => (Sum.inr (S [m]), V.ref (qa m))
def MdAt (H : Hp) (e : Addr) (w : Nat) (pos : Nat → Nat) (M : List Nat) (qa : Nat → Addr) : Prop := H e = some (.dK (mkv M qa)) ∧ ∀ m ∈ M, H (qa m) = some (.tup (plV w (pos m)))
theorem MdAt.same {H H' : Hp} {e : Addr} {w : Nat} {pos : Nat → Nat} {M : List Nat} {qa : Nat → Addr} (h : MdAt H e w pos M qa) (s : Same H H') : MdAt H' e w pos M qa := ⟨s _ _ h.1, fun m hm => s _ _ (h.2 m hm)⟩
theorem key_inj {a b : Nat} (e : (Sum.inr (S [a]) : Key) = Sum.inr (S [b])) : a = b := by
  injection e with e
  injection e with e
  injection e with e
  injection e
theorem pd_dict {K : PySem.W.Frag} {H : Hp} {D : Addr} {w : Nat} {pos : Nat → Nat} {M : List Nat} {ps qa : Nat → Addr} {Q : VK} (P : PdAt H D w pos M ps qa) (nd : M.Nodup) (k : ∀ H' e qa, Same H H' → H e = none → MdAt H' e w pos M qa → Q (.ref e) H') :
    ∃ (a : Addr) (as : List Addr) (kvs : List (Key × V)), [V.ref D] = [.ref a] ∧ SqL K H a (as.map V.ref) ∧ Paired (fun p kv => SqT K H p [kV kv.1, kv.2]) as kvs ∧ ∀ p, H p = none → Q (.ref p) (upd H p (.dK (mergeK [] kvs))) := by
  refine ⟨D, M.map ps, mkv M qa, rfl, ?_, ?_, fun p hp => ?_⟩
  · rw [List.map_map]
    exact SqL.of P.1
  · have : ∀ L : List Nat, (∀ m ∈ L, m ∈ M) → Paired (fun p (kv : Key × V) => SqT K H p [kV kv.1, kv.2]) (L.map ps) (mkv L qa) := fun L => by
      induction L with
      | nil => intro _; exact .nil
      | cons m L ih => exact fun hL => .cons (SqT.of (P.2 m (hL m List.mem_cons_self)).1) (ih fun x hx => hL x (List.mem_cons_of_mem _ hx))
    exact this M fun _ h => h
  · rw [merge_new _ [] ?_]
    · refine k _ p qa (same_new hp) hp ⟨upd_same, fun m hm => ?_⟩
      have := (P.2 m hm).2
      rw [upd_ne (ne_of_none this hp)]
      exact this
    · rw [List.nil_append]
      unfold mkv
      rw [List.map_map]
      exact List.pairwise_map.mpr (nd.imp fun {a b} hab e => hab (key_inj e))
theorem pl_well (w k : Nat) : dWell (plD w k) := ⟨rfl, by show 1 ≤ 60; decide, by rw [pl_eqv]; exact decide_eq_true rfl⟩
theorem md_ne {K : PySem.W.Frag} {H : Hp} {a b : Addr} {w : Nat} {pos pos' : Nat → Nat} {M : List Nat} {qa qa' : Nat → Addr} {Q : VK} (h1 : MdAt H a w pos M qa) (h2 : MdAt H b w pos' M qa') (e : ∀ m ∈ M, pos m = pos' m) (k : Q (.bl false) H) : rNeDD K (.ref a) (.ref b) H Q := by
  refine ⟨a, b, mkv M qa, mkv M qa', rfl, rfl, h1.1, h2.1, by simp [mkv], fun p hp => ?_, k⟩
  obtain ⟨m, hm, rfl⟩ := List.mem_map.mp hp
  refine ⟨_, plD w (pos m), valV_at (f := fun m => (Sum.inr (S [m]) : Key)) (v := fun m => V.ref (qa' m)) hm fun x _ z => key_inj z, pl_dp (h1.2 m hm), ?_, pl_well _ _⟩
  rw [e m hm]
  exact pl_dp (h2.2 m hm)
theorem sd_uniq {zs zs' : List (Int × Int)} (p : zs.Perm zs') (h : Sd zs) (h' : Sd zs') : zs = zs' :=
  List.Perm.eq_of_pairwise (le := fun x y => SrtO.lexB y x = false) (fun a b _ _ h1 h2 => by
    have a1 := SrtO.lexB_no.mp h1
    have a2 := SrtO.lexB_no.mp h2
    exact Prod.ext (by omega) (by omega)) h h' p
theorem head_le {a b : Nat} {r r' : List Nat} (h : ltCps (b :: r') (a :: r) = false) : a ≤ b := by
  unfold ltCps at h
  by_cases q : b < a
  · simp [q] at h
  · omega
theorem rise_heads : ∀ (zs : List (List Nat)) (p : List Nat), (∀ o ∈ p :: zs, 1 ≤ o.length) → risingS (S p) (zs.map S) = true → (p :: zs).Pairwise fun o o' => o.getD 0 0 ≤ o'.getD 0 0
  | [], p, _, _ => by simp
  | x :: r, p, ne, h => by
    have h' : (!ltCps x p && risingS (S x) (r.map S)) = true := by
      have : (!ltCps (S x).cps.toList (S p).cps.toList && risingS (S x) (r.map S)) = true := h
      exact this
    rw [Bool.and_eq_true] at h'
    have hpx : p.getD 0 0 ≤ x.getD 0 0 := by
      have h1 := ne p List.mem_cons_self
      have h2 := ne x (List.mem_cons_of_mem _ List.mem_cons_self)
      match p, x, h1, h2, h' with
      | a :: p, b :: x, _, _, h' =>
        have := h'.1
        exact head_le (by simpa using this)
    have ih := rise_heads r x (fun o ho => ne o (List.mem_cons_of_mem _ ho)) h'.2
    refine List.pairwise_cons.mpr ⟨fun y hy => ?_, ih⟩
    rcases List.mem_cons.mp hy with e | e
    · rw [e]
      exact hpx
    · exact Nat.le_trans hpx ((List.pairwise_cons.mp ih).1 y e)
theorem sort_lists {cs : List (List Nat)} {ys : List Str} (p : ys.Perm (cs.map S)) (s : sortedS ys = true) (up : cs.Pairwise fun o o' => o.getD 0 0 < o'.getD 0 0) (ne : ∀ o ∈ cs, 1 ≤ o.length) : ys = cs.map S := by
  obtain ⟨zs, rfl⟩ : ∃ zs : List (List Nat), ys = zs.map S := by
    have : ∀ y ∈ ys, ∃ c, y = S c := fun y hy => by
      obtain ⟨c, _, rfl⟩ := List.mem_map.mp (p.mem_iff.mp hy)
      exact ⟨c, rfl⟩
    clear p s
    induction ys with
    | nil => exact ⟨[], rfl⟩
    | cons y ys ih =>
      obtain ⟨c, rfl⟩ := this y List.mem_cons_self
      obtain ⟨zs, rfl⟩ := ih fun y hy => this y (List.mem_cons_of_mem _ hy)
      exact ⟨c :: zs, rfl⟩
  have pz : zs.Perm cs := by
    have := p.map fun y : Str => y.cps.toList
    have e : ((fun y : Str => y.cps.toList) ∘ S) = id := funext fun c => by show c.toArray.toList = c; simp
    rw [List.map_map, List.map_map, e, List.map_id, List.map_id] at this
    exact this
  have nz : ∀ o ∈ zs, 1 ≤ o.length := fun o ho => ne o (pz.mem_iff.mp ho)
  have upz : zs.Pairwise fun o o' => o.getD 0 0 ≤ o'.getD 0 0 := by
    cases zs with
    | nil => exact List.Pairwise.nil
    | cons z zs => exact rise_heads zs z nz s
  have inj : ∀ a ∈ cs, ∀ b ∈ cs, a.getD 0 0 = b.getD 0 0 → a = b := by
    intro a ha b hb e
    obtain ⟨i, hi⟩ := List.mem_iff_getElem?.mp ha
    obtain ⟨j, hj⟩ := List.mem_iff_getElem?.mp hb
    obtain ⟨l1, z1⟩ := List.getElem?_eq_some_iff.mp hi
    obtain ⟨l2, z2⟩ := List.getElem?_eq_some_iff.mp hj
    have q := List.pairwise_iff_getElem.mp up
    rcases Nat.lt_trichotomy i j with h | h | h
    · have := q i j l1 l2 h
      rw [z1, z2] at this
      omega
    · subst h
      rw [hi] at hj
      exact Option.some.inj hj
    · have := q j i l2 l1 h
      rw [z1, z2] at this
      omega
  have : zs = cs := List.Perm.eq_of_pairwise (le := fun o o' : List Nat => o.getD 0 0 ≤ o'.getD 0 0) (fun a b ha hb h1 h2 => inj a (pz.mem_iff.mp ha) b hb (by omega)) upz (up.imp fun h => Nat.le_of_lt h) pz
  rw [this]
end TR
end
section
set_option Elab.async false
set_option maxRecDepth 100000
set_option linter.all false
namespace TR
open PySem PySem.Spec PyProof.Rows L2 TM TK TB TP TH TU TW
section
variable {P : Program} {w_ : World} {K : PySem.W.Frag} {mg : Str → Option Value} {base : Heap} {C D CU fCl pM gM : Addr} {fdM : FuncData}
abbrev NMv : List Str := ["_law_tray_here", "_law_moved_here", "_law_marble"]
theorem scMv : FnScope NMv ["_law_tray_here", "_law_moved_here"] (defScope sLawMoved) := ⟨rfl, rfl, rfl, by decide +kernel, rfl, by decide +kernel, by decide +kernel⟩
def spMv (K : PySem.W.Frag) (D : Addr) : Sp := fun vs H Q _ => ∃ (p d : Addr) (h w : Nat) (g : Grid) (A B M0 : List Nat) (qa : Nat → Addr) (src : Nat → Nat), vs = [.ref p, .ref d] ∧ TrayAt K D H p g ∧ VG h w g ∧ ExAt H d w A B M0 qa ∧
  (∀ a ∈ M0, ∀ b ∈ M0, A.idxOf a = A.idxOf b → a = b) ∧ (∀ m ∈ mb g.flatten, src m ∈ M0 ∧ g.flatten.idxOf m = A.idxOf (src m)) ∧
  ∀ H' e qa', Same H H' → MdAt H' e w (fun m => B.idxOf (src m)) (srt (mb g.flatten)) qa' → Q (.ref e) H'
theorem ok_mv {f : Addr} {fd : FuncData} (F : Fun K "_law_moved" "_law_moved" sLawMoved f fd) (CT : ClsT K mg D) (hdict : mg "dict" = none)
    (PM : PropOf K D "marbles" pM gM) (GM : FnOk P w_ K mg base CX0 1 gM fdM ["self"] (spMb K D)) (bM : Binds K fdM ["self"] [])
    (CO : StX.CallO K D fCl) (GC : FnR P w_ K mg base (L2.CX P w_) 4 fCl (spCl K D CU)) :
    FnOk P w_ K mg base CX0 5 f fd ["_law_tray_here", "_law_moved_here"] (spMv K D) := by
  refine F.ok scMv (fun vs H Q E h => ?_) (fun cdv A0 outer s H vs Q E hr h => ?_)
  · obtain ⟨p, d, h, w, g, A, B, M0, qa, src, rfl, _⟩ := h
    rfl
  · obtain ⟨p, d, h, w, g, A, B, M0, qa, src, rfl, T0, hV, X0, inj, hsrc, k⟩ := h
    have nd := scMv.nd
    refine ⟨_, pss_one (ps_ret (pe_callTy (call_dictP rfl) (by rfl) hdict (by decide +kernel) (pa_cons (pe_lc (own := [("_law_marble", 2)]) (g := gName 2) (tt := tYes) rfl nd (pi_str (pe_prop (pv 0) CT.cl PM GM (hr.mono (by decide)) bM .nil pass0 rfl)) (blkOk_by (N := NMv) (sc := defScope sLawMoved) (by decide +kernel)) (fun _ _ _ _ _ => pg_name (i := 2) nd rfl (.inl rfl)) (fun _ _ _ _ _ => pts_nil)
        (fun _ _ _ _ _ => pe_tup (pa_cons (pv 2) (pa_cons (pe_dget (hu_of hr) (pv 1) (pe_callO (pv 0) CO GC (hr.mono (by decide)) passL (pa_cons (pv 2) pa_nil)) (fun _ _ => rfl)) pa_nil)))) pa_nil))), ?_⟩
    obtain ⟨dp, ap, hp, _⟩ := id T0
    have h26 : (srt (mb g.flatten)).length ≤ 26 := by
      rw [(srt_perm _).length_eq]
      exact mb_26 hV
    have ndS : (srt (mb g.flatten)).Nodup := (srt_perm _).nodup_iff.mpr hV.nd
    refine ⟨_, rfl, p, dp, _, rfl, hp, p, h, w, g, rfl, T0, hV, fun H1 s1 => ⟨_, rfl, fun D1 hD1 => lc_it (walk_str (z := S (srt (mb g.flatten)))) (fun i H2 => ∃ ps qn, Same H1 H2 ∧ PdAt H2 D1 w (fun m => B.idxOf (src m)) ((srt (mb g.flatten)).take i) ps qn)
      ⟨fun _ => 0, fun _ => 0, same_new hD1, upd_same, fun m hm => by simp at hm⟩ (fun _ _ _ _ => True.intro) ?_ ?_⟩⟩
    · rintro i x H2 H3 hi ⟨ps, qn, s2, hP⟩ ⟨rfl, c, hc, rfl⟩
      rw [S_at] at hc
      have hcM := mem_srt.mp (List.mem_of_getElem? hc)
      obtain ⟨z1, z2⟩ := hsrc c hcM
      have s12 := s1.trans s2
      have T2 := T0.same s12
      obtain ⟨dp2, ap2, hp2, _⟩ := id T2
      refine ⟨rfl, _, rfl, _, rfl, _, rfl, p, rfl, _, rfl, ⟨dp2, _, hp2⟩, call_ok T2 hV hcM fun H4 q s4 hq hq' => ?_⟩
      have X4 := (X0.same s12).same s4
      have dg := DGet.t (k := plK w (g.flatten.idxOf c)) X4.1 (by rw [plKV]; exact hq')
      rw [z2, valV_at (f := fun m => plK w (A.idxOf m)) (v := fun m => V.ref (qa m)) z1 fun a ha e => inj a ha _ z1 (plK_inj e)] at dg
      refine ⟨d, _, rfl, dg, by show 2 ≤ sizeLine; decide, fun T_ hT => ?_⟩
      have st := same_new (o := .tup [sg c, V.ref (qa (src c))]) hT
      obtain ⟨ps', qn', e1, e2⟩ := pd_step (T := T_) (q2 := qa (src c)) ndS hc hD1 ((hP.same s4).same st) ((s2.trans s4).trans st) upd_same (by rw [upd_ne (ne_of_none (X4.2 _ z1) hT)]; exact X4.2 _ z1)
      refine ⟨_, ((hP.same s4).same st).1, ?_, ps', qn', e1, e2⟩
      rw [List.length_map, List.length_take]
      show _ < 16777216
      omega
    · rintro H2 ⟨ps, qn, s2, hP⟩
      rw [S_size, List.take_length] at hP
      exact pd_dict hP ndS fun H3 e qa3 s3 _ hM => k _ _ _ ((s1.trans s2).trans s3) hM
end
end TR
end
section
set_option Elab.async false
set_option maxRecDepth 100000
set_option linter.all false
namespace TR
open PySem PySem.Spec PyProof.Rows L2 TM TK TB TP TH TU TW
def txD (cs : List (List Nat)) : List PyData := cs.map fun o => PyData.str (S o)
theorem tx_dp {K : PySem.W.Frag} {H : Hp} : ∀ cs : List (List Nat), DpAll K H (cs.map strL) (txD cs)
  | [] => .nil
  | _ :: r => .cons (.str _) (tx_dp r)
theorem tx_dp1 {K : PySem.W.Frag} {H : Hp} : ∀ t : List Nat, DpAll K H (t.map sg) (txD (t.map fun c => [c]))
  | [] => .nil
  | _ :: r => .cons (.str _) (tx_dp1 r)
theorem tx_ok {o : List Nat} (h : ∀ c ∈ o, c < 1000) : PyData.strOk (S o) = true := by
  show (o.toArray.all fun c => decide (c < 0x110000)) = true
  rw [List.all_toArray]
  exact List.all_eq_true.mpr fun c hc => decide_eq_true (by have := h c hc; omega)
theorem tx_lay : ∀ cs : List (List Nat), (∀ o ∈ cs, ∀ c ∈ o, c < 1000) → PyData.canLayAll0 (txD cs) = true
  | [], _ => rfl
  | o :: r, h => by
    have := tx_lay r fun x hx => h x (List.mem_cons_of_mem _ hx)
    show (PyData.strOk (S o) && PyData.canLayAll0 (txD r)) = true
    rw [this, tx_ok (h o List.mem_cons_self)]
    rfl
theorem tx_depth : ∀ cs : List (List Nat), PyData.depthAll (txD cs) = 0
  | [] => rfl
  | c :: r => by
    have := tx_depth r
    show max (PyData.depth (.str _)) (PyData.depthAll (txD r)) = 0
    rw [this]
    rfl
theorem tx_shaped {cs : List (List Nat)} (h : ∀ o ∈ cs, ∀ c ∈ o, c < 1000) : SeqAt.shaped (.list (txD cs)) = true := by
  unfold SeqAt.shaped
  rw [show PyData.canLay0 (.list (txD cs)) = PyData.canLayAll0 (txD cs) from rfl, tx_lay cs h]
  rw [show PyData.depth (.list (txD cs)) = PyData.depthAll (txD cs) + 1 from rfl, tx_depth]
  rfl
theorem tx_refl {cs : List (List Nat)} (h : ∀ o ∈ cs, ∀ c ∈ o, c < 1000) : PyData.eqv (.list (txD cs)) (.list (txD cs)) = true := SeqAt.eqv_refl _ (tx_lay cs h)
theorem ne_plc {K : PySem.W.Frag} {H : Hp} {a b : Addr} {w : Nat} {g g' : Grid} {c c' : Nat} {Q : VK} (h1 : PlcAt H a w g c) (h2 : PlcAt H b w g' c') (e : g.flatten.idxOf c = g'.flatten.idxOf c') (k : Q (.bl false) H) : rNeD K (.ref a) (.ref b) H Q := by
  unfold PlcAt at h1 h2
  refine ⟨_, _, pl_dp h1, pl_dp h2, pl_shaped _ _, pl_shaped _ _, ?_⟩
  rw [pl_eqv, decide_eq_true e]
  exact k
section
variable {P : Program} {w_ : World} {K : PySem.W.Frag} {mg : Str → Option Value} {base : Heap} {C D CU fCl fAr fCi fMa pM gM : Addr} {fdM : FuncData} {n : Nat}
structure TxtG (mg : Str → Option Value) : Prop where
  len : mg "len" = none
  range : mg "range" = none
  int : mg "int" = none
  lst : mg "list" = none
  srt : mg "sorted" = none
  min : mg "min" = none
abbrev NLc : List Str := ["_law_tray_here", "_law_word", "_law_rounds", "_law_first", "_law_some", "_law_circle", "_law_size", "_law_k", "_law_other"]
theorem scLc : FnScope NLc ["_law_tray_here", "_law_word", "_law_rounds"] (defScope sLawAreCircles) := ⟨rfl, rfl, rfl, by decide +kernel, rfl, by decide +kernel, by decide +kernel⟩
def spLc (K : PySem.W.Frag) (C D : Addr) : Sp := fun vs H Q _ => ∃ (p q : Addr) (N h w : Nat) (g : Grid) (t : List Nat), vs = [.ref p, .ref q, .int N] ∧ TrayAt K D H p g ∧ VG h w g ∧ WordAt C H q t ∧ N ≤ 10 ^ 17 ∧ ∀ H', Same H H' → Q (.bl true) H'
theorem ok_lc {f : Addr} {fd : FuncData} (F : Fun K "_law_are_circles" "_law_are_circles" sLawAreCircles f fd) (b : Binds K fd ["_law_tray_here", "_law_word", "_law_rounds"] []) (T : TxtG mg) (CT : ClsT K mg D)
    (GA : FnRn n P w_ K mg base CX0 7 fAr (spAr K C D)) (kA : PySem.W.keepIn K (.ref fAr) = true) (mA : mg "after_rounds" = some (.ref fAr))
    (GI : FnRn n P w_ K mg base CX0 6 fCi (spCi K C D)) (kI : PySem.W.keepIn K (.ref fCi) = true) (mI : mg "circles" = some (.ref fCi))
    (GMa : FnRn n P w_ K mg base CX0 8 fMa (spMa K C D)) (kMa : PySem.W.keepIn K (.ref fMa) = true) (mMa : mg "marble_after" = some (.ref fMa))
    (PM : PropOf K D "marbles" pM gM) (GM : FnOk P w_ K mg base CX0 1 gM fdM ["self"] (spMb K D)) (bM : Binds K fdM ["self"] [])
    (CO : StX.CallO K D fCl) (GC : FnR P w_ K mg base (L2.CX P w_) 4 fCl (spCl K D CU)) :
    FnRn n P w_ K mg base CX0 9 f (spLc K C D) := by
  refine fn_n F b scLc (fun vs H Q E h => ?_) fun cdv A outer s H vs Q E hr h => ?_
  · obtain ⟨p, q, N, h, w, g, t, rfl, _⟩ := h
    rfl
  · obtain ⟨p, q, N, h, w, g, t, rfl, T0, hV, W0, hN, k⟩ := h
    have nd := scLc.nd
    have r1 : Room 1 _ := hr.mono (by decide)
    have r2 : Room 2 _ := hr.mono (by decide)
    have r4 : Room 4 _ := hr.mono (by decide)
    have r6 : Room 6 _ := hr.mono (by decide)
    have r7 : Room 7 _ := hr.mono (by decide)
    have r8 : Room 8 _ := hr.mono (by decide)
    refine ⟨_, pssn_cut (psn_par (i := 3) (j := 4) rfl nd rfl rfl (by decide) rfl rfl (pan_cons (pen_call GA r7 rfl mA kA pass0 (pan_cons (PE.up (pv 0)) (pan_cons (PE.up (pv 1)) (pan_cons (PE.up pe_int) pan_nil)))) (pan_cons (pen_call GI r6 rfl mI kI pass0 (pan_cons (PE.up (pv 0)) (pan_cons (PE.up (pv 1)) pan_nil))) pan_nil)) (by rfl))
      (pssn_cut (PS.up (ps_if (PW.pt (pw_or (pt_cmpR (op_neD hr.units) (pe_callB (cr_sortedTxt rfl) (by rfl) T.srt (by decide +kernel) (pa_cons (pe_join pe_str (pv 4)) pa_nil)) (pe_callTy (call_list_txt rfl) (by rfl) T.lst (by decide +kernel) (pa_cons (pe_prop (pv 0) CT.cl PM GM r2 bM .nil pass0 rfl) pa_nil)) (nomark _))
          (pw_or1 (pt_cmpR (op_neD hr.units) (pv 4) (pe_callB cr_sortedS (by rfl) T.srt (by decide +kernel) (pa_cons (pv 4) pa_nil)) (nomark _))))) pss_never pss_nil))
      (pssn_cons (psn_for PassesOwn.never rfl (pi_list (pv 4)) (pg_name (i := 5) nd rfl (.inl rfl))
        (pssn_cut (PS.up (ps_set (i := 6) nd rfl (.inl rfl) (pe_callB call_len_str (by rfl) T.len PySem.boot_len (pa_cons (pv 5) pa_nil))))
        (pssn_cut (PS.up (ps_if (pt_cmpR op_ne (pe_ix ix_str (pv 5) pe_int (fun _ _ => rfl)) (pe_callB (cr_minTxt rfl) (by rfl) T.min (by decide +kernel) (pa_cons (pv 5) pa_nil)) (nomark _)) pss_never pss_nil))
        (pssn_one (psn_for PassesOwn.never rfl (pi_range1 (by rfl) T.range (pa_cons (pv 6) pa_nil)) (pg_name (i := 7) nd rfl (.inl rfl))
          (pssn_cut (psn_if (ptn_cmpR (op_neD hr.units) (pen_call GMa r8 rfl mMa kMa pass0 (pan_cons (PE.up (pv 0)) (pan_cons (PE.up (pe_ix ix_str (pv 5) (pv 7) (fun _ _ => rfl))) (pan_cons (PE.up (pv 1)) (pan_cons (PE.up pe_int) pan_nil))))) (PE.up (pe_callO (pv 3) CO GC r4 passL (pa_cons (pe_ix ix_str (pv 5) (pv 7) (fun _ _ => rfl)) pa_nil))) (nomark _)) (PSs.up pss_never) (PSs.up pss_nil))
          (pssn_cut (PS.up (ps_set (i := 8) nd rfl (.inl rfl) (pe_ix ix_str (pv 5) (pe_op op_modN (pe_callTy call_int1 (by rfl) T.int (by decide +kernel) (pa_cons (pe_op op_add (pv 7) (pv 2)) pa_nil)) (pv 6)) (fun _ _ => rfl))))
          (pssn_cut (psn_if (ptn_cmpR (op_neD hr.units) (pen_call GMa r8 rfl mMa kMa pass0 (pan_cons (PE.up (pv 0)) (pan_cons (PE.up (pv 8)) (pan_cons (PE.up (pv 1)) (pan_cons (PE.up (pe_op op_add pe_int (pv 2))) pan_nil))))) (PE.up (pe_callO (pv 3) CO GC r4 passL (pa_cons (pe_ix ix_str (pv 5) (pv 7) (fun _ _ => rfl)) pa_nil))) (nomark _)) (PSs.up pss_never) (PSs.up pss_nil))
          (pssn_one (psn_if (ptn_cmpR (op_neD hr.units) (pen_call GMa r8 rfl mMa kMa pass0 (pan_cons (PE.up (pv 0)) (pan_cons (PE.up (pe_ix ix_str (pv 5) (pv 7) (fun _ _ => rfl))) (pan_cons (PE.up (pv 1)) (pan_cons (PE.up pe_int) pan_nil))))) (pen_call GMa r8 rfl mMa kMa pass0 (pan_cons (PE.up (pv 0)) (pan_cons (PE.up (pe_ix ix_str (pv 5) (pv 7) (fun _ _ => rfl))) (pan_cons (PE.up (pv 1)) (pan_cons (PE.up (pe_op op_add pe_int (pv 6))) pan_nil))))) (nomark _)) (PSs.up pss_never) (PSs.up pss_nil)))))))))))
      (pssn_one (PS.up (ps_ret pe_bl))))), ?_⟩
    have V1 : VG h w (rounds h w t 1 g) := VG.rounds 1 hV
    obtain ⟨c1, c2, c3⟩ := cir_facts (t := t) hV
    have h26 := cirs_26 (t := t) hV
    have one := cir_one (φ := TM.nxt (tilts h w t g).flatten (tilts h w t (tilts h w t g)).flatten) (srt (mb (tilts h w t g).flatten)) []
    have lets : ∀ o ∈ cirs h w t g, ∀ c ∈ o, c < 1000 := fun o ho c hc => by
      have := mb_let hV c (c3.mem_iff.mp (List.mem_flatten.mpr ⟨o, ho, hc⟩))
      omega
    have circ := fun (o : List Nat) (ho : o ∈ cirs h w t g) (i : Nat) (hi : i < o.length) => circle_at hV ho hi N
    have cs26 : (cirs h w t g).length ≤ 26 := by
      have h1 := (sum_ones ((cirs h w t g).map List.length) fun x hx => by
        obtain ⟨o, ho, rfl⟩ := List.mem_map.mp hx
        exact one o ho).2
      rw [List.length_map] at h1
      omega
    have o26 : ∀ o ∈ cirs h w t g, o.length ≤ 26 := fun o ho => by
      have : ∀ (L : List Nat) x, x ∈ L → x ≤ L.sum := fun L => by
        induction L with
        | nil => intro x hx; cases hx
        | cons a L ih =>
          intro x hx
          rw [List.sum_cons]
          rcases List.mem_cons.mp hx with rfl | hx
          · omega
          · have := ih x hx
            omega
      exact Nat.le_trans (this _ _ (List.mem_map.mpr ⟨o, ho, rfl⟩)) h26
    have heads : ∀ o ∈ cirs h w t g, ∀ m ∈ o, (∀ y ∈ o, m ≤ y) → m = o.getD 0 0 := fun o ho m hm hle => by
      obtain ⟨s, sM, rfl, hs⟩ := c1 o ho
      have e : (orb (TM.nxt (tilts h w t g).flatten (tilts h w t (tilts h w t g)).flatten) s).getD 0 0 = s := by
        have : (orb (TM.nxt (tilts h w t g).flatten (tilts h w t (tilts h w t g)).flatten) s)[0]? = some s := orb_get (by unfold ringLen; omega)
        rw [List.getD_eq_getElem?_getD, this]
        rfl
      rw [e]
      have a1 := hle s (orb_self s)
      have a2 := hs m hm
      omega
    generalize hcs : cirs h w t g = cs at c1 c2 c3 h26 lets circ cs26 o26 heads
    have one' : ∀ o ∈ cs, 1 ≤ o.length := by rw [← hcs]; exact one
    refine ⟨fun σ H1 => ∃ r l, σ = [some (.ref p), some (.ref q), some (.int (N : Nat)), some (.ref r), some (.ref l), none, none, none, none] ∧ Same H H1 ∧ TrayAt K D H1 r (rounds h w t 1 g) ∧ H1 l = some (.lst (cs.map strL)), ?_, ?_⟩
    · refine ⟨_, rfl, _, rfl, p, q, h, w, 1, g, t, rfl, T0, hV, W0, by decide, fun H1 r s1 hr1 => ?_⟩
      refine ⟨_, rfl, _, rfl, p, q, h, w, g, t, rfl, T0.same s1, hV, W0.same s1, fun H2 l s2 hl hl' => ?_⟩
      refine ⟨_, _, rfl, r, l, rfl, s1.trans s2, hr1.same s2, ?_⟩
      rw [← hcs]
      exact hl'
    rintro σ H1 ⟨r, l, rfl, s1, tr1, hl1⟩
    refine ⟨fun σ H2 => σ = [some (.ref p), some (.ref q), some (.int (N : Nat)), some (.ref r), some (.ref l), none, none, none, none] ∧ Same H H2 ∧ TrayAt K D H2 r (rounds h w t 1 g) ∧ H2 l = some (.lst (cs.map strL)), ?_, ?_⟩
    · have T1 := T0.same s1
      refine ⟨⟨_, rfl⟩, _, rfl, _, l, cs.map S, rfl, rfl, .inl ?_, ?_, ?_⟩
      · rw [List.map_map]
        exact SqL.of hl1
      · have e : (cs.map S).map (·.length) = cs.map List.length := by
          rw [List.map_map]
          exact List.map_congr_left fun o _ => S_len o
        rw [e, List.length_map]
        show _ + _ * 0 ≤ 16777216
        omega
      rw [show Str.ofString "" = S [] from rfl, join0]
      have fl : cs.flatten.length ≤ 26 := by rw [List.length_flatten]; exact h26
      refine ⟨cs.flatten, rfl, by omega, fun a1 ha1 => ?_⟩
      have sa := same_new (o := .lst ((srt cs.flatten).map sg)) ha1
      have e1 : upd H1 a1 (.lst ((srt cs.flatten).map sg)) a1 = some (.lst ((srt cs.flatten).map sg)) := upd_same
      generalize upd H1 a1 (.lst ((srt cs.flatten).map sg)) = H2 at sa e1
      have T2 := T1.same sa
      obtain ⟨dp, ap, hp, _⟩ := id T2
      have es : srt cs.flatten = srt (mb g.flatten) := List.Perm.eq_of_pairwise (le := (· ≤ ·)) (fun a b _ _ h1 h2 => by omega) (srt_up _) (srt_up _) ((srt_perm _).trans (c3.trans (srt_perm _).symm))
      refine ⟨_, rfl, p, dp, _, rfl, hp, p, h, w, g, rfl, T2, hV, fun H3 s3 => ⟨srt (mb g.flatten), rfl, ?_, fun a2 ha2 => ?_⟩⟩
      · rw [← es, (srt_perm _).length_eq]
        omega
      have sb := same_new (o := .lst ((srt (mb g.flatten)).map sg)) ha2
      have e2 : upd H3 a2 (.lst ((srt (mb g.flatten)).map sg)) a2 = some (.lst ((srt (mb g.flatten)).map sg)) := upd_same
      generalize upd H3 a2 (.lst ((srt (mb g.flatten)).map sg)) = H4 at sb e2
      have s14 : Same H1 H4 := (sa.trans s3).trans sb
      rw [es] at e1
      have let1 : ∀ o ∈ (srt (mb g.flatten)).map fun c => [c], ∀ c ∈ o, c < 1000 := fun o ho c hc => by
        obtain ⟨x, hx, rfl⟩ := List.mem_map.mp ho
        have := mb_let hV x (mem_srt.mp hx)
        rw [List.mem_singleton.mp hc]
        omega
      refine ⟨_, _, .lst (SqL.of (sb _ _ (s3 _ _ e1))) (tx_dp1 _), .lst (SqL.of e2) (tx_dp1 _), tx_shaped let1, tx_shaped let1, _, rfl, ?_⟩
      rw [tx_refl let1]
      refine iteF ?_
      have hl4 := s14 _ _ hl1
      refine ⟨_, rfl, _, rfl, l, cs.map S, rfl, ?_, by rw [List.length_map]; omega, fun ys p2 py sy hp2 => ?_⟩
      · rw [List.map_map]
        exact SqL.of hl4
      have ey := sort_lists py sy c2 one'
      subst ey
      have sc := same_new (o := .lst ((cs.map S).map V.str)) hp2
      have e5 : upd H4 p2 (.lst ((cs.map S).map V.str)) p2 = some (.lst (cs.map strL)) := by
        rw [upd_same, List.map_map]
        rfl
      generalize upd H4 p2 (.lst ((cs.map S).map V.str)) = H5 at sc e5
      refine ⟨_, _, .lst (SqL.of (sc _ _ hl4)) (tx_dp _), .lst (SqL.of e5) (tx_dp _), tx_shaped lets, tx_shaped lets, _, rfl, ?_⟩
      rw [tx_refl lets]
      have s15 := s14.trans sc
      exact iteF ⟨rfl, s1.trans s15, tr1.same s15, s15 _ _ hl1⟩
    rintro σ H2 ⟨rfl, s2, tr2, hl2⟩
    clear tr1 hl1 s1 H1
    refine ⟨_, rfl, l, rfl, ⟨_, SqL.of hl2⟩, for_list (K := K) (a := l) (xs := cs.map strL) (fun i σ H3 => ∃ v5 v6 v7 v8, σ = [some (.ref p), some (.ref q), some (.int (N : Nat)), some (.ref r), some (.ref l), v5, v6, v7, v8] ∧ Same H2 H3)
      ⟨none, none, none, none, rfl, Same.refl H2⟩ (fun i σ H3 _ ⟨_, _, _, _, _, s⟩ => SqL.of (s _ _ hl2)) ?_ ?_⟩
    · rintro i x σ H3 hi ⟨v5, v6, v7, v8, rfl, s3⟩
      obtain ⟨o, ho, rfl⟩ := at_map hi
      have hoM := List.mem_of_getElem? ho
      have ol := o26 o hoM
      have oz : (S o).length ≤ sizeLine := by
        rw [S_len]
        show _ ≤ 16777216
        omega
      have s23 := s2.trans s3
      -- size
      refine ⟨fun σ H4 => σ = [some (.ref p), some (.ref q), some (.int (N : Nat)), some (.ref r), some (.ref l), some (strL o), some (.int (o.length : Nat)), v7, v8] ∧ H4 = H3, ?_, ?_⟩
      · refine ⟨_, rfl, _, rfl, oz, ?_, rfl⟩
        rw [S_len]
        rfl
      rintro σ H4 ⟨rfl, rfl⟩
      have o1 := one' o hoM
      have get : ∀ j, j < o.length → ∃ c, o[j]? = some c := fun j hj => ⟨o[j], List.getElem?_eq_getElem hj⟩
      have ix : ∀ {j c : Nat}, o[j]? = some c → atI (S o).cps.toList (j : Int) = some c := fun {j c} e => atI_nat (by rw [S_list]; exact e)
      -- first is least
      refine ⟨fun σ H5 => σ = [some (.ref p), some (.ref q), some (.int (N : Nat)), some (.ref r), some (.ref l), some (strL o), some (.int (o.length : Nat)), v7, v8] ∧ H5 = H4, ?_, ?_⟩
      · obtain ⟨c0, h0⟩ := get 0 (by omega)
        refine ⟨_, rfl, S o, 0, c0, rfl, rfl, oz, ix (j := 0) h0, _, rfl, o, rfl, fun z => by rw [z] at o1; simp at o1, fun m hm hle => ?_⟩
        have em := heads o hoM m hm hle
        rw [List.getD_eq_getElem?_getD, h0] at em
        have em : m = c0 := em
        subst em
        refine ⟨rfl, _, rfl, ?_⟩
        rw [show (!decide (V.str ⟨#[m]⟩ = sg m)) = false by simp [sg, S]]
        exact iteF ⟨rfl, rfl⟩
      rintro σ H5 ⟨rfl, rfl⟩
      refine ⟨_, rfl, (o.length : Int), rfl, by omega, by omega, for_range (lo := 0) (n := ((o.length : Nat) : Int).toNat) (fun j σ H6 => ∃ v7 v8, σ = [some (.ref p), some (.ref q), some (.int (N : Nat)), some (.ref r), some (.ref l), some (strL o), some (.int (o.length : Nat)), v7, v8] ∧ Same H5 H6)
        ⟨_, _, rfl, Same.refl H5⟩ ?_ fun σ H6 ⟨v7, v8, e, s⟩ => ⟨_, _, _, _, e, s3.trans s⟩⟩
      rintro j σ H6 hj ⟨v7, v8, rfl, s6⟩
      rw [Int.toNat_natCast] at hj
      rw [Int.zero_add]
      obtain ⟨c, d, hc, hd, mc, md, e1, e2⟩ := circ o hoM j hj
      have s26 := s23.trans s6
      have s06 := (s2.trans s3).trans s6
      have pl1 : ∀ {x : Nat}, x ∈ mb g.flatten → x ∈ mb (rounds h w t 1 g).flatten := fun hx => (mb_rounds hV 1).mem_iff.mpr hx
      -- one round
      refine ⟨fun σ H7 => σ = [some (.ref p), some (.ref q), some (.int (N : Nat)), some (.ref r), some (.ref l), some (strL o), some (.int (o.length : Nat)), some (.int (j : Nat)), v8] ∧ Same H6 H7, ?_, ?_⟩
      · have T6 := T0.same s06
        have W6 := W0.same s06
        refine ⟨_, rfl, _, rfl, _, rfl, S o, (j : Int), c, rfl, rfl, oz, ix hc, _, rfl, p, q, c, h, w, 1, g, t, rfl, T6, hV, W6, mc, by decide, fun H7 b1 s7 hb hb' => ?_⟩
        have t7 := tr2.same (s3.trans (s6.trans s7))
        obtain ⟨dr, ar, er, _⟩ := id t7
        refine ⟨_, rfl, r, rfl, _, rfl, _, rfl, S o, (j : Int), c, rfl, rfl, oz, ix hc, ⟨dr, _, er⟩, call_ok t7 V1 (pl1 mc) fun H8 b2 s8 hb2 hb2' => ?_⟩
        exact ne_plc (s8 _ _ hb') hb2' rfl ⟨_, rfl, iteF ⟨rfl, s7.trans s8⟩⟩
      rintro σ H7 ⟨rfl, s7⟩
      -- the one that comes there
      refine ⟨fun σ H8 => σ = [some (.ref p), some (.ref q), some (.int (N : Nat)), some (.ref r), some (.ref l), some (strL o), some (.int (o.length : Nat)), some (.int (j : Nat)), some (sg d)] ∧ H8 = H7, ?_, ?_⟩
      · refine ⟨_, rfl, _, rfl, _, rfl, _, _, rfl, rfl, .inl ⟨_, rfl, _, rfl, _, _, rfl, rfl, by omega, S o, (((j + N) % o.length : Nat) : Int), d, rfl, ?_, oz, ix hd, rfl, rfl⟩⟩
        show V.int (Int.fmod ((j : Int) + (N : Int)) (o.length : Int)) = V.int (((j + N) % o.length : Nat) : Int)
        rw [Int.fmod_eq_emod_of_nonneg _ (show (0 : Int) ≤ (o.length : Int) by omega)]
        rfl
      rintro σ H8 ⟨rfl, rfl⟩
      refine ⟨fun σ H9 => σ = [some (.ref p), some (.ref q), some (.int (N : Nat)), some (.ref r), some (.ref l), some (strL o), some (.int (o.length : Nat)), some (.int (j : Nat)), some (sg d)] ∧ Same H6 H9, ?_, ?_⟩
      · have s07 := s06.trans s7
        have T7 := T0.same s07
        have W7 := W0.same s07
        refine ⟨_, rfl, _, rfl, _, rfl, _, rfl, _, _, rfl, rfl, p, q, d, h, w, 1 + N, g, t, ?_, T7, hV, W7, md, Nat.le_trans (Nat.add_le_add_left hN 1) (by decide), fun H9 b1 s9 hb hb' => ?_⟩
        · rw [show ((1 + N : Nat) : Int) = 1 + (N : Int) by omega]
        have t9 := tr2.same (s3.trans (s6.trans (s7.trans s9)))
        obtain ⟨dr, ar, er, _⟩ := id t9
        refine ⟨_, rfl, r, rfl, _, rfl, _, rfl, S o, (j : Int), c, rfl, rfl, oz, ix hc, ⟨dr, _, er⟩, call_ok t9 V1 (pl1 mc) fun H10 b2 s10 hb2 hb2' => ?_⟩
        exact ne_plc (s10 _ _ hb') hb2' e1 ⟨_, rfl, iteF ⟨rfl, s7.trans (s9.trans s10)⟩⟩
      rintro σ H9 ⟨rfl, s9⟩
      have s09 := s06.trans s9
      have T9 := T0.same s09
      have W9 := W0.same s09
      refine ⟨_, rfl, _, rfl, _, rfl, S o, (j : Int), c, rfl, rfl, oz, ix hc, _, rfl, p, q, c, h, w, 2, g, t, rfl, T9, hV, W9, mc, by decide, fun H10 b1 s10 hb hb' => ?_⟩
      have s010 := s09.trans s10
      refine ⟨_, rfl, _, rfl, _, rfl, S o, (j : Int), c, rfl, rfl, oz, ix hc, _, rfl, _, rfl, _, _, rfl, rfl, p, q, c, h, w, 2 + o.length, g, t, ?_, T0.same s010, hV, W0.same s010, mc, Nat.le_trans (Nat.add_le_add_left ol 2) (by decide), fun H11 b2 s11 hb2 hb2' => ?_⟩
      · rw [show ((2 + o.length : Nat) : Int) = 2 + (o.length : Int) by omega]
      exact ne_plc (s11 _ _ hb') hb2' e2.symm ⟨_, rfl, iteF ⟨_, _, rfl, s6.trans (s9.trans (s10.trans s11))⟩⟩
    · rintro σ H3 ⟨v5, v6, v7, v8, rfl, s3⟩
      exact k _ (s2.trans s3)
end
end TR
end
section
set_option Elab.async false
set_option maxRecDepth 100000
set_option linter.all false
namespace TR
open PySem PySem.Spec PyProof.Rows L2 TM TK TB TP TH TU TW
section
variable {X : Cx} {n : Nat}
theorem pwn_and12 {a : Expr} {tA : TT} {pos : Pos} (ha : PTn n X a tA) : PWn n X (.BoolOp .And [a] pos) tA := by
  intro whole pins s σ H Q hn I h
  refine isTrue_and (thn (ha pins s σ H Q hn I h) fun c s1 e => ?_)
  cases c with
  | true => exact isTrue_and_nil e
  | false => exact e
theorem pwn_and2 {a b : Expr} {rest : List Expr} {tA tB : TT} {pos : Pos} (ha : PTn n X a tA) (hb : PWn n X (.BoolOp .And (b :: rest) pos) tB) : PWn n X (.BoolOp .And (a :: b :: rest) pos) (tAnd tA tB) := by
  intro whole pins s σ H Q hn I h
  refine isTrue_and (thnN hn (ha pins s σ H _ hn I h) fun c s1 hn1 ⟨H1, I1, q1⟩ => ?_)
  cases c with
  | true => exact hb whole pins s1 σ H1 Q hn1 I1 q1
  | false => exact ⟨H1, I1, q1⟩
theorem psn_asg {tg e : Expr} {te : TE} {g : TG} {pos : Pos} (he : PEn n X e te) (hg : PG X tg g) (hs : swapsWithSole [tg] e pos.line X.env = pure false := by rfl) (hw : swappedStores [tg] e X.env = pure none := by rfl)
    (h1 : (assignEach [tg] X.env).map (·.2) = [assign tg X.env] := by rfl) : PSn n X (.Assign [tg] e pos) (tAsg te g) := by
  intro pins s σ H D hn I h
  refine wpAny_Assign_stores (thn (he pins s σ H _ hn I h) fun v s1 ⟨x, H1, I1, r1, q1⟩ => ?_) hs hw
  rw [h1]
  exact thn (hg.run pins s1 σ H1 x v _ I1 r1 q1) fun _ s2 q => q
theorem pen_tup {es : List Expr} {t : TA} {x1 : Nat} {pos : Pos} (h : PAn n X es t) : PEn n X (.Tuple es x1 pos) (tTup t) := by
  intro pins s σ H Q hn I hq
  refine wpAny_Tuple_spliced (thn (h pos pins s σ H _ hn I hq) fun us s1 ⟨xs, H1, I1, r, z, q⟩ => ⟨by rw [← r.length]; exact z, ?_⟩)
  have hf : H1 s1.heap.objs.size = none := I1.hok.fresh (Nat.le_refl _)
  refine ⟨.ref s1.heap.objs.size, upd H1 s1.heap.objs.size (.tup xs), I1.laid (t' := s1.toks) (fun b u e => Heap.get?_push_of_some _ e) (Nat.le_refl _) ?_, rfl, q _ hf⟩
  exact ⟨z, us, r, ⟨_, Heap.get?_push_size _ rfl, rfl, _, rfl⟩⟩
end
theorem srt_congr {l m : List Nat} (p : l.Perm m) : TP.srt l = TP.srt m := List.Perm.eq_of_pairwise (le := (· ≤ ·)) (fun a b _ _ h1 h2 => by omega) (srt_up _) (srt_up _) ((srt_perm _).trans (p.trans (srt_perm _).symm))
theorem pd_dict2 {K : PySem.W.Frag} {H : Hp} {D : Addr} {w : Nat} {pos : Nat → Nat} {M : List Nat} {ps qa : Nat → Addr} (P : PdAt H D w pos M ps qa) (nd : M.Nodup) :
    ∃ (a : Addr) (as : List Addr) (kvs : List (Key × V)), [V.ref D] = [.ref a] ∧ SqL K H a (as.map V.ref) ∧ Paired (fun p kv => SqT K H p [kV kv.1, kv.2]) as kvs ∧ ∀ p, H p = none → Same H (upd H p (.dK (mergeK [] kvs))) ∧ ∃ qa, MdAt (upd H p (.dK (mergeK [] kvs))) p w pos M qa := by
  obtain ⟨a, as, kvs, h1, h2, h3, h4⟩ := pd_dict (K := K) (Q := fun v H' => ∃ e, v = .ref e ∧ Same H H' ∧ ∃ qa, MdAt H' e w pos M qa) P nd fun H' e qa s _ hM => ⟨e, rfl, s, qa, hM⟩
  refine ⟨a, as, kvs, h1, h2, h3, fun p hp => ?_⟩
  obtain ⟨e, e1, s, qa, hM⟩ := h4 p hp
  cases e1
  exact ⟨s, qa, hM⟩
theorem pr_lay : ∀ zs : List (Int × Int), PyData.canLayAll0 (zs.map pairD) = true
  | [] => rfl
  | z :: r => by
    show (PyData.canLay0 (pairD z) && PyData.canLayAll0 (r.map pairD)) = true
    rw [pr_lay r]
    rfl
theorem pr_depth : ∀ zs : List (Int × Int), PyData.depthAll (zs.map pairD) ≤ 1
  | [] => Nat.zero_le _
  | z :: r => by
    have := pr_depth r
    show max (PyData.depth (pairD z)) (PyData.depthAll (r.map pairD)) ≤ 1
    exact Nat.max_le.mpr ⟨Nat.le_refl _, this⟩
theorem pr_shaped (zs : List (Int × Int)) : SeqAt.shaped (.list (zs.map pairD)) = true := by
  have h1 := pr_depth zs
  unfold SeqAt.shaped
  rw [show PyData.canLay0 (.list (zs.map pairD)) = PyData.canLayAll0 (zs.map pairD) from rfl, pr_lay zs]
  rw [show PyData.depth (.list (zs.map pairD)) = PyData.depthAll (zs.map pairD) + 1 from rfl]
  rw [Bool.true_and]
  exact decide_eq_true (by omega)
theorem pr_refl (zs : List (Int × Int)) : PyData.eqv (.list (zs.map pairD)) (.list (zs.map pairD)) = true := SeqAt.eqv_refl _ (pr_lay zs)
theorem pr1_same {K : PySem.W.Frag} {H H' : Hp} (s : Same H H') {v : V} {z : Int × Int} (h : Dp K H v (pairD z)) : Dp K H' v (pairD z) := by
  unfold pairD at h ⊢
  generalize hd : PyData.tuple [.int z.1, .int z.2] = d at h
  cases h with
  | tup h1 h2 =>
    injection hd with hd
    subst hd
    cases h2 with
    | cons a b =>
      cases a
      cases b with
      | cons a b =>
        cases a
        cases b
        exact .tup (s.tup h1) (.cons (.int _) (.cons (.int _) .nil))
  | _ => cases hd
theorem pr_same {K : PySem.W.Frag} {H H' : Hp} (s : Same H H') : ∀ {zs : List (Int × Int)} {ys : List V}, DpAll K H ys (zs.map pairD) → DpAll K H' ys (zs.map pairD)
  | [], _, h => by
    cases h
    exact .nil
  | z :: r, _, h => by
    rw [List.map_cons] at h ⊢
    cases h with
    | cons h1 h2 => exact .cons (pr1_same s h1) (pr_same s h2)
theorem tray_but2 {K : PySem.W.Frag} {D p r : Addr} {H H' : Hp} {g : Grid} {xs : List V} (h : TrayAt K D H p g) (hr : H r = some (.lst xs)) (b : But r H H') : TrayAt K D H' p g := by
  obtain ⟨dx, a, h1, h2⟩ := h
  have ne : p ≠ r := fun e => by
    rw [e, hr] at h1
    cases h1
  refine ⟨dx, a, b _ _ h1 ne, ?_⟩
  rcases h2 with (h2 | ⟨u, h2⟩) | h2
  · exact .inl (.inl (b _ _ h2 fun e => by rw [e, hr] at h2; cases h2))
  · exact .inl (.inr ⟨u, b _ _ h2 fun e => by rw [e, hr] at h2; cases h2⟩)
  · exact .inr h2
theorem word_but2 {C p r : Addr} {H H' : Hp} {t : List Nat} {xs : List V} (h : WordAt C H p t) (hr : H r = some (.lst xs)) (b : But r H H') : WordAt C H' p t := by
  obtain ⟨dx, h1⟩ := h
  exact ⟨dx, b _ _ h1 fun e => by rw [e, hr] at h1; cases h1⟩
structure Cor (K : PySem.W.Frag) (C D a : Addr) (ns : List Int) (r p q : Addr) (g : Grid) (t : List Nat) (H : Hp) : Prop where
  tr : TrayAt K D H p g
  w1 : WordAt C H q t
  rw : RowAt K a ns H r
theorem Cor.same {K : PySem.W.Frag} {C D a : Addr} {ns : List Int} {r p q : Addr} {g : Grid} {t : List Nat} {H H' : Hp} (c : Cor K C D a ns r p q g t H) (s : Same H H') : Cor K C D a ns r p q g t H' := ⟨c.tr.same s, c.w1.same s, c.rw.same s⟩
theorem Cor.but {K : PySem.W.Frag} {C D a : Addr} {ns : List Int} {r p q : Addr} {g : Grid} {t : List Nat} {H H' : Hp} (c : Cor K C D a ns r p q g t H) (b : But r H H') (R : RowAt K a ns H' r) : Cor K C D a ns r p q g t H' := by
  obtain ⟨_, _, _, h, _⟩ := c.rw
  exact ⟨tray_but2 c.tr h b, word_but2 c.w1 h b, R⟩
structure TxtL2 (mg : Str → Option Value) : Prop where
  len : mg "len" = none
  range : mg "range" = none
  int : mg "int" = none
  dict : mg "dict" = none
  srt : mg "sorted" = none
section
variable {P : Program} {w : World} {K : PySem.W.Frag} {mg : Str → Option Value} {base : Heap} {n : Nat} {C D CU fTk fTx fRw fGr fTry fMv fLc fAr fBk fIb fCi fEx fCl fWi pM gM fTe : Addr} {fdTk fdTx fdRw fdGr fdTry fdMv fdWi fdM : FuncData}
abbrev NLw : List Str := ["_law_script", "_law_row", "_law_turn", "_law_tray_here", "_law_word", "_law_rounds", "_law_moved_here", "_law_one", "_law_two", "_law_marble", "_law_back", "_law_first", "_law_part", "_law_size"]
theorem scLw : FnScope NLw ["_law_script"] (defScope sLaw) := ⟨rfl, rfl, rfl, by decide +kernel, rfl, by decide +kernel, by decide +kernel⟩
def spLaw (K : PySem.W.Frag) : Sp := fun vs H Q _ => ∃ (a : Addr) (ns : List Int), vs = [.ref a] ∧ SqL K H a (ns.map V.int) ∧ ∀ H', Q (.bl true) H'
theorem ok_law {f : Addr} {fd : FuncData} (F : Fun K "law" "law" sLaw f fd) (b : Binds K fd ["_law_script"] []) (T : TxtL2 mg) (CW : ClsW K mg C) (CT : ClsT K mg D)
    (GTk : ∀ a ns, FnOk P w K mg base CX0 1 fTk fdTk ["_law_row", "_law_many"] (spTk K a ns)) (kTk : PySem.W.keepIn K (.ref fTk) = true) (bTk : Binds K fdTk ["_law_row", "_law_many"] []) (mTk : mg "_law_taken" = some (.ref fTk))
    (GTx : ∀ a ns, FnOk P w K mg base CX0 2 fTx fdTx ["_law_row", "_law_most"] (spTx K a ns)) (kTx : PySem.W.keepIn K (.ref fTx) = true) (bTx : Binds K fdTx ["_law_row", "_law_most"] []) (mTx : mg "_law_text" = some (.ref fTx))
    (GRw : ∀ a ns, FnOk P w K mg base CX0 2 fRw fdRw ["_law_row", "_law_most"] (spRw K a ns)) (kRw : PySem.W.keepIn K (.ref fRw) = true) (bRw : Binds K fdRw ["_law_row", "_law_most"] []) (mRw : mg "_law_rows" = some (.ref fRw))
    (GGr : ∀ a ns, FnOk P w K mg base CX0 2 fGr fdGr ["_law_row", "_law_many"] (spGr K a ns)) (kGr : PySem.W.keepIn K (.ref fGr) = true) (bGr : Binds K fdGr ["_law_row", "_law_many"] []) (mGr : mg "_law_great" = some (.ref fGr))
    (GTry : FnOk P w K mg base CX0 6 fTry fdTry ["_law_rows_here"] (spTry K D)) (kTry : PySem.W.keepIn K (.ref fTry) = true) (bTry : Binds K fdTry ["_law_rows_here"] []) (mTry : mg "_law_tray" = some (.ref fTry))
    (GMv : FnOk P w K mg base CX0 5 fMv fdMv ["_law_tray_here", "_law_moved_here"] (spMv K D)) (kMv : PySem.W.keepIn K (.ref fMv) = true) (bMv : Binds K fdMv ["_law_tray_here", "_law_moved_here"] []) (mMv : mg "_law_moved" = some (.ref fMv))
    (MW : Mk K C fWi) (GWi : FnOk P w K mg base CX0 3 fWi fdWi ["self", "text"] (spWi C)) (bWi : Binds K fdWi ["self", "text"] [])
    (hE : PySem.W.findIn K (.ref D) "__eq__" = some (some (.ref fTe))) (iE : PySem.W.isFn K (.ref fTe) = true) (GTe : FnR P w K mg base CX0 1 fTe (spTe K D))
    (PM : PropOf K D "marbles" pM gM) (GM : FnOk P w K mg base CX0 1 gM fdM ["self"] (spMb K D)) (bM : Binds K fdM ["self"] [])
    (CO : StX.CallO K D fCl) (GC : FnR P w K mg base (L2.CX P w) 4 fCl (spCl K D CU))
    (GLc : FnRn n P w K mg base CX0 9 fLc (spLc K C D)) (kLc : PySem.W.keepIn K (.ref fLc) = true) (mLc : mg "_law_are_circles" = some (.ref fLc))
    (GA : FnRn n P w K mg base CX0 7 fAr (spAr K C D)) (kA : PySem.W.keepIn K (.ref fAr) = true) (mA : mg "after_rounds" = some (.ref fAr))
    (GB : FnRn n P w K mg base CX0 7 fBk (spBk K C D)) (kB : PySem.W.keepIn K (.ref fBk) = true) (mB : mg "back_after" = some (.ref fBk))
    (GIb : FnRn n P w K mg base CX0 8 fIb (spIb K C D)) (kIb : PySem.W.keepIn K (.ref fIb) = true) (mIb : mg "is_back" = some (.ref fIb))
    (GI : FnRn n P w K mg base CX0 6 fCi (spCi K C D)) (kI : PySem.W.keepIn K (.ref fCi) = true) (mI : mg "circles" = some (.ref fCi))
    (GEx : FnRn n P w K mg base CX0 6 fEx (spEx K C D)) (kEx : PySem.W.keepIn K (.ref fEx) = true) (mEx : mg "exchange" = some (.ref fEx)) :
    FnRn n P w K mg base CX0 10 f (spLaw K) := by
  refine fn_n F b scLw (fun vs H Q E h => ?_) fun cdv A outer s H vs Q E hr h => ?_
  · obtain ⟨a, ns, rfl, _⟩ := h
    rfl
  · obtain ⟨a, ns, rfl, hS, k⟩ := h
    have nd := scLw.nd
    have r1 : Room 1 _ := hr.mono (by decide)
    have r2 : Room 2 _ := hr.mono (by decide)
    have r4 : Room 4 _ := hr.mono (by decide)
    have r5 : Room 5 _ := hr.mono (by decide)
    have r6 : Room 6 _ := hr.mono (by decide)
    have r7 : Room 7 _ := hr.mono (by decide)
    have r8 : Room 8 _ := hr.mono (by decide)
    have r9 : Room 9 _ := hr.mono (by decide)
    refine ⟨_, pssn_cut (PS.up (ps_set (i := 1) nd rfl (.inl rfl) (pe_lst (pa_cons (pv 0) (pa_cons pe_int (pa_cons pe_int (pa_cons pe_int pa_nil)))))))
      (pssn_cons (psn_for PassesOwn.never rfl (pi_range1 (by rfl) T.range (pa_cons pe_int pa_nil)) (pg_name (i := 2) nd rfl (.inl rfl))
        (pssn_cut (PS.up (ps_set (i := 3) nd rfl (.inl rfl) (pe_call GTry r6 rfl mTry kTry bTry .nil pass0 (pa_cons (pe_call (GRw a ns) r2 rfl mRw kRw bRw .nil pass0 (pa_cons (pv 1) (pa_cons pe_int pa_nil))) pa_nil))))
        (pssn_cut (PS.up (ps_set (i := 4) nd rfl (.inl rfl) (pe_make MW GWi r4 rfl CW.mgC bWi .nil pass0 (pa_cons (pe_op op_add_str (pe_ix ix_list (pe_lst (pa_cons pe_str (pa_cons pe_str (pa_cons pe_str (pa_cons pe_str pa_nil))))) (pe_call (GTk a ns) r1 rfl mTk kTk bTk .nil pass0 (pa_cons (pv 1) (pa_cons pe_int pa_nil))) (fun _ _ => rfl)) (pe_call (GTx a ns) r2 rfl mTx kTx bTx .nil pass0 (pa_cons (pv 1) (pa_cons pe_int pa_nil)))) pa_nil))))
        (pssn_cut (psn_par (i := 5) (j := 6) rfl nd rfl rfl (by decide) rfl rfl (pan_cons (PE.up (pe_op op_add pe_int (pe_call (GGr a ns) r2 rfl mGr kGr bGr .nil pass0 (pa_cons (pv 1) (pa_cons (pe_ix ix_list (pe_lst (pa_cons pe_int (pa_cons (pe_op op_pow pe_int pe_int) pa_nil))) (pe_call (GTk a ns) r1 rfl mTk kTk bTk .nil pass0 (pa_cons (pv 1) (pa_cons pe_int pa_nil))) (fun _ _ => rfl)) pa_nil))))) (pan_cons (pen_call GEx r6 rfl mEx kEx pass0 (pan_cons (PE.up (pv 3)) (pan_cons (PE.up (pv 4)) pan_nil))) pan_nil)) (by rfl))
        (pssn_cut (psn_asg (pen_tup (pan_cons (pen_call GA r7 rfl mA kA pass0 (pan_cons (PE.up (pv 3)) (pan_cons (PE.up (pv 4)) (pan_cons (PE.up (pv 5)) pan_nil)))) (pan_cons (pen_call GA r7 rfl mA kA pass0 (pan_cons (PE.up (pv 3)) (pan_cons (PE.up (pv 4)) (pan_cons (PE.up (pe_op op_add (pv 5) pe_int)) pan_nil)))) pan_nil))) (pg_tup (by rfl) (pgs_cons (pg_name (i := 7) nd rfl (.inl rfl)) (pgs_cons (pg_name (i := 8) nd rfl (.inr rfl)) pgs_nil))))
        (pssn_cut (PS.up (ps_if (pt_cmpR (op_neDD hr.units) (pe_callTy (call_dictP rfl) (by rfl) T.dict (by decide +kernel) (pa_cons (pe_lc (own := [("_law_marble", 9)]) (g := gName 9) (tt := tYes) rfl nd (pi_str (pe_prop (pv 8) CT.cl PM GM r2 bM .nil pass0 rfl)) (blkOk_by (N := NLw) (sc := defScope sLaw) (by decide +kernel)) (fun _ _ _ _ _ => pg_name (i := 9) nd rfl (.inl rfl)) (fun _ _ _ _ _ => pts_nil)
            (fun _ _ _ _ _ => pe_tup (pa_cons (pv 9) (pa_cons (pe_callO (pv 8) CO GC r4 passL (pa_cons (pv 9) pa_nil)) pa_nil)))) pa_nil)) (pe_call GMv r5 rfl mMv kMv bMv .nil pass0 (pa_cons (pv 7) (pa_cons (pv 6) pa_nil))) (nomark _)) pss_never pss_nil))
        (pssn_cut (psn_if (PWn.pt (pwn_or (PT.up (pt_cmpR (op_neD hr.units) (pe_callB (call_sortedDT rfl) (by rfl) T.srt (by decide +kernel) (pa_cons (pv 6) pa_nil)) (pe_callB (cr_sortedVT rfl) (by rfl) T.srt (by decide +kernel) (pa_cons (pe_bm0 PySem.F.plainAttrs_dict PySem.F.slot_dict_values PySem.F.type_dict_values mt_valuesT (pv 6)) pa_nil)) (nomark _)))
            (pwn_or1 (ptn_not (ptn_val (pen_call GLc r9 rfl mLc kLc pass0 (pan_cons (PE.up (pv 3)) (pan_cons (PE.up (pv 4)) (pan_cons (PE.up (pv 5)) pan_nil))))))))) (PSs.up pss_never) (PSs.up pss_nil))
        (pssn_cut (psn_par (i := 10) (j := 11) rfl nd rfl rfl (by decide) rfl rfl (pan_cons (pen_call GB r7 rfl mB kB pass0 (pan_cons (PE.up (pv 3)) (pan_cons (PE.up (pv 4)) pan_nil))) (pan_cons (pen_call GA r7 rfl mA kA pass0 (pan_cons (PE.up (pv 3)) (pan_cons (PE.up (pv 4)) (pan_cons (PE.up pe_int) pan_nil)))) pan_nil)) (by rfl))
        (pssn_cut (psn_if (PWn.pt (pwn_or (ptn_not (ptn_cmpR (op_cmpOwn (op := .Eq) (fun _ _ => rfl) hE iE GTe r1 pass0) (pen_call GA r7 rfl mA kA pass0 (pan_cons (PE.up (pv 3)) (pan_cons (PE.up (pv 4)) (pan_cons (PE.up (pe_op op_add pe_int (pv 10))) pan_nil)))) (PE.up (pv 11)) (nomark _)))
            (pwn_or1 (ptn_not (ptn_cmpR (op_cmpOwn (op := .Eq) (fun _ _ => rfl) hE iE GTe r1 pass0) (pen_call GA r7 rfl mA kA pass0 (pan_cons (PE.up (pv 3)) (pan_cons (PE.up (pv 4)) (pan_cons (PE.up (pe_op op_add (pv 5) (pv 10))) pan_nil)))) (PE.up (pv 7)) (nomark _)))))) (PSs.up pss_never) (PSs.up pss_nil))
        (pssn_cut (psn_for PassesOwn.never rfl (pi_tup (pe_tup (pa_cons pe_int (pa_cons pe_int (pa_cons pe_int (pa_cons pe_int (pa_cons pe_int (pa_cons pe_int pa_nil)))))))) (pg_name (i := 12) nd rfl (.inl rfl))
          (pssn_one (psn_if (PWn.pt (pwn_and2 (PT.up (pt_cmpR op_eq (pe_op op_modN (pe_callTy call_int1 (by rfl) T.int (by decide +kernel) (pa_cons (pv 10) pa_nil)) (pv 12)) pe_int (nomark _)))
            (pwn_and12 (ptn_cmpR (op_cmpOwn (op := .Eq) (fun _ _ => rfl) hE iE GTe r1 pass0) (pen_call GA r7 rfl mA kA pass0 (pan_cons (PE.up (pv 3)) (pan_cons (PE.up (pv 4)) (pan_cons (PE.up (pe_op op_add pe_int (pe_op op_fdivN (pv 10) (pv 12)))) pan_nil)))) (PE.up (pv 11)) (nomark _))))) (PSs.up pss_never) (PSs.up pss_nil))))
        (pssn_cut (psn_if (ptn_cmpR op_ne (pen_call GIb r8 rfl mIb kIb pass0 (pan_cons (PE.up (pv 3)) (pan_cons (PE.up (pv 4)) pan_nil))) (pen_cmpR2 (op_cmpOwn (op := .Eq) (fun _ _ => rfl) hE iE GTe r1 pass0) (pen_call GA r7 rfl mA kA pass0 (pan_cons (PE.up (pv 3)) (pan_cons (PE.up (pv 4)) (pan_cons (PE.up (pv 10)) pan_nil)))) (PE.up (pv 3)) (nomark _)) (nomark _)) (PSs.up pss_never) (PSs.up pss_nil))
        (pssn_cut (psn_set (i := 13) nd rfl (.inl rfl) (pen_callB call_len_seq (by rfl) T.len PySem.boot_len (pan_cons (pen_call GI r6 rfl mI kI pass0 (pan_cons (PE.up (pv 3)) (pan_cons (PE.up (pv 4)) pan_nil))) pan_nil)))
        (pssn_one (PS.up (ps_if (pt_cmpR op_ne (pe_cmpR op_eq (pv 10) pe_int (by rfl)) (pe_cmpR op_eq (pv 13) (pe_callB call_len_str (by rfl) T.len PySem.boot_len (pa_cons (pe_prop (pv 3) CT.cl PM GM r2 bM .nil pass0 rfl) pa_nil)) (by rfl)) (nomark _)) pss_never pss_nil)))))))))))))))
      (pssn_one (PS.up (ps_ret pe_bl)))), ?_⟩
    refine ⟨fun σ H1 => ∃ r, σ = [some (.ref a), some (.ref r), none, none, none, none, none, none, none, none, none, none, none, none] ∧ RowAt K a ns H1 r, ?_, ?_⟩
    · refine ⟨_, rfl, (by show 4 ≤ sizeLine; decide), fun p hp => ?_⟩
      exact ⟨p, rfl, 0, 0, 0, upd_same, Int.le_refl 0, (same_new hp).seq hS⟩
    rintro σ H1 ⟨r, rfl, R1⟩
    refine ⟨(3 : Int), rfl, by decide, by decide, for_range (lo := 0) (n := (3 : Int).toNat) (fun i σ H2 => ∃ v2 v3 v4 v5 v6 v7 v8 v9 v10 v11 v12 v13, σ = [some (.ref a), some (.ref r), v2, v3, v4, v5, v6, v7, v8, v9, v10, v11, v12, v13] ∧ RowAt K a ns H2 r)
      ⟨none, none, none, none, none, none, none, none, none, none, none, none, rfl, R1⟩ ?_ fun σ H2 _ => k H2⟩
    rintro i σ H2 hi ⟨v2, v3, v4, v5, v6, v7, v8, v9, v10, v11, v12, v13, rfl, R2⟩
    generalize V.int (0 + (i : Int)) = vi
    clear R1 H1 hS
    -- a tray
    refine ⟨fun σ H3 => ∃ p h w_ g, σ = [some (.ref a), some (.ref r), some vi, some (.ref p), v4, v5, v6, v7, v8, v9, v10, v11, v12, v13] ∧ VG h w_ g ∧ TrayAt K D H3 p g ∧ RowAt K a ns H3 r, ?_, ?_⟩
    · refine ⟨_, rfl, r, 24, rfl, R2, by decide, fun H3 l h w_ g hV hl R3 b3 => ?_⟩
      refine ⟨l, h, w_, g, rfl, hV, hl, fun H4 p s4 tp => ?_⟩
      exact ⟨p, h, w_, g, rfl, hV, tp, R3.same s4⟩
    rintro σ H3 ⟨p, h, w_, g, rfl, hV, tp, R3⟩
    clear R2 H2
    -- a word
    refine ⟨fun σ H4 => ∃ q t, σ = [some (.ref a), some (.ref r), some vi, some (.ref p), some (.ref q), v5, v6, v7, v8, v9, v10, v11, v12, v13] ∧ Cor K C D a ns r p q g t H4, ?_, ?_⟩
    · refine ⟨(by show 4 ≤ sizeLine; decide), fun l hl => ?_⟩
      have s4 := same_new (o := .lst [V.str (S []), V.str (S [117, 114, 100, 108]), V.str (S [108, 117, 114, 100]), V.str (S [114, 117, 108, 100])]) hl
      have hl4 : upd H3 l (.lst [V.str (S []), V.str (S [117, 114, 100, 108]), V.str (S [108, 117, 114, 100]), V.str (S [114, 117, 108, 100])]) l = some (.lst [V.str (S []), V.str (S [117, 114, 100, 108]), V.str (S [108, 117, 114, 100]), V.str (S [114, 117, 108, 100])]) := upd_same
      have lr := R3.ne hl
      have R4 := R3.same s4
      have tp4 := tp.same s4
      refine ⟨_, rfl, r, 4, rfl, R4, by decide, by decide, fun H5 j hj R5 b5 => ?_⟩
      have hl5 := b5 _ _ hl4 lr
      have key : ∃ pre : List Nat, atI [V.str (S []), V.str (S [117, 114, 100, 108]), V.str (S [108, 117, 114, 100]), V.str (S [114, 117, 108, 100])] (j : Int) = some (V.str (S pre)) ∧ pre.length ≤ 4 ∧ ∀ c ∈ pre, isT c = true := by
        have hj4 : j = 0 ∨ j = 1 ∨ j = 2 ∨ j = 3 := by omega
        rcases hj4 with rfl | rfl | rfl | rfl
        · exact ⟨[], rfl, by decide, by decide⟩
        · exact ⟨[117, 114, 100, 108], rfl, by decide, by decide⟩
        · exact ⟨[108, 117, 114, 100], rfl, by decide, by decide⟩
        · exact ⟨[114, 117, 108, 100], rfl, by decide, by decide⟩
      obtain ⟨pre, hat, hp4, hpT⟩ := key
      have tp5 : TrayAt K D H5 p g := by
        obtain ⟨_, _, _, e, _⟩ := R4
        exact tray_but2 tp4 e b5
      refine ⟨l, _, _, _, rfl, rfl, SqL.of hl5, hat, _, rfl, r, 7, rfl, R5, by decide, fun H6 u gu lu R6 b6 => ?_⟩
      have tp6 : TrayAt K D H6 p g := by
        obtain ⟨_, _, _, e, _⟩ := R5
        exact tray_but2 tp5 e b6
      refine ⟨S pre, S u, rfl, rfl, ?_, ?_⟩
      · rw [S_len, S_len]
        show _ ≤ 16777216
        omega
      rw [SX.S_cat pre u]
      have gt : Good (pre ++ u) := ⟨by rw [List.length_append]; omega, fun c hc => by
        rcases List.mem_append.mp hc with h | h
        · exact hpT c h
        · exact gu.2 c h⟩
      intro x dx nx ndx nex
      refine ⟨x, dx, pre ++ u, rfl, upd_same, gt, fun H7 hw kp => ⟨rfl, ?_⟩⟩
      have s7 := Same.made nx ndx kp
      exact ⟨x, pre ++ u, rfl, tp6.same s7, hw, R6.same s7⟩
    rintro σ H4 ⟨q, t, rfl, c4⟩
    clear tp R3 H3
    -- many rounds; the exchange
    refine ⟨fun σ H5 => ∃ (N : Nat) (d : Addr) (qa : Nat → Addr), σ = [some (.ref a), some (.ref r), some vi, some (.ref p), some (.ref q), some (.int (N : Nat)), some (.ref d), v7, v8, v9, v10, v11, v12, v13] ∧ 1 ≤ N ∧ N ≤ 10 ^ 17 ∧ Cor K C D a ns r p q g t H5 ∧ ExAt H5 d w_ (tilts h w_ t g).flatten (tilts h w_ t (tilts h w_ t g)).flatten (TP.srt (mb (tilts h w_ t g).flatten)) qa, ?_, ?_⟩
    · refine ⟨_, rfl, _, _, rfl, rfl, ⟨by decide, by decide, by decide⟩, by show 2 ≤ sizeLine; decide, fun l hl => ?_⟩
      have s5 := same_new (o := .lst [V.int 9, V.int ((10 : Int) ^ (17 : Int).toNat)]) hl
      have hl5 : upd H4 l (.lst [V.int 9, V.int ((10 : Int) ^ (17 : Int).toNat)]) l = some (.lst [V.int 9, V.int ((10 : Int) ^ (17 : Int).toNat)]) := upd_same
      have lr := c4.rw.ne hl
      have c5 := c4.same s5
      refine ⟨_, rfl, r, 2, rfl, c5.rw, by decide, by decide, fun H6 j hj R6 b6 => ?_⟩
      have c6 := c5.but b6 R6
      have hl6 := b6 _ _ hl5 lr
      have fin : ∀ m : Int, 1 ≤ m → m ≤ 10 ^ 17 → atI [V.int 9, V.int ((10 : Int) ^ (17 : Int).toNat)] (j : Int) = some (V.int m) → ∃ m : Int, 1 ≤ m ∧ m ≤ 10 ^ 17 ∧ atI [V.int 9, V.int ((10 : Int) ^ (17 : Int).toNat)] (j : Int) = some (V.int m) := fun m a b c => ⟨m, a, b, c⟩
      have key : ∃ m : Int, 1 ≤ m ∧ m ≤ 10 ^ 17 ∧ atI [V.int 9, V.int ((10 : Int) ^ (17 : Int).toNat)] (j : Int) = some (V.int m) := by
        have hj2 : j = 0 ∨ j = 1 := by omega
        rcases hj2 with rfl | rfl
        · exact fin 9 (by decide) (by decide) rfl
        · exact fin ((10 : Int) ^ (17 : Int).toNat) (by decide) (by decide) rfl
      obtain ⟨m, m1, m2, hat⟩ := key
      refine ⟨l, _, _, _, rfl, rfl, SqL.of hl6, hat, r, m, rfl, R6, m1, fun H7 y hy R7 b7 => ?_⟩
      have c7 := c6.but b7 R7
      refine ⟨_, _, rfl, rfl, ?_⟩
      refine ⟨_, rfl, _, rfl, p, q, h, w_, g, t, rfl, c7.tr, hV, c7.w1, fun H8 d qa s8 hd hEx => ?_⟩
      refine ⟨_, _, rfl, 1 + y, d, qa, ?_, by omega, by omega, c7.same s8, hEx⟩
      rw [show ((1 + y : Nat) : Int) = 1 + (y : Int) by omega]
      rfl
    rintro σ H5 ⟨N, d, qa, rfl, N1, N17, c5, hEx⟩
    clear c4 H4
    have V1 := VG.rounds (t := t) N hV
    have V2 := VG.rounds (t := t) (N + 1) hV
    -- two more trays
    refine ⟨fun σ H6 => ∃ p1 p2, σ = [some (.ref a), some (.ref r), some vi, some (.ref p), some (.ref q), some (.int (N : Nat)), some (.ref d), some (.ref p1), some (.ref p2), v9, v10, v11, v12, v13] ∧ Same H5 H6 ∧ TrayAt K D H6 p1 (rounds h w_ t N g) ∧ TrayAt K D H6 p2 (rounds h w_ t (N + 1) g), ?_, ?_⟩
    · refine ⟨_, rfl, _, rfl, _, rfl, p, q, h, w_, N, g, t, rfl, c5.tr, hV, c5.w1, Nat.le_trans N17 (by decide), fun H6 p1 s6 t1 => ?_⟩
      have c6 := c5.same s6
      refine ⟨_, rfl, _, rfl, _, rfl, _, _, rfl, rfl, p, q, h, w_, N + 1, g, t, ?_, c6.tr, hV, c6.w1, Nat.le_trans (Nat.add_le_add_right N17 1) (by decide), fun H7 p2 s7 t2 => ?_⟩
      · rw [show ((N + 1 : Nat) : Int) = (N : Int) + 1 by omega]
      refine ⟨(by show 2 ≤ sizeLine; decide), fun T_ hT => ?_⟩
      have s8 := same_new (o := .tup [V.ref p1, V.ref p2]) hT
      exact ⟨T_, _, rfl, SqT.of upd_same, rfl, _, _, rfl, _, _, rfl, rfl, p1, p2, rfl, s6.trans (s7.trans s8), t1.same (s7.trans s8), t2.same s8⟩
    rintro σ H6 ⟨p1, p2, rfl, s6, t1, t2⟩
    have c6 := c5.same s6
    have hEx6 := hEx.same s6
    clear c5 hEx s6 H5
    -- places one round later
    obtain ⟨n0, rfl⟩ : ∃ n0, N = n0 + 1 := ⟨N - 1, by omega⟩
    have hsrc : ∃ src : Nat → Nat, ∀ m ∈ mb g.flatten, src m ∈ mb (tilts h w_ t g).flatten ∧ (rounds h w_ t (n0 + 1) g).flatten.idxOf m = (tilts h w_ t g).flatten.idxOf (src m) ∧ (rounds h w_ t (n0 + 1 + 1) g).flatten.idxOf m = (tilts h w_ t (tilts h w_ t g)).flatten.idxOf (src m) :=
      ⟨fun m => if hm : m ∈ mb g.flatten then Classical.choose (exch_at (t := t) hV hm n0) else 0, fun m hm => by
        dsimp only
        rw [dif_pos hm]
        exact Classical.choose_spec (exch_at (t := t) hV hm n0)⟩
    obtain ⟨src, hsrc⟩ := hsrc
    refine ⟨fun σ H7 => σ = [some (.ref a), some (.ref r), some vi, some (.ref p), some (.ref q), some (.int ((n0 + 1 : Nat) : Int)), some (.ref d), some (.ref p1), some (.ref p2), v9, v10, v11, v12, v13] ∧ Same H6 H7, ?_, ?_⟩
    · obtain ⟨dp2, ap2, e2, _⟩ := id t2
      have eM1 : TP.srt (mb (rounds h w_ t (n0 + 1) g).flatten) = TP.srt (mb g.flatten) := srt_congr (mb_rounds hV _)
      have eM2 : TP.srt (mb (rounds h w_ t (n0 + 1 + 1) g).flatten) = TP.srt (mb g.flatten) := srt_congr (mb_rounds hV _)
      have h26 : (TP.srt (mb g.flatten)).length ≤ 26 := by
        rw [(srt_perm _).length_eq]
        exact mb_26 hV
      have ndS : (TP.srt (mb g.flatten)).Nodup := (srt_perm _).nodup_iff.mpr hV.nd
      refine ⟨_, rfl, p2, dp2, _, rfl, e2, p2, h, w_, _, rfl, t2, V2, fun H7 s7 => ⟨_, rfl, fun D1 hD1 => ?_⟩⟩
      rw [eM2]
      refine lc_it (walk_str (z := S (TP.srt (mb g.flatten)))) (fun i H2 => ∃ ps qn, Same H7 H2 ∧ PdAt H2 D1 w_ (fun m => (rounds h w_ t (n0 + 1 + 1) g).flatten.idxOf m) ((TP.srt (mb g.flatten)).take i) ps qn)
        ⟨fun _ => 0, fun _ => 0, same_new hD1, upd_same, fun m hm => by simp at hm⟩ (fun _ _ _ _ => True.intro) ?_ ?_
      · rintro i x H8 H9 hi ⟨ps, qn, s8, hP⟩ ⟨rfl, c, hc, rfl⟩
        rw [S_at] at hc
        have hcM := mem_srt.mp (List.mem_of_getElem? hc)
        have T8 := t2.same (s7.trans s8)
        obtain ⟨dp8, ap8, e8, _⟩ := id T8
        refine ⟨rfl, _, rfl, _, rfl, p2, rfl, _, rfl, ⟨dp8, _, e8⟩, call_ok T8 V2 ((mb_rounds hV _).mem_iff.mpr hcM) fun H9 q9 s9 hq hq' => ?_⟩
        refine ⟨(by show 2 ≤ sizeLine; decide), fun T_ hT => ?_⟩
        have st := same_new (o := .tup [sg c, V.ref q9]) hT
        obtain ⟨ps', qn', z1, z2⟩ := pd_step (T := T_) (q2 := q9) ndS hc hD1 ((hP.same s9).same st) ((s8.trans s9).trans st) upd_same (by rw [upd_ne (ne_of_none hq' hT)]; exact hq')
        refine ⟨_, ((hP.same s9).same st).1, ?_, ps', qn', z1, z2⟩
        rw [List.length_map, List.length_take]
        show _ < 16777216
        omega
      · rintro H8 ⟨ps, qn, s8, hP⟩
        rw [S_size, List.take_length] at hP
        obtain ⟨da, das, dkv, d1, d2, d3, d4⟩ := pd_dict2 (K := K) hP ndS
        refine ⟨da, das, dkv, d1, d2, d3, fun e9 he9 => ?_⟩
        obtain ⟨s9, qa9, hM9⟩ := d4 e9 he9
        generalize upd H8 e9 (.dK (mergeK [] dkv)) = H9 at s9 hM9
        have s69 := (s7.trans s8).trans s9
        refine ⟨_, rfl, _, rfl, p1, d, h, w_, rounds h w_ t (n0 + 1) g, _, _, _, qa, src, rfl, t1.same s69, V1, hEx6.same s69, fun x hx y hy e => ?_, fun m hm => ?_, fun H10 e10 qa10 s10 hM10 => ?_⟩
        · have a1 := (idx_at (mem_mb.mp (mem_srt.mp hx)).1).2
          have a2 := (idx_at (mem_mb.mp (mem_srt.mp hy)).1).2
          rw [e, a2] at a1
          exact (Option.some.inj a1).symm
        · have := hsrc m ((mb_rounds hV _).mem_iff.mp hm)
          exact ⟨mem_srt.mpr this.1, this.2.1⟩
        rw [eM1] at hM10
        exact md_ne (hM9.same s10) hM10 (fun m hm => (hsrc m (mem_srt.mp hm)).2.2) ⟨_, rfl, iteF ⟨rfl, s69.trans s10⟩⟩
    rintro σ H7 ⟨rfl, s7⟩
    have c7 := c6.same s7
    have hEx7 := hEx6.same s7
    replace t1 := t1.same s7
    clear c6 hEx6 t2 s7 hsrc H6
    -- the exchange's places; circles
    refine ⟨fun σ H8 => σ = [some (.ref a), some (.ref r), some vi, some (.ref p), some (.ref q), some (.int ((n0 + 1 : Nat) : Int)), some (.ref d), some (.ref p1), some (.ref p2), v9, v10, v11, v12, v13] ∧ Same H7 H8, ?_, ?_⟩
    · have hS26 : (TP.srt (mb (tilts h w_ t g).flatten)).length ≤ 26 := by
        rw [(srt_perm _).length_eq]
        exact mb_26 (VG.tilts t hV)
      refine ⟨_, rfl, d, _, (TP.srt (mb (tilts h w_ t g).flatten)).map (fun m => ((((tilts h w_ t g).flatten.idxOf m : Nat) : Int) / w_, (((tilts h w_ t g).flatten.idxOf m : Nat) : Int) % w_)), rfl, hEx7.1, ?_, fun ys zs e1 pz sz dz he1 => ?_⟩
      · rw [List.map_map, List.map_map]
        rfl
      have sa := same_new (o := .lst ys) he1
      have l1 : upd H7 e1 (.lst ys) e1 = some (.lst ys) := upd_same
      generalize upd H7 e1 (.lst ys) = H8 at sa l1
      have hEx8 := hEx7.same sa
      refine ⟨_, rfl, .inr (.inr (.inl ⟨rfl, .inr ⟨_, hEx8.1⟩⟩)), d, _, rfl, rfl, hEx8.1, fun v0 hv0 => ?_⟩
      have sb := same_new (o := valuesO v0 d) hv0
      have l2 : upd H8 v0 (valuesO v0 d) v0 = some (valuesO v0 d) := upd_same
      generalize upd H8 v0 (valuesO v0 d) = H9 at sb l2
      have hEx9 := hEx8.same sb
      refine ⟨v0, d, _, (TP.srt (mb (tilts h w_ t g).flatten)).map (fun m => ((((tilts h w_ t (tilts h w_ t g)).flatten.idxOf m : Nat) : Int) / w_, (((tilts h w_ t (tilts h w_ t g)).flatten.idxOf m : Nat) : Int) % w_)), rfl, l2, hEx9.1, ?_, fun ys' zs' e2 pz' sz' dz' he2 => ?_⟩
      · have : ∀ L : List Nat, (∀ m ∈ L, m ∈ TP.srt (mb (tilts h w_ t g).flatten)) → Paired (fun (y : List Key × V) (z : Int × Int) => ∃ a, y.2 = V.ref a ∧ H9 a = some (.tup [.int z.1, .int z.2])) (L.map fun m => (plK w_ ((tilts h w_ t g).flatten.idxOf m), V.ref (qa m))) (L.map (fun m => ((((tilts h w_ t (tilts h w_ t g)).flatten.idxOf m : Nat) : Int) / w_, (((tilts h w_ t (tilts h w_ t g)).flatten.idxOf m : Nat) : Int) % w_))) := fun L => by
          induction L with
          | nil => intro _; exact .nil
          | cons m L ih => exact fun hL => .cons ⟨_, rfl, hEx9.2 m (hL m List.mem_cons_self)⟩ (ih fun x hx => hL x (List.mem_cons_of_mem _ hx))
        exact this _ fun _ h => h
      have sc := same_new (o := .lst ys') he2
      have l3 : upd H9 e2 (.lst ys') e2 = some (.lst ys') := upd_same
      generalize upd H9 e2 (.lst ys') = H10 at sc l3
      have ez : zs = zs' := by
        refine sd_uniq (pz.trans (List.Perm.trans ?_ pz'.symm)) sz sz'
        have := (exch_perm (t := t) hV).map fun k : Nat => (((k : Nat) : Int) / w_, ((k : Nat) : Int) % w_)
        rw [List.map_map, List.map_map] at this
        exact this
      subst ez
      refine ⟨_, _, .lst (SqL.of (sc _ _ (sb _ _ l1))) (pr_same (sa.trans (sb.trans sc)) dz), .lst (SqL.of l3) (pr_same sc dz'), pr_shaped _, pr_shaped _, _, rfl, ?_⟩
      rw [pr_refl]
      refine iteF ?_
      have s710 := (sa.trans sb).trans sc
      have c10 := c7.same s710
      refine ⟨_, rfl, _, rfl, _, rfl, p, q, n0 + 1, h, w_, g, t, rfl, c10.tr, hV, c10.w1, N17, fun H11 s11 => ⟨true, rfl, iteF ⟨rfl, s710.trans s11⟩⟩⟩
    rintro σ H8 ⟨rfl, s8⟩
    have c8 := c7.same s8
    replace t1 := t1.same s8
    clear c7 hEx7 s8 H7
    -- back_after, a first round
    have hb := backN_ok (t := t) hV
    refine ⟨fun σ H9 => ∃ f1, σ = [some (.ref a), some (.ref r), some vi, some (.ref p), some (.ref q), some (.int ((n0 + 1 : Nat) : Int)), some (.ref d), some (.ref p1), some (.ref p2), v9, some (.int ((backN (cirs h w_ t g) : Nat) : Int)), some (.ref f1), v12, v13] ∧ Same H8 H9 ∧ TrayAt K D H9 f1 (rounds h w_ t 1 g), ?_, ?_⟩
    · refine ⟨_, rfl, _, rfl, p, q, h, w_, g, t, rfl, c8.tr, hV, c8.w1, fun H9 s9 => ?_⟩
      have c9 := c8.same s9
      refine ⟨_, rfl, _, rfl, p, q, h, w_, 1, g, t, rfl, c9.tr, hV, c9.w1, by decide, fun H10 f1 s10 hf1 => ?_⟩
      exact ⟨_, _, rfl, f1, rfl, s9.trans s10, hf1⟩
    rintro σ H9 ⟨f1, rfl, s9, hf1⟩
    have c9 := c8.same s9
    replace t1 := t1.same s9
    clear c8 s9 H8
    have W1 := VG.rounds (t := t) 1 hV
    generalize hbk : backN (cirs h w_ t g) = bk at hb
    -- so many rounds later the same
    have back0 : rounds h w_ t (1 + bk) g = rounds h w_ t 1 g := by
      have := back_after_same (t := t) hV 0
      rw [hbk, Nat.zero_add] at this
      exact this
    have backN0 : rounds h w_ t (n0 + 1 + bk) g = rounds h w_ t (n0 + 1) g := by
      have := back_after_same (t := t) hV n0
      rw [hbk] at this
      exact this
    have least : ∀ m, rounds h w_ t (1 + m) g = rounds h w_ t 1 g → bk ∣ m := fun m e => by
      have := back_least (t := t) hV e
      rw [hbk] at this
      exact this
    have one_ := back_one (t := t) hV
    rw [hbk] at one_
    refine ⟨fun σ H10 => σ = [some (.ref a), some (.ref r), some vi, some (.ref p), some (.ref q), some (.int ((n0 + 1 : Nat) : Int)), some (.ref d), some (.ref p1), some (.ref p2), v9, some (.int (bk : Nat)), some (.ref f1), v12, v13] ∧ Same H9 H10, ?_, ?_⟩
    · refine ⟨_, rfl, _, rfl, _, rfl, _, _, rfl, rfl, p, q, h, w_, 1 + bk, g, t, ?_, c9.tr, hV, c9.w1, Nat.le_trans (Nat.add_le_add_left hb.2 1) (by decide), fun H10 x s10 hx => ?_⟩
      · rw [show ((1 + bk : Nat) : Int) = 1 + (bk : Int) by omega]
      have c10 := c9.same s10
      have hf10 := hf1.same s10
      obtain ⟨d1, a1, e1, _⟩ := id hx
      obtain ⟨d2, a2, e2, _⟩ := id hf10
      refine ⟨_, rfl, x, d1, _, rfl, e1, .inl ⟨f1, d2, _, rfl, e2⟩, x, f1, h, w_, h, w_, _, _, rfl, hx, hf10, VG.rounds _ hV, W1, _, rfl, ?_⟩
      rw [back0, decide_eq_true rfl]
      refine iteF ?_
      refine ⟨_, rfl, _, rfl, _, rfl, _, rfl, _, _, rfl, rfl, p, q, h, w_, n0 + 1 + bk, g, t, ?_, c10.tr, hV, c10.w1, Nat.le_trans (Nat.add_le_add N17 hb.2) (by decide), fun H11 y s11 hy => ?_⟩
      · rw [show ((n0 + 1 + bk : Nat) : Int) = ((n0 + 1 : Nat) : Int) + (bk : Int) by omega]
      have t11 := t1.same (s10.trans s11)
      obtain ⟨d3, a3, e3, _⟩ := id hy
      obtain ⟨d4, a4, e4, _⟩ := id t11
      refine ⟨_, rfl, y, d3, _, rfl, e3, .inl ⟨p1, d4, _, rfl, e4⟩, y, p1, h, w_, h, w_, _, _, rfl, hy, t11, VG.rounds _ hV, VG.rounds _ hV, _, rfl, ?_⟩
      rw [backN0, decide_eq_true rfl]
      exact iteF ⟨rfl, s10.trans s11⟩
    rintro σ H10 ⟨rfl, s10⟩
    have c10 := c9.same s10
    replace hf1 := hf1.same s10
    clear c9 t1 s10 H9
    -- no part of it
    refine ⟨fun σ H11 => ∃ v12, σ = [some (.ref a), some (.ref r), some vi, some (.ref p), some (.ref q), some (.int ((n0 + 1 : Nat) : Int)), some (.ref d), some (.ref p1), some (.ref p2), v9, some (.int (bk : Nat)), some (.ref f1), v12, v13] ∧ Same H10 H11, ?_, ?_⟩
    · refine ⟨(by show 6 ≤ sizeLine; decide), fun T_ hT => ?_⟩
      have sT := same_new (o := .tup [V.int 2, V.int 3, V.int 5, V.int 7, V.int 11, V.int 13]) hT
      have lT : upd H10 T_ (.tup [V.int 2, V.int 3, V.int 5, V.int 7, V.int 11, V.int 13]) T_ = some (.tup [V.int 2, V.int 3, V.int 5, V.int 7, V.int 11, V.int 13]) := upd_same
      generalize upd H10 T_ (.tup [V.int 2, V.int 3, V.int 5, V.int 7, V.int 11, V.int 13]) = H11 at sT lT
      refine ⟨T_, rfl, ⟨_, SqT.of lT⟩, for_tup (K := K) (a := T_) (xs := [V.int 2, V.int 3, V.int 5, V.int 7, V.int 11, V.int 13]) (fun j σ H12 => ∃ v12, σ = [some (.ref a), some (.ref r), some vi, some (.ref p), some (.ref q), some (.int ((n0 + 1 : Nat) : Int)), some (.ref d), some (.ref p1), some (.ref p2), v9, some (.int (bk : Nat)), some (.ref f1), v12, v13] ∧ Same H11 H12)
        ⟨_, rfl, Same.refl H11⟩ (fun _ _ _ _ ⟨_, _, s⟩ => SqT.of (s _ _ lT)) ?_ fun σ H12 ⟨v12, e, s⟩ => ⟨v12, e, sT.trans s⟩⟩
      rintro j x σ H12 hx ⟨v12, rfl, s12⟩
      have hP : ∃ P : Nat, x = V.int (P : Nat) ∧ 2 ≤ P ∧ P ≤ 13 := by
        match j, hx with
        | 0, hx => exact ⟨2, (Option.some.inj hx).symm, by decide, by decide⟩
        | 1, hx => exact ⟨3, (Option.some.inj hx).symm, by decide, by decide⟩
        | 2, hx => exact ⟨5, (Option.some.inj hx).symm, by decide, by decide⟩
        | 3, hx => exact ⟨7, (Option.some.inj hx).symm, by decide, by decide⟩
        | 4, hx => exact ⟨11, (Option.some.inj hx).symm, by decide, by decide⟩
        | 5, hx => exact ⟨13, (Option.some.inj hx).symm, by decide, by decide⟩
        | j + 6, hx => cases hx
      obtain ⟨P_, rfl, P2, P13⟩ := hP
      have c12 := c10.same (sT.trans s12)
      have hf12 := hf1.same (sT.trans s12)
      have nxt12 : ∀ {H13 : Hp}, Same H12 H13 → ∃ v12, [some (.ref a), some (.ref r), some vi, some (.ref p), some (.ref q), some (.int ((n0 + 1 : Nat) : Int)), some (.ref d), some (.ref p1), some (.ref p2), v9, some (.int (bk : Nat)), some (.ref f1), some (V.int (P_ : Nat)), v13] = [some (.ref a), some (.ref r), some vi, some (.ref p), some (.ref q), some (.int ((n0 + 1 : Nat) : Int)), some (.ref d), some (.ref p1), some (.ref p2), v9, some (.int (bk : Nat)), some (.ref f1), v12, v13] ∧ Same H11 H13 := fun s => ⟨_, rfl, s12.trans s⟩
      refine ⟨_, rfl, .inl ⟨_, rfl, _, rfl, _, _, rfl, rfl, by omega, rfl, _, rfl, ?_⟩⟩
      have em : Int.fmod ((bk : Nat) : Int) ((P_ : Nat) : Int) = ((bk % P_ : Nat) : Int) := by
        rw [Int.fmod_eq_emod_of_nonneg _ (show (0 : Int) ≤ ((P_ : Nat) : Int) by omega)]
        rfl
      by_cases q0 : bk % P_ = 0
      · rw [show decide (V.int (Int.fmod ((bk : Nat) : Int) ((P_ : Nat) : Int)) = V.int 0) = true from decide_eq_true (by rw [em, q0]; rfl)]
        refine iteT ?_
        have ed : Int.fdiv ((bk : Nat) : Int) ((P_ : Nat) : Int) = ((bk / P_ : Nat) : Int) := by
          rw [Int.fdiv_eq_ediv_of_nonneg _ (show (0 : Int) ≤ ((P_ : Nat) : Int) by omega)]
          rfl
        have hle : bk / P_ ≤ bk := Nat.div_le_self _ _
        refine ⟨_, rfl, _, rfl, _, rfl, _, rfl, _, _, rfl, rfl, ⟨by omega, by rw [Int.natAbs_natCast]; omega⟩, _, _, rfl, rfl, p, q, h, w_, 1 + bk / P_, g, t, ?_, c12.tr, hV, c12.w1, Nat.le_trans (Nat.add_le_add_left (Nat.le_trans hle hb.2) 1) (by decide), fun H13 y s13 hy => ?_⟩
        · rw [ed, show ((1 + bk / P_ : Nat) : Int) = 1 + ((bk / P_ : Nat) : Int) by omega]
        have hf13 := hf12.same s13
        obtain ⟨d3, a3, e3, _⟩ := id hy
        obtain ⟨d4, a4, e4, _⟩ := id hf13
        refine ⟨_, rfl, y, d3, _, rfl, e3, .inl ⟨f1, d4, _, rfl, e4⟩, y, f1, h, w_, h, w_, _, _, rfl, hy, hf13, VG.rounds _ hV, W1, _, rfl, ?_⟩
        rw [decide_eq_false (fun z => by
          have d1 := least _ z
          have d2 : bk = P_ * (bk / P_) := by
            have := Nat.mod_add_div bk P_
            omega
          have pos : 0 < bk / P_ := by
            rcases Nat.eq_zero_or_pos (bk / P_) with z | z
            · rw [z, Nat.mul_zero] at d2
              omega
            · exact z
          have := Nat.le_of_dvd pos d1
          have h2 : 2 * (bk / P_) ≤ P_ * (bk / P_) := Nat.mul_le_mul_right _ P2
          omega)]
        exact iteF (nxt12 s13)
      · rw [show decide (V.int (Int.fmod ((bk : Nat) : Int) ((P_ : Nat) : Int)) = V.int 0) = false from decide_eq_false (fun z => by
          injection z with z
          rw [em] at z
          omega)]
        exact iteF (iteF (nxt12 (Same.refl H12)))
    rintro σ H11 ⟨v12', rfl, s11⟩
    have c11 := c10.same s11
    clear c10 hf1 s11 H10
    -- is_back
    refine ⟨fun σ H12 => σ = [some (.ref a), some (.ref r), some vi, some (.ref p), some (.ref q), some (.int ((n0 + 1 : Nat) : Int)), some (.ref d), some (.ref p1), some (.ref p2), v9, some (.int (bk : Nat)), some (.ref f1), v12', v13] ∧ Same H11 H12, ?_, ?_⟩
    · refine ⟨_, rfl, _, rfl, p, q, h, w_, g, t, rfl, c11.tr, hV, c11.w1, fun H12 s12 => ?_⟩
      have c12 := c11.same s12
      refine ⟨_, rfl, _, rfl, _, rfl, p, q, h, w_, bk, g, t, rfl, c12.tr, hV, c12.w1, Nat.le_trans hb.2 (by decide), fun H13 x s13 hx => ?_⟩
      have c13 := c12.same s13
      obtain ⟨d3, a3, e3, _⟩ := id hx
      obtain ⟨d4, a4, e4, _⟩ := id c13.tr
      refine ⟨_, rfl, x, d3, _, rfl, e3, .inl ⟨p, d4, _, rfl, e4⟩, x, p, h, w_, h, w_, _, _, rfl, hx, c13.tr, VG.rounds _ hV, hV, rfl, _, rfl, ?_⟩
      rw [hbk, show (!decide (V.bl (decide (rounds h w_ t bk g = g)) = V.bl (decide (rounds h w_ t bk g = g)))) = false by simp]
      exact iteF ⟨rfl, s12.trans s13⟩
    rintro σ H12 ⟨rfl, s12⟩
    have c12 := c11.same s12
    clear c11 s12 H11
    -- how many circles
    refine ⟨fun σ H13 => σ = [some (.ref a), some (.ref r), some vi, some (.ref p), some (.ref q), some (.int ((n0 + 1 : Nat) : Int)), some (.ref d), some (.ref p1), some (.ref p2), v9, some (.int (bk : Nat)), some (.ref f1), v12', some (.int ((cirs h w_ t g).length : Nat))] ∧ Same H12 H13, ?_, ?_⟩
    · refine ⟨_, rfl, _, rfl, p, q, h, w_, g, t, rfl, c12.tr, hV, c12.w1, fun H13 l s13 hl hl' => ?_⟩
      refine ⟨l, _, rfl, .inl (SqL.of hl'), ?_, s13⟩
      rw [List.length_map]
      rfl
    rintro σ H13 ⟨rfl, s13⟩
    have c13 := c12.same s13
    obtain ⟨dp, ap, ep, _⟩ := id c13.tr
    have h26 := mb_26 hV
    refine ⟨_, rfl, rfl, _, rfl, _, rfl, p, dp, _, rfl, ep, p, h, w_, g, rfl, c13.tr, hV, fun H14 s14 => ?_⟩
    have hsz : (S (TP.srt (mb g.flatten))).length ≤ sizeLine := by
      rw [S_len, (srt_perm _).length_eq]
      show _ ≤ 16777216
      omega
    refine ⟨_, rfl, hsz, rfl, rfl, _, rfl, ?_⟩
    rw [S_len, (srt_perm _).length_eq]
    have e1 : decide (V.int (bk : Nat) = V.int 1) = decide (bk = 1) := decide_eq_decide.mpr ⟨fun z => by injection z with z; omega, fun z => by rw [z]; rfl⟩
    have e2 : decide (V.int ((cirs h w_ t g).length : Nat) = V.int ((mb g.flatten).length : Nat)) = decide ((cirs h w_ t g).length = (mb g.flatten).length) := decide_eq_decide.mpr ⟨fun z => by injection z with z; omega, fun z => by rw [z]⟩
    rw [e1, e2, one_, show (!decide (V.bl (decide ((cirs h w_ t g).length = (mb g.flatten).length)) = V.bl (decide ((cirs h w_ t g).length = (mb g.flatten).length)))) = false by simp]
    exact iteF ⟨_, _, _, _, _, _, _, _, _, _, _, _, rfl, c13.rw.same s14⟩
end
end TR
end
section
set_option Elab.async false
set_option maxRecDepth 100000
set_option linter.all false
namespace TR
open PySem PySem.Spec PyProof.Rows L2 LamX TM TX TK TB TP TH TU TW
set_option maxHeartbeats 1000000
theorem all_mk {P : Program} {w : World} {K : PySem.W.Frag} {h : Heap} {mg : Str → Option Value} {fa : Addr} {C D fNu fCm fPl fCn fCv fIt fFw fWi fWt qWt fTi fTo qTo fMb qMb fHt qHt fWd qWd fAt fCl fTc fRs fTe fFc fIr fTd fSl fEx fCi fCf fAr fBk fTk fGr fRw fTx fTy fMa fIb fMv fLc fLw e2 fIx2 cc2 cdIx2 N2 e3 : Addr} {tAR tAC t0 tLE tMS tMR tMX : Tok} {zAR zAC zEM zLE : Str} {iMS iMR iMX : Int}
    {odNu anNu : Option Addr} {slNu : Array (Option Value)} {ocNu kVNu dcNu pmNu cdNu ctNu : Value} {odCm anCm : Option Addr} {slCm : Array (Option Value)} {ocCm kVCm dcCm pmCm cdCm ctCm : Value} {odPl anPl : Option Addr} {slPl : Array (Option Value)} {ocPl kVPl dcPl pmPl cdPl ctPl : Value} {odCn anCn : Option Addr} {slCn : Array (Option Value)} {ocCn kVCn dcCn pmCn cdCn ctCn : Value} {odCv anCv : Option Addr} {slCv : Array (Option Value)} {ocCv kVCv dcCv pmCv cdCv ctCv : Value} {odIt anIt : Option Addr} {slIt : Array (Option Value)} {ocIt kVIt dcIt pmIt cdIt ctIt : Value} {odFw anFw : Option Addr} {slFw : Array (Option Value)} {ocFw kVFw dcFw pmFw cdFw ctFw : Value} {odWi anWi : Option Addr} {slWi : Array (Option Value)} {ocWi kVWi dcWi pmWi cdWi ctWi : Value} {rWt : List Value} {odWt anWt : Option Addr} {slWt : Array (Option Value)} {ocWt kVWt dcWt pmWt cdWt ctWt : Value} {odTi anTi : Option Addr} {slTi : Array (Option Value)} {ocTi kVTi dcTi pmTi cdTi ctTi : Value} {rTo : List Value} {odTo anTo : Option Addr} {slTo : Array (Option Value)} {ocTo kVTo dcTo pmTo cdTo ctTo : Value} {rMb : List Value} {odMb anMb : Option Addr} {slMb : Array (Option Value)} {ocMb kVMb dcMb pmMb cdMb ctMb : Value} {rHt : List Value} {odHt anHt : Option Addr} {slHt : Array (Option Value)} {ocHt kVHt dcHt pmHt cdHt ctHt : Value} {rWd : List Value} {odWd anWd : Option Addr} {slWd : Array (Option Value)} {ocWd kVWd dcWd pmWd cdWd ctWd : Value} {odAt anAt : Option Addr} {slAt : Array (Option Value)} {ocAt kVAt dcAt pmAt cdAt ctAt : Value} {odCl anCl : Option Addr} {slCl : Array (Option Value)} {ocCl kVCl dcCl pmCl cdCl ctCl : Value} {odTc anTc : Option Addr} {slTc : Array (Option Value)} {ocTc kVTc dcTc pmTc cdTc ctTc : Value} {odRs anRs : Option Addr} {slRs : Array (Option Value)} {ocRs kVRs dcRs pmRs cdRs ctRs : Value} {odTe anTe : Option Addr} {slTe : Array (Option Value)} {ocTe kVTe dcTe pmTe cdTe ctTe : Value} {odFc anFc : Option Addr} {slFc : Array (Option Value)} {ocFc kVFc dcFc pmFc cdFc ctFc : Value} {odIr anIr : Option Addr} {slIr : Array (Option Value)} {ocIr kVIr dcIr pmIr cdIr ctIr : Value} {odTd anTd : Option Addr} {slTd : Array (Option Value)} {ocTd kVTd dcTd pmTd cdTd ctTd : Value} {odSl anSl : Option Addr} {slSl : Array (Option Value)} {ocSl kVSl dcSl pmSl cdSl ctSl : Value} {odEx anEx : Option Addr} {slEx : Array (Option Value)} {ocEx kVEx dcEx pmEx cdEx ctEx : Value} {odCi anCi : Option Addr} {slCi : Array (Option Value)} {ocCi kVCi dcCi pmCi cdCi ctCi : Value} {odCf anCf : Option Addr} {slCf : Array (Option Value)} {ocCf kVCf dcCf pmCf cdCf ctCf : Value} {odAr anAr : Option Addr} {slAr : Array (Option Value)} {ocAr kVAr dcAr pmAr cdAr ctAr : Value} {odBk anBk : Option Addr} {slBk : Array (Option Value)} {ocBk kVBk dcBk pmBk cdBk ctBk : Value} {odTk anTk : Option Addr} {slTk : Array (Option Value)} {ocTk kVTk dcTk pmTk cdTk ctTk : Value} {odGr anGr : Option Addr} {slGr : Array (Option Value)} {ocGr kVGr dcGr pmGr cdGr ctGr : Value} {odRw anRw : Option Addr} {slRw : Array (Option Value)} {ocRw kVRw dcRw pmRw cdRw ctRw : Value} {odTx anTx : Option Addr} {slTx : Array (Option Value)} {ocTx kVTx dcTx pmTx cdTx ctTx : Value} {odTy anTy : Option Addr} {slTy : Array (Option Value)} {ocTy kVTy dcTy pmTy cdTy ctTy : Value} {odMa anMa : Option Addr} {slMa : Array (Option Value)} {ocMa kVMa dcMa pmMa cdMa ctMa : Value} {odIb anIb : Option Addr} {slIb : Array (Option Value)} {ocIb kVIb dcIb pmIb cdIb ctIb : Value} {odMv anMv : Option Addr} {slMv : Array (Option Value)} {ocMv kVMv dcMv pmMv cdMv ctMv : Value} {odLc anLc : Option Addr} {slLc : Array (Option Value)} {ocLc kVLc dcLc pmLc cdLc ctLc : Value} {odLw anLw : Option Addr} {slLw : Array (Option Value)} {ocLw kVLw dcLw pmLw cdLw ctLw : Value} {cdC : ClassData} {tfX2 : Tok} {fileX2 nm2 q2 : Str} {bs2 bm2 sub2 : List Value} {sn2 : List Str} {ab2 : Bool} {col2 : Option Bool} {dd2 : Option Addr} {m02 m12 m22 m32 m52 : Option Value} {odIx2 anIx2 cdd2 cld02 : Option Addr} {slIx2 ccs2 csl02 : Array (Option Value)} {vsx2 : Array Value} {ocIx2 kVIx2 dcIx2 pmIx2 ctIx2 ccl2 cl02 : Value}
    (X : K.In h) (G : h.Ns mainGlobals mg) (hfa : mg "law" = some (.ref fa))
    (aC : PySem.W.nsIn K mainGlobals "Word" = some (some (.ref C)))
    (pgC : PySem.W.plainGet K C Str.empty = true)
    (hdC : PySem.W.hasDictIn K C = true)
    (poC : PySem.W.plainOver K C = true)
    (saC : PySem.W.findIn K (.ref C) "__setattr__" = some (some (.builtin "object.__setattr__")))
    (mkC : PySem.W.makesIn K C = true)
    (kcC : PySem.W.keepIn K (.ref C) = true)
    (rdC : PySem.W.readsIn K C (.type "type") = true)
    (gaC : PySem.W.specialIn K (.ref C) "__getattribute__" = some (some (.builtin "type.__getattribute__")))
    (aD : PySem.W.nsIn K mainGlobals "Tray" = some (some (.ref D)))
    (pgD : PySem.W.plainGet K D Str.empty = true)
    (hdD : PySem.W.hasDictIn K D = true)
    (poD : PySem.W.plainOver K D = true)
    (saD : PySem.W.findIn K (.ref D) "__setattr__" = some (some (.builtin "object.__setattr__")))
    (mkD : PySem.W.makesIn K D = true)
    (kcD : PySem.W.keepIn K (.ref D) = true)
    (rdD : PySem.W.readsIn K D (.type "type") = true)
    (gaD : PySem.W.specialIn K (.ref D) "__getattribute__" = some (some (.builtin "type.__getattribute__")))
    (cAR : PySem.W.nsIn K mainGlobals "ALONG_ROWS" = some (some (.str zAR tAR)))
    (cAC : PySem.W.nsIn K mainGlobals "ALONG_COLUMNS" = some (some (.str zAC tAC)))
    (cEM : PySem.W.nsIn K mainGlobals "EMPTY" = some (some (.str zEM t0)))
    (cLE : PySem.W.nsIn K mainGlobals "LETTERS" = some (some (.str zLE tLE)))
    (cMS : PySem.W.nsIn K mainGlobals "MAX_SIDE" = some (some (.int iMS tMS)))
    (cMR : PySem.W.nsIn K mainGlobals "MAX_ROUNDS" = some (some (.int iMR tMR)))
    (b_len : PySem.W.nsIn K mainGlobals "len" = some (none))
    (b_isinstance : PySem.W.nsIn K mainGlobals "isinstance" = some (none))
    (b_str : PySem.W.nsIn K mainGlobals "str" = some (none))
    (b_enumerate : PySem.W.nsIn K mainGlobals "enumerate" = some (none))
    (b_set : PySem.W.nsIn K mainGlobals "set" = some (none))
    (b_zip : PySem.W.nsIn K mainGlobals "zip" = some (none))
    (b_tuple : PySem.W.nsIn K mainGlobals "tuple" = some (none))
    (b_int : PySem.W.nsIn K mainGlobals "int" = some (none))
    (b_range : PySem.W.nsIn K mainGlobals "range" = some (none))
    (b_min : PySem.W.nsIn K mainGlobals "min" = some (none))
    (b_list : PySem.W.nsIn K mainGlobals "list" = some (none))
    (b_bool : PySem.W.nsIn K mainGlobals "bool" = some (none))
    (b_dict : PySem.W.nsIn K mainGlobals "dict" = some (none))
    (b_sorted : PySem.W.nsIn K mainGlobals "sorted" = some (none))
    (b_divmod : PySem.W.nsIn K mainGlobals "divmod" = some (none))
    (b_super : PySem.W.nsIn K mainGlobals "super" = some (none))
    (lcm : PySem.W.nsIn K mainGlobals "lcm" = some (some (.builtin "math.lcm")))
    (nT : PySem.W.findIn K (.ref C) "_text" = some none)
    (nR : PySem.W.findIn K (.ref D) "_rows" = some none)
    (ih : PySem.W.findIn K (.ref C) "__class__" = some (some (.builtin "object.__class__")))
    (in_ : PySem.W.specialIn K (.builtin "object.__class__") "__get__" = some (some (.builtin "getset_descriptor.__get__")))
    (itk : PySem.W.takesIn K (.builtin "object.__class__") = some true)
    (im : PySem.W.mroIn K C (.type "object") = some true)
    (mx : PySem.W.findCls K (.ref C) (.type "type") "MAX_TILTS" = some (.val (.int iMX tMX)))
    (aNu : PySem.W.nsIn K mainGlobals "is_number" = some (some (.ref fNu)))
    (lNu : K.lookup fNu = some ⟨ocNu, odNu, .func (PySem.W.fnOf "is_number" "is_number" (defArgs sIsNumber) (defBody sIsNumber) (defScope sIsNumber) .none kVNu dcNu pmNu anNu cdNu ctNu), slNu⟩)
    (cNu : PySem.W.codeIn K cdNu "is_number" = true)
    (kNu : PySem.W.keepIn K (.ref fNu) = true)
    (aCm : PySem.W.nsIn K mainGlobals "check_marble" = some (some (.ref fCm)))
    (lCm : K.lookup fCm = some ⟨ocCm, odCm, .func (PySem.W.fnOf "check_marble" "check_marble" (defArgs sCheckMarble) (defBody sCheckMarble) (defScope sCheckMarble) .none kVCm dcCm pmCm anCm cdCm ctCm), slCm⟩)
    (cCm : PySem.W.codeIn K cdCm "check_marble" = true)
    (kCm : PySem.W.keepIn K (.ref fCm) = true)
    (aPl : PySem.W.nsIn K mainGlobals "is_place" = some (some (.ref fPl)))
    (lPl : K.lookup fPl = some ⟨ocPl, odPl, .func (PySem.W.fnOf "is_place" "is_place" (defArgs sIsPlace) (defBody sIsPlace) (defScope sIsPlace) .none kVPl dcPl pmPl anPl cdPl ctPl), slPl⟩)
    (cPl : PySem.W.codeIn K cdPl "is_place" = true)
    (kPl : PySem.W.keepIn K (.ref fPl) = true)
    (aCn : PySem.W.nsIn K mainGlobals "check_number" = some (some (.ref fCn)))
    (lCn : K.lookup fCn = some ⟨ocCn, odCn, .func (PySem.W.fnOf "check_number" "check_number" (defArgs sCheckNumber) (defBody sCheckNumber) (defScope sCheckNumber) .none kVCn dcCn pmCn anCn cdCn ctCn), slCn⟩)
    (cCn : PySem.W.codeIn K cdCn "check_number" = true)
    (kCn : PySem.W.keepIn K (.ref fCn) = true)
    (aCv : PySem.W.nsIn K mainGlobals "check_place" = some (some (.ref fCv)))
    (lCv : K.lookup fCv = some ⟨ocCv, odCv, .func (PySem.W.fnOf "check_place" "check_place" (defArgs sCheckPlace) (defBody sCheckPlace) (defScope sCheckPlace) .none kVCv dcCv pmCv anCv cdCv ctCv), slCv⟩)
    (cCv : PySem.W.codeIn K cdCv "check_place" = true)
    (kCv : PySem.W.keepIn K (.ref fCv) = true)
    (aIt : PySem.W.nsIn K mainGlobals "is_tilt" = some (some (.ref fIt)))
    (lIt : K.lookup fIt = some ⟨ocIt, odIt, .func (PySem.W.fnOf "is_tilt" "is_tilt" (defArgs sIsTilt) (defBody sIsTilt) (defScope sIsTilt) .none kVIt dcIt pmIt anIt cdIt ctIt), slIt⟩)
    (cIt : PySem.W.codeIn K cdIt "is_tilt" = true)
    (kIt : PySem.W.keepIn K (.ref fIt) = true)
    (aFw : PySem.W.nsIn K mainGlobals "_first_wrong_index" = some (some (.ref fFw)))
    (lFw : K.lookup fFw = some ⟨ocFw, odFw, .func (PySem.W.fnOf "_first_wrong_index" "_first_wrong_index" (defArgs sFirstWrongIndex) (defBody sFirstWrongIndex) (defScope sFirstWrongIndex) .none kVFw dcFw pmFw anFw cdFw ctFw), slFw⟩)
    (cFw : PySem.W.codeIn K cdFw "_first_wrong_index" = true)
    (kFw : PySem.W.keepIn K (.ref fFw) = true)
    (aWi : PySem.W.findIn K (.ref C) "__init__" = some (some (.ref fWi)))
    (iWi : PySem.W.isFn K (.ref fWi) = true)
    (lWi : K.lookup fWi = some ⟨ocWi, odWi, .func (PySem.W.fnOf "__init__" "Word.__init__" (defArgs sWordInit) (defBody sWordInit) (defScope sWordInit) .none kVWi dcWi pmWi anWi cdWi ctWi), slWi⟩)
    (cWi : PySem.W.codeIn K cdWi "Word.__init__" = true)
    (kWi : PySem.W.keepIn K (.ref fWi) = true)
    (pWt : PySem.W.findIn K (.ref C) "text" = some (some (.ref qWt)))
    (pgtWt : PySem.W.specialIn K (.ref qWt) "__get__" = some (some (.builtin "property.__get__")))
    (ptkWt : PySem.W.takesIn K (.ref qWt) = some true)
    (aWt : PySem.W.recIn K qWt "property" = some (.ref fWt :: rWt))
    (lWt : K.lookup fWt = some ⟨ocWt, odWt, .func (PySem.W.fnOf "text" "Word.text" (defArgs sWordText) (defBody sWordText) (defScope sWordText) .none kVWt dcWt pmWt anWt cdWt ctWt), slWt⟩)
    (cWt : PySem.W.codeIn K cdWt "Word.text" = true)
    (kWt : PySem.W.keepIn K (.ref fWt) = true)
    (aTi : PySem.W.findIn K (.ref D) "__init__" = some (some (.ref fTi)))
    (iTi : PySem.W.isFn K (.ref fTi) = true)
    (lTi : K.lookup fTi = some ⟨ocTi, odTi, .func (PySem.W.fnOf "__init__" "Tray.__init__" (defArgs sTrayInit) (defBody sTrayInit) (defScope sTrayInit) .none kVTi dcTi pmTi anTi cdTi ctTi), slTi⟩)
    (cTi : PySem.W.codeIn K cdTi "Tray.__init__" = true)
    (kTi : PySem.W.keepIn K (.ref fTi) = true)
    (pTo : PySem.W.findCls K (.ref D) (.type "type") "of_text" = some (.get (.builtin "classmethod.__get__") (.ref qTo) .none (.ref D)))
    (aTo : PySem.W.recIn K qTo "classmethod" = some (.ref fTo :: rTo))
    (fiTo : PySem.W.fnIn K fTo = true)
    (lTo : K.lookup fTo = some ⟨ocTo, odTo, .func (PySem.W.fnOf "of_text" "Tray.of_text" (defArgs sTrayOfText) (defBody sTrayOfText) (defScope sTrayOfText) .none kVTo dcTo pmTo anTo cdTo ctTo), slTo⟩)
    (cTo : PySem.W.codeIn K cdTo "Tray.of_text" = true)
    (kTo : PySem.W.keepIn K (.ref fTo) = true)
    (pMb : PySem.W.findIn K (.ref D) "marbles" = some (some (.ref qMb)))
    (pgtMb : PySem.W.specialIn K (.ref qMb) "__get__" = some (some (.builtin "property.__get__")))
    (ptkMb : PySem.W.takesIn K (.ref qMb) = some true)
    (aMb : PySem.W.recIn K qMb "property" = some (.ref fMb :: rMb))
    (lMb : K.lookup fMb = some ⟨ocMb, odMb, .func (PySem.W.fnOf "marbles" "Tray.marbles" (defArgs sTrayMarbles) (defBody sTrayMarbles) (defScope sTrayMarbles) .none kVMb dcMb pmMb anMb cdMb ctMb), slMb⟩)
    (cMb : PySem.W.codeIn K cdMb "Tray.marbles" = true)
    (kMb : PySem.W.keepIn K (.ref fMb) = true)
    (pHt : PySem.W.findIn K (.ref D) "height" = some (some (.ref qHt)))
    (pgtHt : PySem.W.specialIn K (.ref qHt) "__get__" = some (some (.builtin "property.__get__")))
    (ptkHt : PySem.W.takesIn K (.ref qHt) = some true)
    (aHt : PySem.W.recIn K qHt "property" = some (.ref fHt :: rHt))
    (lHt : K.lookup fHt = some ⟨ocHt, odHt, .func (PySem.W.fnOf "height" "Tray.height" (defArgs sTrayHeight) (defBody sTrayHeight) (defScope sTrayHeight) .none kVHt dcHt pmHt anHt cdHt ctHt), slHt⟩)
    (cHt : PySem.W.codeIn K cdHt "Tray.height" = true)
    (kHt : PySem.W.keepIn K (.ref fHt) = true)
    (pWd : PySem.W.findIn K (.ref D) "width" = some (some (.ref qWd)))
    (pgtWd : PySem.W.specialIn K (.ref qWd) "__get__" = some (some (.builtin "property.__get__")))
    (ptkWd : PySem.W.takesIn K (.ref qWd) = some true)
    (aWd : PySem.W.recIn K qWd "property" = some (.ref fWd :: rWd))
    (lWd : K.lookup fWd = some ⟨ocWd, odWd, .func (PySem.W.fnOf "width" "Tray.width" (defArgs sTrayWidth) (defBody sTrayWidth) (defScope sTrayWidth) .none kVWd dcWd pmWd anWd cdWd ctWd), slWd⟩)
    (cWd : PySem.W.codeIn K cdWd "Tray.width" = true)
    (kWd : PySem.W.keepIn K (.ref fWd) = true)
    (aAt : PySem.W.findIn K (.ref D) "at" = some (some (.ref fAt)))
    (iAt : PySem.W.isFn K (.ref fAt) = true)
    (lAt : K.lookup fAt = some ⟨ocAt, odAt, .func (PySem.W.fnOf "at" "Tray.at" (defArgs sTrayAt) (defBody sTrayAt) (defScope sTrayAt) .none kVAt dcAt pmAt anAt cdAt ctAt), slAt⟩)
    (cAt : PySem.W.codeIn K cdAt "Tray.at" = true)
    (kAt : PySem.W.keepIn K (.ref fAt) = true)
    (aCl : PySem.W.findIn K (.ref D) "__call__" = some (some (.ref fCl)))
    (iCl : PySem.W.isFn K (.ref fCl) = true)
    (lCl : K.lookup fCl = some ⟨ocCl, odCl, .func (PySem.W.fnOf "__call__" "Tray.__call__" (defArgs sTrayCall) (defBody sTrayCall) (defScope sTrayCall) .none kVCl dcCl pmCl anCl cdCl ctCl), slCl⟩)
    (cCl : PySem.W.codeIn K cdCl "Tray.__call__" = true)
    (kCl : PySem.W.keepIn K (.ref fCl) = true)
    (aTc : PySem.W.findIn K (.ref D) "__contains__" = some (some (.ref fTc)))
    (iTc : PySem.W.isFn K (.ref fTc) = true)
    (lTc : K.lookup fTc = some ⟨ocTc, odTc, .func (PySem.W.fnOf "__contains__" "Tray.__contains__" (defArgs sTrayContains) (defBody sTrayContains) (defScope sTrayContains) .none kVTc dcTc pmTc anTc cdTc ctTc), slTc⟩)
    (cTc : PySem.W.codeIn K cdTc "Tray.__contains__" = true)
    (kTc : PySem.W.keepIn K (.ref fTc) = true)
    (aRs : PySem.W.findIn K (.ref D) "__rshift__" = some (some (.ref fRs)))
    (iRs : PySem.W.isFn K (.ref fRs) = true)
    (lRs : K.lookup fRs = some ⟨ocRs, odRs, .func (PySem.W.fnOf "__rshift__" "Tray.__rshift__" (defArgs sTrayRshift) (defBody sTrayRshift) (defScope sTrayRshift) .none kVRs dcRs pmRs anRs cdRs ctRs), slRs⟩)
    (cRs : PySem.W.codeIn K cdRs "Tray.__rshift__" = true)
    (kRs : PySem.W.keepIn K (.ref fRs) = true)
    (aTe : PySem.W.findIn K (.ref D) "__eq__" = some (some (.ref fTe)))
    (iTe : PySem.W.isFn K (.ref fTe) = true)
    (lTe : K.lookup fTe = some ⟨ocTe, odTe, .func (PySem.W.fnOf "__eq__" "Tray.__eq__" (defArgs sTrayEq) (defBody sTrayEq) (defScope sTrayEq) .none kVTe dcTe pmTe anTe cdTe ctTe), slTe⟩)
    (cTe : PySem.W.codeIn K cdTe "Tray.__eq__" = true)
    (kTe : PySem.W.keepIn K (.ref fTe) = true)
    (aFc : PySem.W.nsIn K mainGlobals "_first_wrong_cell" = some (some (.ref fFc)))
    (lFc : K.lookup fFc = some ⟨ocFc, odFc, .func (PySem.W.fnOf "_first_wrong_cell" "_first_wrong_cell" (defArgs sFirstWrongCell) (defBody sFirstWrongCell) (defScope sFirstWrongCell) .none kVFc dcFc pmFc anFc cdFc ctFc), slFc⟩)
    (cFc : PySem.W.codeIn K cdFc "_first_wrong_cell" = true)
    (kFc : PySem.W.keepIn K (.ref fFc) = true)
    (aIr : PySem.W.nsIn K mainGlobals "_is_row" = some (some (.ref fIr)))
    (lIr : K.lookup fIr = some ⟨ocIr, odIr, .func (PySem.W.fnOf "_is_row" "_is_row" (defArgs sIsRow) (defBody sIsRow) (defScope sIsRow) .none kVIr dcIr pmIr anIr cdIr ctIr), slIr⟩)
    (cIr : PySem.W.codeIn K cdIr "_is_row" = true)
    (kIr : PySem.W.keepIn K (.ref fIr) = true)
    (aTd : PySem.W.nsIn K mainGlobals "_tilted" = some (some (.ref fTd)))
    (lTd : K.lookup fTd = some ⟨ocTd, odTd, .func (PySem.W.fnOf "_tilted" "_tilted" (defArgs sTilted) (defBody sTilted) (defScope sTilted) .none kVTd dcTd pmTd anTd cdTd ctTd), slTd⟩)
    (cTd : PySem.W.codeIn K cdTd "_tilted" = true)
    (kTd : PySem.W.keepIn K (.ref fTd) = true)
    (aSl : PySem.W.nsIn K mainGlobals "_slid" = some (some (.ref fSl)))
    (lSl : K.lookup fSl = some ⟨ocSl, odSl, .func (PySem.W.fnOf "_slid" "_slid" (defArgs sSlid) (defBody sSlid) (defScope sSlid) .none kVSl dcSl pmSl anSl cdSl ctSl), slSl⟩)
    (cSl : PySem.W.codeIn K cdSl "_slid" = true)
    (kSl : PySem.W.keepIn K (.ref fSl) = true)
    (aEx : PySem.W.nsIn K mainGlobals "exchange" = some (some (.ref fEx)))
    (lEx : K.lookup fEx = some ⟨ocEx, odEx, .func (PySem.W.fnOf "exchange" "exchange" (defArgs sExchange) (defBody sExchange) (defScope sExchange) .none kVEx dcEx pmEx anEx cdEx ctEx), slEx⟩)
    (cEx : PySem.W.codeIn K cdEx "exchange" = true)
    (kEx : PySem.W.keepIn K (.ref fEx) = true)
    (aCi : PySem.W.nsIn K mainGlobals "circles" = some (some (.ref fCi)))
    (lCi : K.lookup fCi = some ⟨ocCi, odCi, .func (PySem.W.fnOf "circles" "circles" (defArgs sCircles) (defBody sCircles) (defScope sCircles) .none kVCi dcCi pmCi anCi cdCi ctCi), slCi⟩)
    (cCi : PySem.W.codeIn K cdCi "circles" = true)
    (kCi : PySem.W.keepIn K (.ref fCi) = true)
    (aCf : PySem.W.nsIn K mainGlobals "_circle_from" = some (some (.ref fCf)))
    (lCf : K.lookup fCf = some ⟨ocCf, odCf, .func (PySem.W.fnOf "_circle_from" "_circle_from" (defArgs sCircleFrom) (defBody sCircleFrom) (defScope sCircleFrom) .none kVCf dcCf pmCf anCf cdCf ctCf), slCf⟩)
    (cCf : PySem.W.codeIn K cdCf "_circle_from" = true)
    (kCf : PySem.W.keepIn K (.ref fCf) = true)
    (aAr : PySem.W.nsIn K mainGlobals "after_rounds" = some (some (.ref fAr)))
    (lAr : K.lookup fAr = some ⟨ocAr, odAr, .func (PySem.W.fnOf "after_rounds" "after_rounds" (defArgs sAfterRounds) (defBody sAfterRounds) (defScope sAfterRounds) .none kVAr dcAr pmAr anAr cdAr ctAr), slAr⟩)
    (cAr : PySem.W.codeIn K cdAr "after_rounds" = true)
    (kAr : PySem.W.keepIn K (.ref fAr) = true)
    (aBk : PySem.W.nsIn K mainGlobals "back_after" = some (some (.ref fBk)))
    (lBk : K.lookup fBk = some ⟨ocBk, odBk, .func (PySem.W.fnOf "back_after" "back_after" (defArgs sBackAfter) (defBody sBackAfter) (defScope sBackAfter) .none kVBk dcBk pmBk anBk cdBk ctBk), slBk⟩)
    (cBk : PySem.W.codeIn K cdBk "back_after" = true)
    (kBk : PySem.W.keepIn K (.ref fBk) = true)
    (aTk : PySem.W.nsIn K mainGlobals "_law_taken" = some (some (.ref fTk)))
    (lTk : K.lookup fTk = some ⟨ocTk, odTk, .func (PySem.W.fnOf "_law_taken" "_law_taken" (defArgs sLawTaken) (defBody sLawTaken) (defScope sLawTaken) .none kVTk dcTk pmTk anTk cdTk ctTk), slTk⟩)
    (cTk : PySem.W.codeIn K cdTk "_law_taken" = true)
    (kTk : PySem.W.keepIn K (.ref fTk) = true)
    (aGr : PySem.W.nsIn K mainGlobals "_law_great" = some (some (.ref fGr)))
    (lGr : K.lookup fGr = some ⟨ocGr, odGr, .func (PySem.W.fnOf "_law_great" "_law_great" (defArgs sLawGreat) (defBody sLawGreat) (defScope sLawGreat) .none kVGr dcGr pmGr anGr cdGr ctGr), slGr⟩)
    (cGr : PySem.W.codeIn K cdGr "_law_great" = true)
    (kGr : PySem.W.keepIn K (.ref fGr) = true)
    (aRw : PySem.W.nsIn K mainGlobals "_law_rows" = some (some (.ref fRw)))
    (lRw : K.lookup fRw = some ⟨ocRw, odRw, .func (PySem.W.fnOf "_law_rows" "_law_rows" (defArgs sLawRows) (defBody sLawRows) (defScope sLawRows) .none kVRw dcRw pmRw anRw cdRw ctRw), slRw⟩)
    (cRw : PySem.W.codeIn K cdRw "_law_rows" = true)
    (kRw : PySem.W.keepIn K (.ref fRw) = true)
    (aTx : PySem.W.nsIn K mainGlobals "_law_text" = some (some (.ref fTx)))
    (lTx : K.lookup fTx = some ⟨ocTx, odTx, .func (PySem.W.fnOf "_law_text" "_law_text" (defArgs sLawText) (defBody sLawText) (defScope sLawText) .none kVTx dcTx pmTx anTx cdTx ctTx), slTx⟩)
    (cTx : PySem.W.codeIn K cdTx "_law_text" = true)
    (kTx : PySem.W.keepIn K (.ref fTx) = true)
    (aTy : PySem.W.nsIn K mainGlobals "_law_tray" = some (some (.ref fTy)))
    (lTy : K.lookup fTy = some ⟨ocTy, odTy, .func (PySem.W.fnOf "_law_tray" "_law_tray" (defArgs sLawTray) (defBody sLawTray) (defScope sLawTray) .none kVTy dcTy pmTy anTy cdTy ctTy), slTy⟩)
    (cTy : PySem.W.codeIn K cdTy "_law_tray" = true)
    (kTy : PySem.W.keepIn K (.ref fTy) = true)
    (aMa : PySem.W.nsIn K mainGlobals "marble_after" = some (some (.ref fMa)))
    (lMa : K.lookup fMa = some ⟨ocMa, odMa, .func (PySem.W.fnOf "marble_after" "marble_after" (defArgs sMarbleAfter) (defBody sMarbleAfter) (defScope sMarbleAfter) .none kVMa dcMa pmMa anMa cdMa ctMa), slMa⟩)
    (cMa : PySem.W.codeIn K cdMa "marble_after" = true)
    (kMa : PySem.W.keepIn K (.ref fMa) = true)
    (aIb : PySem.W.nsIn K mainGlobals "is_back" = some (some (.ref fIb)))
    (lIb : K.lookup fIb = some ⟨ocIb, odIb, .func (PySem.W.fnOf "is_back" "is_back" (defArgs sIsBack) (defBody sIsBack) (defScope sIsBack) .none kVIb dcIb pmIb anIb cdIb ctIb), slIb⟩)
    (cIb : PySem.W.codeIn K cdIb "is_back" = true)
    (kIb : PySem.W.keepIn K (.ref fIb) = true)
    (aMv : PySem.W.nsIn K mainGlobals "_law_moved" = some (some (.ref fMv)))
    (lMv : K.lookup fMv = some ⟨ocMv, odMv, .func (PySem.W.fnOf "_law_moved" "_law_moved" (defArgs sLawMoved) (defBody sLawMoved) (defScope sLawMoved) .none kVMv dcMv pmMv anMv cdMv ctMv), slMv⟩)
    (cMv : PySem.W.codeIn K cdMv "_law_moved" = true)
    (kMv : PySem.W.keepIn K (.ref fMv) = true)
    (aLc : PySem.W.nsIn K mainGlobals "_law_are_circles" = some (some (.ref fLc)))
    (lLc : K.lookup fLc = some ⟨ocLc, odLc, .func (PySem.W.fnOf "_law_are_circles" "_law_are_circles" (defArgs sLawAreCircles) (defBody sLawAreCircles) (defScope sLawAreCircles) .none kVLc dcLc pmLc anLc cdLc ctLc), slLc⟩)
    (cLc : PySem.W.codeIn K cdLc "_law_are_circles" = true)
    (kLc : PySem.W.keepIn K (.ref fLc) = true)
    (aLw : PySem.W.nsIn K mainGlobals "law" = some (some (.ref fLw)))
    (lLw : K.lookup fLw = some ⟨ocLw, odLw, .func (PySem.W.fnOf "law" "law" (defArgs sLaw) (defBody sLaw) (defScope sLaw) .none kVLw dcLw pmLw anLw cdLw ctLw), slLw⟩)
    (cLw : PySem.W.codeIn K cdLw "law" = true)
    (kLw : PySem.W.keepIn K (.ref fLw) = true)
    (fnCl : PySem.W.fnIn K fCl = true)
    (sf : PySem.W.selfFirst K D = true)
    (nc : PySem.W.clsIn K C = some cdC)
    (nm : cdC.mro = [.ref C, .type "object"])
    (n1 : PySem.W.findIn K (.ref C) "__rshift__" = some none)
    (n2 : PySem.W.findIn K (.ref C) "__rrshift__" = some none)
    (n3 : PySem.W.findIn K (.type "object") "__rshift__" = some none)
    (n4 : PySem.W.findIn K (.type "object") "__rrshift__" = some none)
    (ihD : PySem.W.findIn K (.ref D) "__class__" = some (some (.builtin "object.__class__")))
    (imD : PySem.W.mroIn K D (.type "object") = some true)
    (ge2 : PySem.W.nsIn K mainGlobals "UnknownMarble" = some (some (.ref e2)))
    (xL2 : K.lookup e2 = some (excClassObj nm2 q2 e2 N2 bs2 bm2 true sn2 sub2 ab2 col2 dd2 m02 m12 m22 m32 m52 "ValueError.__new__"))
    (xb2 : PySem.HandSPX.refsVE bm2 = true)
    (xsa2 : PySem.W.findIn K (.ref e2) "__setattr__" = some (some (.builtin "object.__setattr__")))
    (xex2 : PySem.W.subIn K (.ref e2) (.type "BaseException") = some true)
    (xty2 : PySem.W.typeIn K (.ref e2) = some (.type "type"))
    (xk2 : PySem.W.keepIn K (.ref e2) = true)
    (aIx2 : PySem.W.findIn K (.ref e2) "__init__" = some (some (.ref fIx2)))
    (tIx2 : PySem.W.typeIn K (.ref fIx2) = some (.type "function"))
    (lIx2 : K.lookup fIx2 = some ⟨ocIx2, odIx2, .func (PySem.W.fnX "__init__" "UnknownMarble.__init__" (defArgs sUnknownMarbleInit) (defBody sUnknownMarbleInit) (defScope sUnknownMarbleInit) [("__class__", cc2)] .none kVIx2 dcIx2 pmIx2 anIx2 (.ref cdIx2) ctIx2), slIx2⟩)
    (cIx2 : PySem.W.codeIn K (.ref cdIx2) "UnknownMarble.__init__" = true)
    (kx12 : K.lookup cdIx2 = some ⟨ccl2, cdd2, .fields vsx2, ccs2⟩)
    (kx22 : vsx2[2]? = some (.str fileX2 tfX2))
    (kx32 : ((P.main.file : Str) == fileX2) = true)
    (kx42 : K.lookup cc2 = some ⟨cl02, cld02, .cell (some (.ref e2)), csl02⟩)
    (kx52 : PySem.W.mroIn K e2 (.ref e2) = some true)
    (kx62 : PySem.W.ks_superIn K e2 e2 "__init__" = some (some (.builtin "ValueError.__init__")))
    (kx72 : PySem.W.subIn K (.ref e2) (.type "ValueError") = some true)
    (kx8 : PySem.W.nsIn K cStatics "thirdparty.any" = some none)
    (kx9 : (P.main.scope.names.lookup ("super" : Str)).isSome = false)
    (nI3 : PySem.W.findIn K (.ref e2) "marble" = some none)
    (ge3 : PySem.W.nsIn K mainGlobals "InvalidPlace" = some (some (.ref e3)))
    (q3 : PySem.W.excIn K e3 [.type "ValueError", .type "Exception", .type "BaseException", .type "object"] "ValueError.__new__" = true)
    (k3 : PySem.W.keepIn K (.ref e3) = true)
    (t3 : PySem.W.typeIn K (.ref e3) = some (.type "type"))
    (hs3 : PySem.W.subIn K (.ref e3) (.type "BaseException") = some true)
    (eAR : zAR = S [108, 114])
    (eAC : zAC = S [117, 100])
    (eEM : zEM = S [46])
    (eLE : zLE = S letters)
    (eMS : iMS = 8)
    (eMR : iMR = ((10 ^ 18 : Nat) : Int))
    (eMX : iMX = 60)
    (hDC : D ≠ C)
    (h0 : t0 ≠ 0)
    : ∀ base : Heap, K.In base → base.Ns mainGlobals mg → FnRn (t0 + 1) P w K mg base CX0 10 fa (spLaw K) := by
  intro base _ _
  subst eAR eAC eEM eLE eMS eMR eMX
  have g : ∀ {n : Str} {v : Value}, PySem.W.nsIn K mainGlobals n = some (some v) → mg n = some v := fun e => PySem.W.mg_of X G e
  have g0 : ∀ {n : Str}, PySem.W.nsIn K mainGlobals n = some none → mg n = none := fun e => PySem.W.mg_none_of X G e
  obtain rfl : fLw = fa := by
    have e := hfa.symm.trans (g aLw)
    cases e
    rfl
  have raw0 : ∀ {CX : CXT} {k : Nat} {f : Addr} {fd : FuncData} {ps : List Str} {sp : Sp}, FnOk P w K mg base CX k f fd ps sp → Binds K fd ps [] → FnR P w K mg base CX k f sp := fun F b => (F.raw b .nil).imp fun vs H Q E h => by rw [List.append_nil]; exact h
  have T : TxtW K mg := ⟨g0 b_len, g0 b_isinstance, g0 b_str, g0 b_enumerate, ⟨_, g cAR, _, rfl⟩, ⟨_, g cAC, _, rfl⟩⟩
  have U : TxtT K mg t0 := ⟨g cEM, ⟨_, g cLE, _, rfl⟩, ⟨_, g cMS, _, rfl⟩, g0 b_set, g0 b_zip, g0 b_tuple⟩
  have L : TxtL K mg := ⟨g0 b_int, g0 b_range, g0 b_min⟩
  have N : TA.TxtN K mg := ⟨g0 b_isinstance, g0 b_bool, g0 b_int⟩
  have TM_ : TxtM K mg := ⟨⟨_, g cEM, _, rfl⟩, g0 b_sorted, g0 b_len⟩
  have TP_ : TxtP K mg := ⟨g0 b_isinstance, g0 b_tuple, g0 b_len⟩
  have TR_ : TxtR K mg := ⟨⟨_, g cEM, _, rfl⟩, ⟨_, g cMR, _, rfl⟩, g0 b_range, g0 b_int, g0 b_len⟩
  have clC : Cls K C := ⟨pgC, hdC, poC, saC⟩
  have clD : Cls K D := ⟨pgD, hdD, poD, saD⟩
  have CW : ClsW K mg C := ⟨clC, nT, g aC, .type "type", _, ⟨rdC, gaC⟩, mx, _, rfl⟩
  have CT : ClsT K mg D := ⟨clD, nR, g aD⟩
  have IC : C8.InsC K C := ⟨clC, ih, in_, itk, im, if_pos (by simp)⟩
  have ID : C8.InsC K D := ⟨clD, ihD, in_, itk, imD, if_pos (by simp)⟩
  have FNu := fun_mk (st := sIsNumber) lNu cNu kNu
  have BNu := FNu.binds (ps := ["value", "limit"]) fun _ _ _ _ _ _ us hl => match us, hl with | [_, _], _ => rfl
  have FCm := fun_mk (st := sCheckMarble) lCm cCm kCm
  have BCm := FCm.binds (ps := ["tray", "marble"]) fun _ _ _ _ _ _ us hl => match us, hl with | [_, _], _ => rfl
  have FPl := fun_mk (st := sIsPlace) lPl cPl kPl
  have BPl := FPl.binds (ps := ["value", "height", "width"]) fun _ _ _ _ _ _ us hl => match us, hl with | [_, _, _], _ => rfl
  have FCn := fun_mk (st := sCheckNumber) lCn cCn kCn
  have BCn := FCn.binds (ps := ["value", "limit"]) fun _ _ _ _ _ _ us hl => match us, hl with | [_, _], _ => rfl
  have FCv := fun_mk (st := sCheckPlace) lCv cCv kCv
  have BCv := FCv.binds (ps := ["tray", "place"]) fun _ _ _ _ _ _ us hl => match us, hl with | [_, _], _ => rfl
  have FIt := fun_mk (st := sIsTilt) lIt cIt kIt
  have BIt := FIt.binds (ps := ["value"]) fun _ _ _ _ _ _ us hl => match us, hl with | [_], _ => rfl
  have FFw := fun_mk (st := sFirstWrongIndex) lFw cFw kFw
  have BFw := FFw.binds (ps := ["text"]) fun _ _ _ _ _ _ us hl => match us, hl with | [_], _ => rfl
  have FWi := fun_mk (st := sWordInit) lWi cWi kWi
  have BWi := FWi.binds (ps := ["self", "text"]) fun _ _ _ _ _ _ us hl => match us, hl with | [_, _], _ => rfl
  have FWt := fun_mk (st := sWordText) lWt cWt kWt
  have BWt := FWt.binds (ps := ["self"]) fun _ _ _ _ _ _ us hl => match us, hl with | [_], _ => rfl
  have FTo := fun_mk (st := sTrayOfText) lTo cTo kTo
  have BTo := FTo.binds (ps := ["cls", "text"]) fun _ _ _ _ _ _ us hl => match us, hl with | [_, _], _ => rfl
  have FMb := fun_mk (st := sTrayMarbles) lMb cMb kMb
  have BMb := FMb.binds (ps := ["self"]) fun _ _ _ _ _ _ us hl => match us, hl with | [_], _ => rfl
  have FHt := fun_mk (st := sTrayHeight) lHt cHt kHt
  have BHt := FHt.binds (ps := ["self"]) fun _ _ _ _ _ _ us hl => match us, hl with | [_], _ => rfl
  have FWd := fun_mk (st := sTrayWidth) lWd cWd kWd
  have BWd := FWd.binds (ps := ["self"]) fun _ _ _ _ _ _ us hl => match us, hl with | [_], _ => rfl
  have FAt := fun_mk (st := sTrayAt) lAt cAt kAt
  have BAt := FAt.binds (ps := ["self", "place"]) fun _ _ _ _ _ _ us hl => match us, hl with | [_, _], _ => rfl
  have FCl := fun_mk (st := sTrayCall) lCl cCl kCl
  have BCl := FCl.binds (ps := ["self", "marble"]) fun _ _ _ _ _ _ us hl => match us, hl with | [_, _], _ => rfl
  have FTc := fun_mk (st := sTrayContains) lTc cTc kTc
  have BTc := FTc.binds (ps := ["self", "x"]) fun _ _ _ _ _ _ us hl => match us, hl with | [_, _], _ => rfl
  have FRs := fun_mk (st := sTrayRshift) lRs cRs kRs
  have BRs := FRs.binds (ps := ["self", "other"]) fun _ _ _ _ _ _ us hl => match us, hl with | [_, _], _ => rfl
  have FTe := fun_mk (st := sTrayEq) lTe cTe kTe
  have BTe := FTe.binds (ps := ["self", "other"]) fun _ _ _ _ _ _ us hl => match us, hl with | [_, _], _ => rfl
  have FFc := fun_mk (st := sFirstWrongCell) lFc cFc kFc
  have BFc := FFc.binds (ps := ["rows"]) fun _ _ _ _ _ _ us hl => match us, hl with | [_], _ => rfl
  have FIr := fun_mk (st := sIsRow) lIr cIr kIr
  have BIr := FIr.binds (ps := ["row"]) fun _ _ _ _ _ _ us hl => match us, hl with | [_], _ => rfl
  have FTd := fun_mk (st := sTilted) lTd cTd kTd
  have BTd := FTd.binds (ps := ["rows", "tilt"]) fun _ _ _ _ _ _ us hl => match us, hl with | [_, _], _ => rfl
  have FSl := fun_mk (st := sSlid) lSl cSl kSl
  have BSl := FSl.binds (ps := ["line", "to_beginning"]) fun _ _ _ _ _ _ us hl => match us, hl with | [_, _], _ => rfl
  have FEx := fun_mk (st := sExchange) lEx cEx kEx
  have BEx := FEx.binds (ps := ["tray", "word"]) fun _ _ _ _ _ _ us hl => match us, hl with | [_, _], _ => rfl
  have FCi := fun_mk (st := sCircles) lCi cCi kCi
  have BCi := FCi.binds (ps := ["tray", "word"]) fun _ _ _ _ _ _ us hl => match us, hl with | [_, _], _ => rfl
  have FCf := fun_mk (st := sCircleFrom) lCf cCf kCf
  have BCf := FCf.binds (ps := ["start", "followers"]) fun _ _ _ _ _ _ us hl => match us, hl with | [_, _], _ => rfl
  have FAr := fun_mk (st := sAfterRounds) lAr cAr kAr
  have BAr := FAr.binds (ps := ["tray", "word", "times"]) fun _ _ _ _ _ _ us hl => match us, hl with | [_, _, _], _ => rfl
  have FBk := fun_mk (st := sBackAfter) lBk cBk kBk
  have BBk := FBk.binds (ps := ["tray", "word"]) fun _ _ _ _ _ _ us hl => match us, hl with | [_, _], _ => rfl
  have FTk := fun_mk (st := sLawTaken) lTk cTk kTk
  have BTk := FTk.binds (ps := ["_law_row", "_law_many"]) fun _ _ _ _ _ _ us hl => match us, hl with | [_, _], _ => rfl
  have FGr := fun_mk (st := sLawGreat) lGr cGr kGr
  have BGr := FGr.binds (ps := ["_law_row", "_law_many"]) fun _ _ _ _ _ _ us hl => match us, hl with | [_, _], _ => rfl
  have FRw := fun_mk (st := sLawRows) lRw cRw kRw
  have BRw := FRw.binds (ps := ["_law_row", "_law_most"]) fun _ _ _ _ _ _ us hl => match us, hl with | [_, _], _ => rfl
  have FTx := fun_mk (st := sLawText) lTx cTx kTx
  have BTx := FTx.binds (ps := ["_law_row", "_law_most"]) fun _ _ _ _ _ _ us hl => match us, hl with | [_, _], _ => rfl
  have FTy := fun_mk (st := sLawTray) lTy cTy kTy
  have BTy := FTy.binds (ps := ["_law_rows_here"]) fun _ _ _ _ _ _ us hl => match us, hl with | [_], _ => rfl
  have FMa := fun_mk (st := sMarbleAfter) lMa cMa kMa
  have BMa := FMa.binds (ps := ["tray", "marble", "word", "times"]) fun _ _ _ _ _ _ us hl => match us, hl with | [_, _, _, _], _ => rfl
  have FIb := fun_mk (st := sIsBack) lIb cIb kIb
  have BIb := FIb.binds (ps := ["tray", "word"]) fun _ _ _ _ _ _ us hl => match us, hl with | [_, _], _ => rfl
  have FMv := fun_mk (st := sLawMoved) lMv cMv kMv
  have BMv := FMv.binds (ps := ["_law_tray_here", "_law_moved_here"]) fun _ _ _ _ _ _ us hl => match us, hl with | [_, _], _ => rfl
  have FLc := fun_mk (st := sLawAreCircles) lLc cLc kLc
  have BLc := FLc.binds (ps := ["_law_tray_here", "_law_word", "_law_rounds"]) fun _ _ _ _ _ _ us hl => match us, hl with | [_, _, _], _ => rfl
  have FLw := fun_mk (st := sLaw) lLw cLw kLw
  have BLw := FLw.binds (ps := ["_law_script"]) fun _ _ _ _ _ _ us hl => match us, hl with | [_], _ => rfl
  have FTi := fun_mk (st := sTrayInit) lTi cTi kTi
  have ox2 : OexC K e2 := ⟨⟨nm2, q2, N2, bs2, bm2, sn2, sub2, ab2, col2, dd2, m02, m12, m22, m32, m52, xL2, xb2⟩, xsa2, xex2, xty2, xk2⟩
  have XT2 : ExcT K mg "UnknownMarble" e2 fIx2 := ⟨ox2, g ge2, aIx2, tIx2⟩
  have GIx2 := TX.ok_um (P := P) (w := w) (base := base) (mg := mg) (CX := CX0) lIx2 cIx2 ⟨⟨_, _, _, lIx2⟩, rfl, ⟨_, _, _, _, _, _, kx12, kx22, kx32⟩, ⟨_, _, _, kx42⟩, kx52, kx62, kx72, kx8, kx9⟩ rfl ox2 (g0 b_super) nI3
  have BIx2 : Binds K (PySem.W.fnX "__init__" "UnknownMarble.__init__" (defArgs sUnknownMarbleInit) (defBody sUnknownMarbleInit) (defScope sUnknownMarbleInit) [("__class__", cc2)] .none kVIx2 dcIx2 pmIx2 anIx2 (.ref cdIx2) ctIx2) ["self", "marble"] [] := Binds.all fun us hl => match us, hl with | [_, _], _ => rfl
  have XP : TA.ExN K mg "InvalidPlace" e3 := ⟨q3, g ge3, k3, hs3, t3⟩
  have GIt : FnOk P w K mg base CX0 1 fIt _ ["value"] spIt := ok_it FIt T
  have GFw : FnOk P w K mg base CX0 2 fFw _ ["text"] spFwi := ok_fwi FFw T CW FIt BIt (g aIt)
  have GWi : FnOk P w K mg base CX0 3 fWi _ ["self", "text"] (spWi C) := ok_wi FWi CW GFw kFw BFw (g aFw)
  have MC : Mk K C fWi := ⟨mkC, aWi, iWi, kcC⟩
  have GNu : FnOk P w K mg base CX0 1 fNu _ ["value", "limit"] (TA.spNum K) := TA.ok_num FNu N
  have GCn : FnOk P w K mg base CX0 2 fCn _ ["value", "limit"] spCn := ok_cn FCn GNu kNu BNu (g aNu)
  have GPl : FnOk P w K mg base CX0 2 fPl _ ["value", "height", "width"] (spPl K) := ok_pl FPl TP_ GNu kNu BNu (g aNu)
  have scWt : FnScope ["self"] ["self"] (defScope sWordText) := ⟨rfl, rfl, rfl, by decide +kernel, rfl, by decide +kernel, by decide +kernel⟩
  have GWg : FnOk P w K mg base CX0 1 fWt _ ["self"] (getSp C "_text") := fn_getter (k := 0) lWt cWt scWt rfl rfl clC nT
  have PWt : PropOf K C "text" qWt fWt := ⟨pWt, pgtWt, ptkWt, _, aWt⟩
  have PMb : PropOf K D "marbles" qMb fMb := ⟨pMb, pgtMb, ptkMb, _, aMb⟩
  have PHt : PropOf K D "height" qHt fHt := ⟨pHt, pgtHt, ptkHt, _, aHt⟩
  have PWd : PropOf K D "width" qWd fWd := ⟨pWd, pgtWd, ptkWd, _, aWd⟩
  have GFc : FnOk P w K mg base CX0 2 fFc _ ["rows"] (spFc K) := ok_fc FFc T U FIr BIr (g aIr)
  have GTi := ok_ti (P := P) (w := w) (base := base) FTi CT GFc kFc BFc (g aFc)
  have MD : Mk K D fTi := ⟨mkD, aTi, iTi, kcD⟩
  have GTo : FnOk P w K mg base CX0 5 fTo _ ["cls", "text"] (spOt K D) := ok_ot FTo T MD GTi
  have GMb : FnOk P w K mg base CX0 1 fMb _ ["self"] (spMb K D) := ok_mb FMb TM_ CT
  have GHt : FnOk P w K mg base CX0 1 fHt _ ["self"] (spHt K D) := ok_ht FHt TM_ CT
  have GWd : FnOk P w K mg base CX0 1 fWd _ ["self"] (spWd K D) := ok_wd FWd TM_ CT
  have GCv : FnOk P w K mg base (L2.CX P w) 3 fCv _ ["tray", "place"] (spCp K D e3) := ok_cp FCv CT GPl kPl BPl (g aPl) PHt GHt BHt PWd GWd BWd XP
  have GAt : FnOk P w K mg base (L2.CX P w) 4 fAt _ ["self", "place"] (spAt K D e3) := ok_at FAt TM_ CT GCv kCv BCv (g aCv)
  have GTc : FnOk P w K mg base CX0 3 fTc _ ["self", "x"] (spTc K D) := ok_tc FTc T CT PMb GMb BMb
  have GCl : FnOk P w K mg base (L2.CX P w) 4 fCl _ ["self", "marble"] (spCl K D e2) := ok_cl FCl CT (g0 b_divmod) aTc iTc (raw0 GTc BTc) PWd GWd BWd XT2 GIx2 BIx2
  have CO : StX.CallO K D fCl := ⟨aCl, iCl, fnCl⟩
  have GC := raw0 GCl BCl
  have GTe : FnOk P w K mg base CX0 1 fTe _ ["self", "other"] (TW.spTe K D) := TW.ok_te FTe T CT ID
  have GTf := raw0 GTe BTe
  have GSl : FnRn (t0 + 1) P w K mg base CX0 1 fSl spSl := ok_sl FSl T U BSl h0 (Nat.lt_succ_self _)
  have GTd : FnRn (t0 + 1) P w K mg base CX0 2 fTd (spTd K) := ok_td FTd T U BTd GSl kSl (g aSl)
  have e1 : PySem.dunder Operator.RShift.info.2 = ("__rshift__" : Str) := by decide +kernel
  have e2_ : PySem.dunderR Operator.RShift.info.2 = ("__rrshift__" : Str) := by decide +kernel
  have NO : NoOp K C Operator.RShift.info.2 := ⟨⟨_, nc, nm⟩, by rw [e1]; exact n1, by rw [e2_]; exact n2, by rw [e1]; exact n3, by rw [e2_]; exact n4⟩
  have hs : PySem.W.findIn K (.ref D) (PySem.dunder Operator.RShift.info.2) = some (some (.ref fRs)) := by rw [e1]; exact aRs
  have GRs : FnRn (t0 + 1) P w K mg base CX0 5 fRs (spRs K C D) := ok_rs FRs T CW CT IC BRs PWt GWg BWt GTd kTd (g aTd) MD GTi
  have GEx : FnRn (t0 + 1) P w K mg base CX0 6 fEx (spEx K C D) := ok_ex FEx BEx hDC CT sf NO hs iRs GRs PMb GMb BMb CO GC
  have GCf : FnOk P w K mg base CX0 1 fCf _ ["start", "followers"] (spCf K) := ok_cf FCf
  have GCi : FnRn (t0 + 1) P w K mg base CX0 6 fCi (spCi K C D) := ok_ci FCi BCi (g0 b_set) hDC CT sf NO hs iRs GRs PMb GMb BMb CO GC ⟨aAt, iAt, kAt⟩ GAt BAt GCf kCf BCf (g aCf)
  have GAr : FnRn (t0 + 1) P w K mg base CX0 7 fAr (spAr K C D) := ok_ar FAr BAr TR_ hDC CT sf NO hs iRs GRs PMb GMb BMb PHt GHt BHt PWd GWd BWd CO GC GEx kEx (g aEx) GCf kCf BCf (g aCf) GCn kCn BCn (g aCn) MD GTi
  have GBk : FnRn (t0 + 1) P w K mg base CX0 7 fBk (spBk K C D) := ok_bk FBk BBk (g0 b_len) (g lcm) GCi kCi (g aCi)
  have GTk : ∀ a ns, FnOk P w K mg base CX0 1 fTk _ ["_law_row", "_law_many"] (spTk K a ns) := fun a ns => ok_tk FTk T L
  have GTx : ∀ a ns, FnOk P w K mg base CX0 2 fTx _ ["_law_row", "_law_most"] (spTx K a ns) := fun a ns => ok_tx FTx L (GTk a ns) kTk BTk (g aTk)
  have GRw : ∀ a ns, FnOk P w K mg base CX0 2 fRw _ ["_law_row", "_law_most"] (spRw K a ns) := fun a ns => ok_rw FRw T L (GTk a ns) kTk BTk (g aTk)
  have GGr : ∀ a ns, FnOk P w K mg base CX0 2 fGr _ ["_law_row", "_law_many"] (spGr K a ns) := fun a ns => ok_gr FGr L (GTk a ns) kTk BTk (g aTk)
  have GTy : FnOk P w K mg base CX0 6 fTy _ ["_law_rows_here"] (spTry K D) := ok_try FTy CT ⟨rdD, gaD⟩ ⟨pTo, ⟨_, aTo⟩, fiTo⟩ (raw0 GTo BTo)
  have TG_ : TxtG mg := ⟨g0 b_len, g0 b_range, g0 b_int, g0 b_list, g0 b_sorted, g0 b_min⟩
  have TL_ : TxtL2 mg := ⟨g0 b_len, g0 b_range, g0 b_int, g0 b_dict, g0 b_sorted⟩
  have GCm : FnOk P w K mg base CX0 4 fCm _ ["tray", "marble"] (spCm K D) := ok_cm FCm aTc iTc (raw0 GTc BTc)
  have GMa : FnRn (t0 + 1) P w K mg base CX0 8 fMa (spMa K C D) := ok_ma FMa BMa GCm kCm BCm (g aCm) GAr kAr (g aAr) CO GC
  have GIb : FnRn (t0 + 1) P w K mg base CX0 8 fIb (spIb K C D) := ok_ib FIb BIb GAr kAr (g aAr) GBk kBk (g aBk) aTe iTe GTf
  have GMv : FnOk P w K mg base CX0 5 fMv _ ["_law_tray_here", "_law_moved_here"] (spMv K D) := ok_mv FMv CT (g0 b_dict) PMb GMb BMb CO GC
  have GLc : FnRn (t0 + 1) P w K mg base CX0 9 fLc (spLc K C D) := ok_lc FLc BLc TG_ CT GAr kAr (g aAr) GCi kCi (g aCi) GMa kMa (g aMa) PMb GMb BMb CO GC
  exact ok_law FLw BLw TL_ CW CT GTk kTk BTk (g aTk) GTx kTx BTx (g aTx) GRw kRw BRw (g aRw) GGr kGr BGr (g aGr) GTy kTy BTy (g aTy) GMv kMv BMv (g aMv) MC GWi BWi aTe iTe GTf PMb GMb BMb CO GC GLc kLc (g aLc) GAr kAr (g aAr) GBk kBk (g aBk) GIb kIb (g aIb) GCi kCi (g aCi) GEx kEx (g aEx)
end TR
end
section
set_option Elab.async false
set_option maxRecDepth 100000
set_option linter.all false
namespace TK
open PySem PySem.W PySem.W.X PySem.Spec PyProof.Rows L2 TH
theorem ofPys_ints : ∀ ns : List Int, ofPys (ns.map PyData.int) = ns.map WData.int
  | [] => by simp [ofPys]
  | n :: ns => by
    rw [List.map_cons, List.map_cons, ofPys, ofPys_ints ns]
    rfl
theorem end_nk {l : OpenLaw} {w : World} {s₀ s₁ : Shared} {args : List WData} {vals : List Value} {as : List Addr} {fa : Addr} {K : PySem.W.Frag} {mg mb : Str → Option Value} {cl : Str → Option Addr} {mean : ExcName → Option Value} {tk n k : Nat} {sp : Sp}
    (hr : Room k callerA) (hsp : ∀ (a : Addr) (ns : List Int) (H : Hp), SqL K H a (ns.map V.int) → sp [.ref a] H (fun v _ => v = .bl true) fun _ _ _ => False)
    (hm : l.most = some 63) (KX : K.In s₁.heap) (hns : s₁.heap.Ns mainGlobals mg) (hb : s₁.heap.Ns builtinsNs mb) (hbb : ∀ x : Str, x ≠ "__name__" → mb x = bootBuiltins x) (hlim : s₁.heap.NoLimit) (hg : s₁.gens = #[])
    (L : Laid l.row.toRowW.records w s₀ s₁ args vals as) (ZT : s₀.toks = tk) (hn : n ≤ tk) (hpre : l.row.toRowW.claim.pre args = true) (hwl : WellAll w.params s₁.heap vals args)
    (F : ∀ base : Heap, K.In base → base.Ns mainGlobals mg → FnRn n l.row.toRowW.prog w K mg base CX0 k fa sp) :
    wpAny (model l.row.toRowW.prog w) callerA (PySem.call (.ref fa) vals) (fun v s' => GoodWG l.row.toRowW.claim cl mean args s₁ (.ok (.ret v)) s') (fun e s' => GoodWG l.row.toRowW.claim cl mean args s₁ (.error e) s') s₁ := by
  obtain ⟨a, vs, ns, rfl, rfl, hobj, hints, hlen⟩ := Att.script_of hm hpre hwl
  have L' : Laid l.row.toRowW.records w s₀ s₁ [ofPy (PyData.list (ns.map PyData.int))] [.ref a] as := by
    rw [show ofPy (PyData.list (ns.map PyData.int)) = WData.list (ns.map WData.int) by rw [ofPy, ofPys_ints]]
    exact L
  have htk := script_toks L' ZT
  refine enter_call (codeAny_mono (law_n (k := k) KX hns hb hbb hlim hg (Nat.le_trans hn htk) hobj (vals_ints hints) (Nat.le_trans hlen (by decide)) hr F fun H hS => hsp a ns H hS) fun r s' hq => ?_)
  obtain ⟨rfl, h2, h3, h4⟩ := hq
  exact ⟨.inl ⟨.bool true, .bool true, [], rfl, fun _ => rfl, .bool true, Att.post_true l _, fun _ => ⟨List.Pairwise.nil, fun _ hm => (nomatch hm)⟩⟩, h2, h3, h4⟩
end TK
end
set_option Elab.async false
open PySem PySem.W PySem.W.X PySem.W.ZRun PyProof.Rows
set_option maxRecDepth 100000 in
set_option maxHeartbeats 0 in
theorem PySem.Challenge.cw_tiltheap_k15_whole_circles_and_exchanges_holds : PySem.Challenge.rw_tiltheap_k15_whole_circles_and_exchanges.Holds := by
  w_on; o_law; z_head; (case hw => w_witness2)
  k_fill
  intro w s₀ s₁ mg mb G y fa o pm cd doc dV kV ho hd hcd hD hmg hg args vals as L hpre hlay hrd hwl hlo
  z_open y L KX ZH ZN ZT
  have hmg' : mg (PySem.Str.ofString "law") = some (Value.ref fa) := hmg
  clear y ZH ZN hlay hrd hlo hd hcd hD ho hmg
  refine' TK.end_nk (k := 10) (l := PySem.Challenge.rw_tiltheap_k15_whole_circles_and_exchanges) ⟨rfl, by decide, by decide⟩ (fun a ns H hS => ⟨a, ns, rfl, hS, fun _ => rfl⟩) rfl KX G.T.g G.T.b G.T.builtins G.T.nolimit hg L ZT ?hn hpre hwl (TR.all_mk KX G.T.g hmg' ?aC ?pgC ?hdC ?poC ?saC ?mkC ?kcC ?rdC ?gaC ?aD ?pgD ?hdD ?poD ?saD ?mkD ?kcD ?rdD ?gaD ?cAR ?cAC ?cEM ?cLE ?cMS ?cMR ?b_len ?b_isinstance ?b_str ?b_enumerate ?b_set ?b_zip ?b_tuple ?b_int ?b_range ?b_min ?b_list ?b_bool ?b_dict ?b_sorted ?b_divmod ?b_super ?lcm ?nT ?nR ?ih ?in_ ?itk ?im ?mx ?aNu ?lNu ?cNu ?kNu ?aCm ?lCm ?cCm ?kCm ?aPl ?lPl ?cPl ?kPl ?aCn ?lCn ?cCn ?kCn ?aCv ?lCv ?cCv ?kCv ?aIt ?lIt ?cIt ?kIt ?aFw ?lFw ?cFw ?kFw ?aWi ?iWi ?lWi ?cWi ?kWi ?pWt ?pgtWt ?ptkWt ?aWt ?lWt ?cWt ?kWt ?aTi ?iTi ?lTi ?cTi ?kTi ?pTo ?aTo ?fiTo ?lTo ?cTo ?kTo ?pMb ?pgtMb ?ptkMb ?aMb ?lMb ?cMb ?kMb ?pHt ?pgtHt ?ptkHt ?aHt ?lHt ?cHt ?kHt ?pWd ?pgtWd ?ptkWd ?aWd ?lWd ?cWd ?kWd ?aAt ?iAt ?lAt ?cAt ?kAt ?aCl ?iCl ?lCl ?cCl ?kCl ?aTc ?iTc ?lTc ?cTc ?kTc ?aRs ?iRs ?lRs ?cRs ?kRs ?aTe ?iTe ?lTe ?cTe ?kTe ?aFc ?lFc ?cFc ?kFc ?aIr ?lIr ?cIr ?kIr ?aTd ?lTd ?cTd ?kTd ?aSl ?lSl ?cSl ?kSl ?aEx ?lEx ?cEx ?kEx ?aCi ?lCi ?cCi ?kCi ?aCf ?lCf ?cCf ?kCf ?aAr ?lAr ?cAr ?kAr ?aBk ?lBk ?cBk ?kBk ?aTk ?lTk ?cTk ?kTk ?aGr ?lGr ?cGr ?kGr ?aRw ?lRw ?cRw ?kRw ?aTx ?lTx ?cTx ?kTx ?aTy ?lTy ?cTy ?kTy ?aMa ?lMa ?cMa ?kMa ?aIb ?lIb ?cIb ?kIb ?aMv ?lMv ?cMv ?kMv ?aLc ?lLc ?cLc ?kLc ?aLw ?lLw ?cLw ?kLw ?fnCl ?sf ?nc ?nm ?n1 ?n2 ?n3 ?n4 ?ihD ?imD ?ge2 ?xL2 ?xb2 ?xsa2 ?xex2 ?xty2 ?xk2 ?aIx2 ?tIx2 ?lIx2 ?cIx2 ?kx12 ?kx22 ?kx32 ?kx42 ?kx52 ?kx62 ?kx72 ?kx8 ?kx9 ?nI3 ?ge3 ?q3 ?k3 ?t3 ?hs3 ?eAR ?eAC ?eEM ?eLE ?eMS ?eMR ?eMX ?hDC ?h0)
  (case aC => k_is)
  (case pgC => k_is)
  (case hdC => k_is)
  (case poC => k_is)
  (case saC => k_is)
  (case mkC => k_is)
  (case kcC => k_is)
  (case rdC => k_is)
  (case gaC => k_is)
  (case aD => k_is)
  (case pgD => k_is)
  (case hdD => k_is)
  (case poD => k_is)
  (case saD => k_is)
  (case mkD => k_is)
  (case kcD => k_is)
  (case rdD => k_is)
  (case gaD => k_is)
  (case cAR => k_is)
  (case cAC => k_is)
  (case cEM => k_is)
  (case cLE => k_is)
  (case cMS => k_is)
  (case cMR => k_is)
  (case b_len => k_is)
  (case b_isinstance => k_is)
  (case b_str => k_is)
  (case b_enumerate => k_is)
  (case b_set => k_is)
  (case b_zip => k_is)
  (case b_tuple => k_is)
  (case b_int => k_is)
  (case b_range => k_is)
  (case b_min => k_is)
  (case b_list => k_is)
  (case b_bool => k_is)
  (case b_dict => k_is)
  (case b_sorted => k_is)
  (case b_divmod => k_is)
  (case b_super => k_is)
  (case lcm => k_is)
  (case nT => k_is)
  (case nR => k_is)
  (case ih => k_is)
  (case in_ => k_is)
  (case itk => k_is)
  (case im => k_is)
  (case mx => k_is)
  (case aNu => k_is)
  (case lNu => k_is)
  (case cNu => k_is)
  (case kNu => k_is)
  (case aCm => k_is)
  (case lCm => k_is)
  (case cCm => k_is)
  (case kCm => k_is)
  (case aPl => k_is)
  (case lPl => k_is)
  (case cPl => k_is)
  (case kPl => k_is)
  (case aCn => k_is)
  (case lCn => k_is)
  (case cCn => k_is)
  (case kCn => k_is)
  (case aCv => k_is)
  (case lCv => k_is)
  (case cCv => k_is)
  (case kCv => k_is)
  (case aIt => k_is)
  (case lIt => k_is)
  (case cIt => k_is)
  (case kIt => k_is)
  (case aFw => k_is)
  (case lFw => k_is)
  (case cFw => k_is)
  (case kFw => k_is)
  (case aWi => k_is)
  (case iWi => k_is)
  (case lWi => k_is)
  (case cWi => k_is)
  (case kWi => k_is)
  (case pWt => k_is)
  (case pgtWt => k_is)
  (case ptkWt => k_is)
  (case aWt => k_is)
  (case lWt => k_is)
  (case cWt => k_is)
  (case kWt => k_is)
  (case aTi => k_is)
  (case iTi => k_is)
  (case lTi => k_is)
  (case cTi => k_is)
  (case kTi => k_is)
  (case pTo => k_is)
  (case aTo => k_is)
  (case fiTo => k_is)
  (case lTo => k_is)
  (case cTo => k_is)
  (case kTo => k_is)
  (case pMb => k_is)
  (case pgtMb => k_is)
  (case ptkMb => k_is)
  (case aMb => k_is)
  (case lMb => k_is)
  (case cMb => k_is)
  (case kMb => k_is)
  (case pHt => k_is)
  (case pgtHt => k_is)
  (case ptkHt => k_is)
  (case aHt => k_is)
  (case lHt => k_is)
  (case cHt => k_is)
  (case kHt => k_is)
  (case pWd => k_is)
  (case pgtWd => k_is)
  (case ptkWd => k_is)
  (case aWd => k_is)
  (case lWd => k_is)
  (case cWd => k_is)
  (case kWd => k_is)
  (case aAt => k_is)
  (case iAt => k_is)
  (case lAt => k_is)
  (case cAt => k_is)
  (case kAt => k_is)
  (case aCl => k_is)
  (case iCl => k_is)
  (case lCl => k_is)
  (case cCl => k_is)
  (case kCl => k_is)
  (case aTc => k_is)
  (case iTc => k_is)
  (case lTc => k_is)
  (case cTc => k_is)
  (case kTc => k_is)
  (case aRs => k_is)
  (case iRs => k_is)
  (case lRs => k_is)
  (case cRs => k_is)
  (case kRs => k_is)
  (case aTe => k_is)
  (case iTe => k_is)
  (case lTe => k_is)
  (case cTe => k_is)
  (case kTe => k_is)
  (case aFc => k_is)
  (case lFc => k_is)
  (case cFc => k_is)
  (case kFc => k_is)
  (case aIr => k_is)
  (case lIr => k_is)
  (case cIr => k_is)
  (case kIr => k_is)
  (case aTd => k_is)
  (case lTd => k_is)
  (case cTd => k_is)
  (case kTd => k_is)
  (case aSl => k_is)
  (case lSl => k_is)
  (case cSl => k_is)
  (case kSl => k_is)
  (case aEx => k_is)
  (case lEx => k_is)
  (case cEx => k_is)
  (case kEx => k_is)
  (case aCi => k_is)
  (case lCi => k_is)
  (case cCi => k_is)
  (case kCi => k_is)
  (case aCf => k_is)
  (case lCf => k_is)
  (case cCf => k_is)
  (case kCf => k_is)
  (case aAr => k_is)
  (case lAr => k_is)
  (case cAr => k_is)
  (case kAr => k_is)
  (case aBk => k_is)
  (case lBk => k_is)
  (case cBk => k_is)
  (case kBk => k_is)
  (case aTk => k_is)
  (case lTk => k_is)
  (case cTk => k_is)
  (case kTk => k_is)
  (case aGr => k_is)
  (case lGr => k_is)
  (case cGr => k_is)
  (case kGr => k_is)
  (case aRw => k_is)
  (case lRw => k_is)
  (case cRw => k_is)
  (case kRw => k_is)
  (case aTx => k_is)
  (case lTx => k_is)
  (case cTx => k_is)
  (case kTx => k_is)
  (case aTy => k_is)
  (case lTy => k_is)
  (case cTy => k_is)
  (case kTy => k_is)
  (case aMa => k_is)
  (case lMa => k_is)
  (case cMa => k_is)
  (case kMa => k_is)
  (case aIb => k_is)
  (case lIb => k_is)
  (case cIb => k_is)
  (case kIb => k_is)
  (case aMv => k_is)
  (case lMv => k_is)
  (case cMv => k_is)
  (case kMv => k_is)
  (case aLc => k_is)
  (case lLc => k_is)
  (case cLc => k_is)
  (case kLc => k_is)
  (case aLw => k_is)
  (case lLw => k_is)
  (case cLw => k_is)
  (case kLw => k_is)
  (case fnCl => k_is)
  (case sf => k_is)
  (case nc => k_is)
  (case nm => rfl)
  (case n1 => k_is)
  (case n2 => k_is)
  (case n3 => k_is)
  (case n4 => k_is)
  (case ihD => k_is)
  (case imD => k_is)
  (case ge2 => k_is)
  (case xL2 => k_is)
  (case xb2 => first | rfl | decide +kernel)
  (case xsa2 => k_is)
  (case xex2 => k_is)
  (case xty2 => k_is)
  (case xk2 => k_is)
  (case aIx2 => k_is)
  (case tIx2 => k_is)
  (case lIx2 => k_is)
  (case cIx2 => k_is)
  (case kx12 => k_is)
  (case kx22 => rfl)
  (case kx32 => first | rfl | decide +kernel)
  (case kx42 => k_is)
  (case kx52 => k_is)
  (case kx62 => kernel_rfl)
  (case kx72 => k_is)
  (case kx8 => k_is)
  (case kx9 => first | rfl | decide +kernel)
  (case nI3 => k_is)
  (case ge3 => k_is)
  (case q3 => kernel_rfl)
  (case k3 => k_is)
  (case t3 => k_is)
  (case hs3 => k_is)
  (case eAR => first | rfl | decide +kernel)
  (case eAC => first | rfl | decide +kernel)
  (case eEM => first | rfl | decide +kernel)
  (case eLE => first | rfl | decide +kernel)
  (case eMS => first | rfl | decide +kernel)
  (case eMR => first | rfl | decide +kernel)
  (case eMX => first | rfl | decide +kernel)
  (case hDC => first | decide | omega)
  (case h0 => first | decide | omega)
  (case hn => first | decide | omega)
