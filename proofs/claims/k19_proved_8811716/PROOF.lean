import PyProof.Rows.All
import Wide.All
import OpenK.AllK
import Wide.FinOn
import KE.GoesMore
import KE.KStar
import HandS.ForMost
import HandS.Star
import HandS.Walk
import HandS.SlotsOwn
import HandS.ClsMeth
import HandS.Property
import HandS.OwnEq
import KE.KOpsOwn
import HandS.Text
import HandS.Replace
import HandS.Codes
import HandS.IsInst
import HandS.SetKeys
import HandS.Comp
import PyProof.Rows.StrPadFill
import PyProof.Rows.StrStrike
import HandS.ExcInit
import HandS.Nested
import HandS.FStr
import KE.KExcSuper
import KE.KSuper
import HandS.WordsExc
import HandS.ExcIs
import HandS.ExcField
import HandS.Lambda
import KE.KExcIs
import HandS.TupSets
import PyProof.InstNe
import HandS.ExcOwn
import PyProof.ExcBaseAll.ValueError
import HandS.StrMore
import HandS.DictComp
import PyProof.StrBlock2
import PyProof.ListStr
import HandS.Dict
import KE.KMathG
import HandS.Gcd
import HandS.Conv
import HandS.SortRule
import KE.LtData
import KE.KDictCopyH
import PyProof.CollectStr
import PyProof.ConsumeS
import PyProof.MinMaxWalk
import PyProof.SeqI3
import HandS.Style
import KE.KDictZip
import HandS.Bytes
import HandS.More
import HandS.Flow
import HandS.ToBytes
import PyProof.Rows.StrCountLaw
import KE.KxField
import PyProof.CollectIter
import PyProof.WalksMore
import PyProof.Rows.TupIter
import HandS.TupAny
import HandS.WordsDict
import HandS.EndTab
import KE.KNestM
import HandS.Ends
import PySem.Challenge.RW_tiltheap_k19_whole_texts_bytes_and_logs
section
set_option Elab.async false
set_option maxRecDepth 100000
set_option maxHeartbeats 4000000
namespace TH
open PySem PySem.Spec PyProof.Rows L2

/-- texts with their tokens -/
abbrev Tx := List (Str × Tok)
abbrev txv (ts : Tx) : List Value := ts.map fun v => .str v.1 v.2
abbrev txo (v : Str × Tok) : Obj := { cls := .type (strIterType v.1), data := .fields #[.str v.1 v.2, .int 0 0] }
def laid (h : Heap) : Tx → Heap
  | [] => h
  | v :: r => laid (h.push (txo v)) r
def refs (n : Nat) : Nat → List Value
  | 0 => []
  | k + 1 => .ref n :: refs (n + 1) k
theorem laid_size : ∀ (ts : Tx) (h : Heap), (laid h ts).objs.size = h.objs.size + ts.length
  | [], h => rfl
  | v :: r, h => by
    show (laid (h.push (txo v)) r).objs.size = _
    rw [laid_size r, Heap.size_push, List.length_cons]
    omega
theorem laid_old : ∀ (ts : Tx) (h : Heap) (b : Addr) (o : Obj), h.get? b = some o → (laid h ts).get? b = some o
  | [], _, _, _, e => e
  | _ :: r, _, b, o, e => laid_old r _ b o (Heap.get?_push_of_some _ e)
theorem laid_at : ∀ (ts : Tx) (h : Heap) (k : Nat) (v : Str × Tok), ts[k]? = some v → (laid h ts).get? (h.objs.size + k) = some (txo v)
  | [], _, k, _, e => by simp at e
  | u :: r, h, 0, v, e => by
    have e' : u = v := by simpa using e
    subst e'
    exact laid_old r _ _ _ (Heap.get?_push_size _ rfl)
  | u :: r, h, k + 1, v, e => by
    have z := laid_at r (h.push (txo u)) k v (by simpa using e)
    rw [Heap.size_push] at z
    have e2 : h.objs.size + 1 + k = h.objs.size + (k + 1) := by omega
    rw [e2] at z
    exact z
theorem refs_length (n : Nat) : ∀ k, (refs n k).length = k := fun k => by
  induction k generalizing n with
  | zero => rfl
  | succ k ih => show (refs (n + 1) k).length + 1 = k + 1; rw [ih]
theorem refs_at : ∀ (n k i : Nat), i < k → (refs n k)[i]? = some (.ref (n + i))
  | n, 0, i, h => absurd h (Nat.not_lt_zero _)
  | n, k + 1, 0, _ => rfl
  | n, k + 1, i + 1, h => by
    have z := refs_at (n + 1) k i (Nat.lt_of_succ_lt_succ h)
    have e : n + 1 + i = n + (i + 1) := by omega
    rw [e] at z
    simpa [refs] using z

section
variable {prog : Program} {w : World} {A : Around} {E : Value → Shared → Prop}
theorem iterAll_texts : ∀ (ts : Tx) (acc : Array Value) (s : Shared) (Q : Array Value → Shared → Prop), Q (acc ++ (refs s.heap.objs.size ts.length).toArray) { s with heap := laid s.heap ts } →
    wpAny (model prog w) A (forIn (txv ts) acc fun x r => (do let y ← holding r.toList (pyIter x); pure (ForInStep.yield (r.push y)))) Q E s
  | [], acc, s, Q, h => by
    rw [txv, List.map_nil, List.forIn_nil]
    refine wpAny_pure ?_
    simpa [refs, laid] using h
  | v :: r, acc, s, Q, h => by
    rw [txv, List.map_cons, List.forIn_cons]
    refine wpAny_bind (wpAny_bind (wpAny_holding (wpAny_pyIter_strU (wpAny_pure ?_))))
    refine iterAll_texts r _ _ Q ?_
    have e : acc.push (.ref s.heap.objs.size) ++ (refs (s.heap.push (txo v)).objs.size r.length).toArray = acc ++ (refs s.heap.objs.size (r.length + 1)).toArray := by
      rw [Heap.size_push]
      apply Array.toList_inj.mp
      simp [refs]
    show Q (acc.push (.ref s.heap.objs.size) ++ (refs (s.heap.push (txo v)).objs.size r.length).toArray) _
    rw [e]
    exact h
theorem iterAll_ok (ts : Tx) {s : Shared} {Q : List Value → Shared → Prop} (h : Q (refs s.heap.objs.size ts.length) { s with heap := laid s.heap ts }) :
    wpAny (model prog w) A (Builtin.SmallTypes.iterAll (txv ts)) Q E s := by
  unfold Builtin.SmallTypes.iterAll
  refine wpAny_bind (iterAll_texts ts #[] s _ ?_)
  refine wpAny_pure ?_
  simpa using h
end
end TH
end
section
set_option Elab.async false
set_option maxRecDepth 100000
set_option maxHeartbeats 4000000
namespace TH
open PySem PySem.Spec PyProof.Rows L2

abbrev tupO (l : List Value) : Obj := { cls := .type "tuple", data := .seq l.toArray }
abbrev zipO (f0 f1 : Value) (TI TO : Addr) : Obj := { cls := .type "zip", data := .fields #[f0, f1, .bool false, .ref TI, .ref TO] }
def zheap (h : Heap) (ts : Tx) : Heap :=
  (((laid h ts).push (tupO (refs h.objs.size ts.length))).push (tupO ((refs h.objs.size ts.length).map fun _ => .none))).push (zipO .none (.bool false) (h.objs.size + ts.length) (h.objs.size + ts.length + 1))

theorem argsOk_init : ∀ (obj : Value) (ts : Tx), ts.length ≤ 8 → argsOk "object.__init__" ⟨obj :: txv ts, []⟩
  | obj, [], _ => by show argsOk "object.__init__" ⟨[obj], []⟩; unfold argsOk; kernel_rfl
  | obj, [a], _ => by show argsOk "object.__init__" ⟨[obj, _], []⟩; unfold argsOk; kernel_rfl
  | obj, [a, b], _ => by show argsOk "object.__init__" ⟨[obj, _, _], []⟩; unfold argsOk; kernel_rfl
  | obj, [a, b, c], _ => by show argsOk "object.__init__" ⟨[obj, _, _, _], []⟩; unfold argsOk; kernel_rfl
  | obj, [a, b, c, d], _ => by show argsOk "object.__init__" ⟨[obj, _, _, _, _], []⟩; unfold argsOk; kernel_rfl
  | obj, [a, b, c, d, e], _ => by show argsOk "object.__init__" ⟨[obj, _, _, _, _, _], []⟩; unfold argsOk; kernel_rfl
  | obj, [a, b, c, d, e, f], _ => by show argsOk "object.__init__" ⟨[obj, _, _, _, _, _, _], []⟩; unfold argsOk; kernel_rfl
  | obj, [a, b, c, d, e, f, g], _ => by show argsOk "object.__init__" ⟨[obj, _, _, _, _, _, _, _], []⟩; unfold argsOk; kernel_rfl
  | obj, [a, b, c, d, e, f, g, h], _ => by show argsOk "object.__init__" ⟨[obj, _, _, _, _, _, _, _, _], []⟩; unfold argsOk; kernel_rfl
  | obj, _ :: _ :: _ :: _ :: _ :: _ :: _ :: _ :: _ :: r, h => by simp at h
theorem typeCall_zip : ∀ (ts : Tx), ts.length ≤ 8 → checkTypeCall "zip" ⟨txv ts, []⟩ = pure ()
  | [], _ => by show checkTypeCall "zip" ⟨[], []⟩ = pure (); kernel_rfl
  | [a], _ => by show checkTypeCall "zip" ⟨[_], []⟩ = pure (); kernel_rfl
  | [a, b], _ => by show checkTypeCall "zip" ⟨[_, _], []⟩ = pure (); kernel_rfl
  | [a, b, c], _ => by show checkTypeCall "zip" ⟨[_, _, _], []⟩ = pure (); kernel_rfl
  | [a, b, c, d], _ => by show checkTypeCall "zip" ⟨[_, _, _, _], []⟩ = pure (); kernel_rfl
  | [a, b, c, d, e], _ => by show checkTypeCall "zip" ⟨[_, _, _, _, _], []⟩ = pure (); kernel_rfl
  | [a, b, c, d, e, f], _ => by show checkTypeCall "zip" ⟨[_, _, _, _, _, _], []⟩ = pure (); kernel_rfl
  | [a, b, c, d, e, f, g], _ => by show checkTypeCall "zip" ⟨[_, _, _, _, _, _, _], []⟩ = pure (); kernel_rfl
  | [a, b, c, d, e, f, g, h], _ => by show checkTypeCall "zip" ⟨[_, _, _, _, _, _, _, _], []⟩ = pure (); kernel_rfl
  | _ :: _ :: _ :: _ :: _ :: _ :: _ :: _ :: _ :: r, h => by simp at h
theorem newCall_zip : ∀ (ts : Tx), ts.length ≤ 8 → checkBuiltinCall "zip.__new__" ⟨.type "zip" :: txv ts, []⟩ = pure ()
  | [], _ => by show checkBuiltinCall "zip.__new__" ⟨[_], []⟩ = pure (); kernel_rfl
  | [a], _ => by show checkBuiltinCall "zip.__new__" ⟨[_, _], []⟩ = pure (); kernel_rfl
  | [a, b], _ => by show checkBuiltinCall "zip.__new__" ⟨[_, _, _], []⟩ = pure (); kernel_rfl
  | [a, b, c], _ => by show checkBuiltinCall "zip.__new__" ⟨[_, _, _, _], []⟩ = pure (); kernel_rfl
  | [a, b, c, d], _ => by show checkBuiltinCall "zip.__new__" ⟨[_, _, _, _, _], []⟩ = pure (); kernel_rfl
  | [a, b, c, d, e], _ => by show checkBuiltinCall "zip.__new__" ⟨[_, _, _, _, _, _], []⟩ = pure (); kernel_rfl
  | [a, b, c, d, e, f], _ => by show checkBuiltinCall "zip.__new__" ⟨[_, _, _, _, _, _, _], []⟩ = pure (); kernel_rfl
  | [a, b, c, d, e, f, g], _ => by show checkBuiltinCall "zip.__new__" ⟨[_, _, _, _, _, _, _, _], []⟩ = pure (); kernel_rfl
  | [a, b, c, d, e, f, g, h], _ => by show checkBuiltinCall "zip.__new__" ⟨[_, _, _, _, _, _, _, _, _], []⟩ = pure (); kernel_rfl
  | _ :: _ :: _ :: _ :: _ :: _ :: _ :: _ :: _ :: r, h => by simp at h

theorem meets_zip_new (ts : Tx) (hl : ts.length ≤ 8) :
    Meets (Builtin.«zip.__new__» ⟨.type "zip" :: txv ts, []⟩) (fun _ R s => R (.ok (.ret (.ref (s.heap.objs.size + ts.length + 2)))) { s with heap := zheap s.heap ts }) :=
  .of_wp fun prog w A R s h => by
    obtain ⟨hp, g, d, tk, os⟩ := s
    have hsub := sub_zip
    have q1 : ∀ {A' : Around} {E : Value → Shared → Prop} {Q : List Value → Shared → Prop}, Q (refs hp.objs.size ts.length) ⟨laid hp ts, g, d, tk, os⟩ → wpAny (model prog w) A' (Builtin.SmallTypes.iterAll (txv ts)) Q E ⟨hp, g, d, tk, os⟩ :=
      fun q => iterAll_ok ts q
    have sz1 : (refs hp.objs.size ts.length).length ≤ sizeLine := by rw [refs_length]; exact Nat.le_trans hl (by decide)
    unfold Builtin.«zip.__new__»
    wp_walk using q1
    refine ⟨_, rfl, ?_⟩
    have z1 : (laid hp ts).objs.size = hp.objs.size + ts.length := laid_size ts hp
    have z2 : ((laid hp ts).push (tupO (refs hp.objs.size ts.length))).objs.size = hp.objs.size + ts.length + 1 := by rw [Heap.size_push, z1]
    have z3 : (((laid hp ts).push (tupO (refs hp.objs.size ts.length))).push (tupO ((refs hp.objs.size ts.length).map fun _ => .none))).objs.size = hp.objs.size + ts.length + 2 := by rw [Heap.size_push, z2]
    rw [z1, z2, z3]
    exact h

/-- what stands behind zip(..) over texts -/
structure ZAt (h : Heap) (b : Nat) (ts : Tx) (f0 f1 : Value) (i : Nat) : Prop where
  zip : h.get? (b + ts.length + 2) = some (zipO f0 f1 (b + ts.length) (b + ts.length + 1))
  its : h.get? (b + ts.length) = some (tupO (refs b ts.length))
  txt : ∀ (k : Nat) (v : Str × Tok), ts[k]? = some v → h.IsStrIter (b + k) (strIterType v.1) v.1 v.2 i
theorem zheap_old {h : Heap} {ts : Tx} {c : Addr} {o : Obj} (e : h.get? c = some o) : (zheap h ts).get? c = some o :=
  Heap.get?_push_of_some _ (Heap.get?_push_of_some _ (Heap.get?_push_of_some _ (laid_old ts h c o e)))
theorem zheap_at (h : Heap) (ts : Tx) : ZAt (zheap h ts) h.objs.size ts .none (.bool false) 0 ∧ ∃ l, l.length = ts.length ∧ (zheap h ts).get? (h.objs.size + ts.length + 1) = some (tupO l) := by
  have z1 : (laid h ts).objs.size = h.objs.size + ts.length := laid_size ts h
  have z2 : ((laid h ts).push (tupO (refs h.objs.size ts.length))).objs.size = h.objs.size + ts.length + 1 := by rw [Heap.size_push, z1]
  have z3 : (((laid h ts).push (tupO (refs h.objs.size ts.length))).push (tupO ((refs h.objs.size ts.length).map fun _ => .none))).objs.size = h.objs.size + ts.length + 2 := by rw [Heap.size_push, z2]
  have e1 : (zheap h ts).get? (h.objs.size + ts.length) = some (tupO (refs h.objs.size ts.length)) := by
    rw [← z1]
    exact Heap.get?_push_of_some _ (Heap.get?_push_of_some _ (Heap.get?_push_size _ rfl))
  have e2 : (zheap h ts).get? (h.objs.size + ts.length + 1) = some (tupO ((refs h.objs.size ts.length).map fun _ => .none)) := by
    rw [← z2]
    exact Heap.get?_push_of_some _ (Heap.get?_push_size _ rfl)
  have e3 : (zheap h ts).get? (h.objs.size + ts.length + 2) = some (zipO .none (.bool false) (h.objs.size + ts.length) (h.objs.size + ts.length + 1)) := by
    rw [← z3]
    exact Heap.get?_push_size _ rfl
  refine ⟨⟨e3, e1, fun k v hv => ?_⟩, _, ?_, e2⟩
  · exact ⟨_, Heap.get?_push_of_some _ (Heap.get?_push_of_some _ (Heap.get?_push_of_some _ (laid_at ts h k v hv))), rfl, rfl⟩
  · rw [List.length_map, refs_length]

theorem call_zip {prog : Program} {w : World} {A : Around} {E : Value → Shared → Prop} {s : Shared} {Q : Value → Shared → Prop} (ts : Tx) (hl : ts.length ≤ 8)
    (h : Q (.ref (s.heap.objs.size + ts.length + 2)) { s with heap := zheap s.heap ts }) : wpAny (model prog w) A (call (.type "zip") (txv ts)) Q E s := by
  refine callType_new F.called_zip (by decide) (typeCall_zip ts hl) (newCall_zip ts hl) (fun obj => argsOk_init obj ts hl) F.entry_zip_new (meets_zip_new ts hl) ?_
  have e3 := (zheap_at s.heap ts).1.zip
  exact ⟨⟨_, e3, rfl⟩, h⟩
end TH
end
section
set_option Elab.async false
set_option maxRecDepth 100000
set_option maxHeartbeats 4000000
namespace TH
open PySem PySem.Spec PyProof.Rows L2
theorem nn {x y : Nat} (h : x < y ∨ y < x) : x ≠ y := fun e => by subst e; omega
section
variable {prog : Program} {w : World} {A : Around} {E : Value → Shared → Prop}
/-- a loop over a list of the model's own, by what holds ahead of its k-th turn -/
theorem loop_inv {α β : Type} {f : α → β → Sem (ForInStep β)} {Q : β → Shared → Prop} (I : Nat → β → Shared → Prop) : ∀ (xs : List α) (n : Nat) (y : β) (s : Shared), I n y s →
    (∀ k x y s, xs[k]? = some x → I (n + k) y s → wpAny (model prog w) A (f x y) (fun r s' => ∃ y', r = .yield y' ∧ I (n + k + 1) y' s') E s) →
    (∀ y s, I (n + xs.length) y s → Q y s) → wpAny (model prog w) A (forIn xs y f) Q E s
  | [], n, y, s, h0, _, he => by
    rw [List.forIn_nil]
    exact wpAny_pure (he y s h0)
  | x :: r, n, y, s, h0, hs, he => by
    rw [List.forIn_cons]
    refine wpAny_bind (wpAny_mono (hs 0 x y s rfl h0) (fun r1 s1 hr => ?_) fun _ _ z => z)
    obtain ⟨y1, rfl, h1⟩ := hr
    refine loop_inv I r (n + 1) y1 s1 h1 (fun k x' y' s' hk hI => ?_) fun y' s' hI => he y' s' ?_
    · have z := hs (k + 1) x' y' s' (by simpa using hk) (by
        have e : n + 1 + k = n + (k + 1) := by omega
        rw [e] at hI
        exact hI)
      have e : n + (k + 1) + 1 = n + 1 + k + 1 := by omega
      rw [e] at z
      exact z
    · have e : n + 1 + r.length = n + (r.length + 1) := by omega
      rw [e] at hI
      exact hI

/-- the signs of the texts at place i -/
def ColAt (ts : Tx) (i : Nat) (l : List Value) : Prop := l.length = ts.length ∧ ∀ (k : Nat) (v : Str × Tok), ts[k]? = some v → ∃ (c : Nat) (u : Tok), v.1.cps[i]? = some c ∧ l[k]? = some (Value.str ⟨#[c]⟩ u)
/-- outside b .. b + n all stands -/
def Out (b n : Nat) (h h' : Heap) : Prop := h'.objs.size = h.objs.size ∧ ∀ (c : Nat) (o : Obj), (c < b ∨ b + n < c) → h.get? c = some o → h'.get? c = some o
/-- k of the iterators have gone on -/
structure Mid (hp : Heap) (b : Nat) (ts : Tx) (f0 : Value) (i k : Nat) (h : Heap) : Prop where
  out : Out b (ts.length + 2) hp h
  zip : ∃ f1, h.get? (b + ts.length + 2) = some (zipO f0 f1 (b + ts.length) (b + ts.length + 1))
  its : h.get? (b + ts.length) = some (tupO (refs b ts.length))
  txt : ∀ (j : Nat) (v : Str × Tok), ts[j]? = some v → h.IsStrIter (b + j) (strIterType v.1) v.1 v.2 (if j < k then i + 1 else i)
theorem strIter_other {h h' : Heap} {a c : Addr} {ty : String} {x : Str} {t : Tok} {i : Nat} (q : h.IsStrIter a ty x t i) (sb : Heap.SameBut c h h') (hne : a ≠ c) : h'.IsStrIter a ty x t i := by
  obtain ⟨o, ho, r⟩ := q
  exact ⟨o, (sb.2 a hne).trans ho, r⟩
theorem Mid.step {hp h h' : Heap} {b : Nat} {ts : Tx} {f0 : Value} {i k : Nat} {v : Str × Tok} (M : Mid hp b ts f0 i k h) (hk : ts[k]? = some v) (sb : Heap.SameBut (b + k) h h') (st : h'.IsStrIter (b + k) (strIterType v.1) v.1 v.2 (i + 1)) : Mid hp b ts f0 i (k + 1) h' := by
  have hkl : k < ts.length := (List.getElem?_eq_some_iff.mp hk).1
  obtain ⟨f1, hz⟩ := M.zip
  refine ⟨⟨sb.1.trans M.out.1, fun c o hc e => (sb.2 c (nn (by omega))).trans (M.out.2 c o hc e)⟩, ⟨f1, (sb.2 (b + ts.length + 2) (nn (by omega))).trans hz⟩, (sb.2 (b + ts.length) (nn (by omega))).trans M.its, fun j u hj => ?_⟩
  by_cases hjk : j = k
  · subst hjk
    rw [if_pos (Nat.lt_succ_self _)]
    rw [hk] at hj
    cases hj
    exact st
  · have z := strIter_other (M.txt j u hj) sb (nn (x := b + j) (y := b + k) (by omega))
    by_cases hlt : j < k
    · rw [if_pos hlt] at z
      rw [if_pos (show j < k + 1 by omega)]
      exact z
    · rw [if_neg hlt] at z
      rw [if_neg (show ¬ j < k + 1 by omega)]
      exact z
theorem Mid.other {hp h h' : Heap} {b : Nat} {ts : Tx} {f0 : Value} {i k : Nat} (M : Mid hp b ts f0 i k h) (sb : Heap.SameBut (b + ts.length + 1) h h') : Mid hp b ts f0 i k h' := by
  obtain ⟨f1, hz⟩ := M.zip
  refine ⟨⟨sb.1.trans M.out.1, fun c o hc e => (sb.2 c (nn (by omega))).trans (M.out.2 c o hc e)⟩, ⟨f1, (sb.2 (b + ts.length + 2) (nn (by omega))).trans hz⟩, (sb.2 (b + ts.length) (nn (by omega))).trans M.its, fun j u hj => ?_⟩
  have hjl : j < ts.length := (List.getElem?_eq_some_iff.mp hj).1
  exact strIter_other (M.txt j u hj) sb (nn (x := b + j) (y := b + ts.length + 1) (by omega))
theorem Mid.start {hp h : Heap} {b : Nat} {ts : Tx} {f0 g0 f1 : Value} {i : Nat} (Z : ZAt hp b ts f0 f1 i) (sb : Heap.SameBut (b + ts.length + 2) hp h) (hz : ∃ f1, h.get? (b + ts.length + 2) = some (zipO g0 f1 (b + ts.length) (b + ts.length + 1))) : Mid hp b ts g0 i 0 h := by
  refine ⟨⟨sb.1, fun c o hc e => (sb.2 c (nn (by omega))).trans e⟩, hz, (sb.2 (b + ts.length) (nn (by omega))).trans Z.its, fun j u hj => ?_⟩
  have hjl : j < ts.length := (List.getElem?_eq_some_iff.mp hj).1
  rw [if_neg (Nat.not_lt_zero _)]
  exact strIter_other (Z.txt j u hj) sb (nn (x := b + j) (y := b + ts.length + 2) (by omega))
theorem Mid.fin {hp h : Heap} {b : Nat} {ts : Tx} {f0 : Value} {i : Nat} (M : Mid hp b ts f0 i ts.length h) : ∃ f1, ZAt h b ts f0 f1 (i + 1) := by
  obtain ⟨f1, hz⟩ := M.zip
  refine ⟨f1, hz, M.its, fun j v hj => ?_⟩
  have z := M.txt j v hj
  rw [if_pos (List.getElem?_eq_some_iff.mp hj).1] at z
  exact z
/-- the k-th iterator goes on -/
theorem draw_ok {hp : Heap} {s : Shared} {b : Nat} {ts : Tx} {f0 : Value} {i k : Nat} {v : Str × Tok} {Q : Value → Shared → Prop} (hh : A.handled = none) (M : Mid hp b ts f0 i k s.heap) (hk : ts[k]? = some v) (hi : i < v.1.cps.size)
    (hQ : ∀ c u h' tk, v.1.cps[i]? = some c → Mid hp b ts f0 i (k + 1) h' → Heap.SameBut (b + k) s.heap h' → Q (.str ⟨#[c]⟩ u) { s with heap := h', toks := tk }) :
    wpAny (model prog w) A (Builtin.SmallTypes.nextOf (.ref (b + k))) Q E s := by
  have st := M.txt k v hk
  rw [if_neg (Nat.lt_irrefl _)] at st
  refine (Draws.text (prog := prog) (w := w) hh (b + k) v.1 v.2).item i s _ _ hi st fun x h' tk hx st' sb => ?_
  obtain ⟨c, u, hc, rfl⟩ := hx
  exact hQ c u h' tk hc (M.step hk sb st') sb
end
end TH
end
section
set_option Elab.async false
set_option maxRecDepth 100000
set_option maxHeartbeats 4000000
namespace TH
open PySem PySem.Spec PyProof.Rows L2
section
variable {prog : Program} {w : World} {A : Around} {E : Value → Shared → Prop}
theorem refs_ne {b n : Nat} (h : 0 < n) : (refs b n).toArray.isEmpty = false := by
  cases n with
  | zero => exact absurd h (Nat.lt_irrefl _)
  | succ n => rfl
theorem refs_get {b n k : Nat} {x : Value} (h : (refs b n)[k]? = some x) : k < n ∧ x = .ref (b + k) := by
  have hk : k < n := by
    have z := (List.getElem?_eq_some_iff.mp h).1
    rw [refs_length] at z
    exact z
  have z := refs_at b n k hk
  rw [z] at h
  exact ⟨hk, (Option.some.inj h).symm⟩
theorem alive_any {s : Shared} {a : Addr} {Q : Option Obj → Shared → Prop} (h : Q (s.heap.get? a) s) : wpAny (model prog w) A (loadIfAlive a) Q E s := fun _ _ _ => h
/-- what stands between the turns -/
structure Bet (h : Heap) (b : Nat) (ts : Tx) (i : Nat) : Prop where
  at_ : ∃ (f0 : Value) (fb : Bool), ZAt h b ts f0 (.bool fb) i ∧ (f0 = .none ∨ ∃ T : Nat, f0 = rawInt T)
  own : ∃ l : List Value, h.get? (b + ts.length + 1) = some (tupO l) ∧ l.length = ts.length
/-- what a turn hands on -/
def Nxt (hp : Heap) (g : Array GenState) (d : Drawn) (os : OsState) (b : Nat) (ts : Tx) (i : Nat) (Q : Value → Shared → Prop) : Prop :=
  ∀ (us : List Value) (h' : Heap) (tk' : Nat), ColAt ts i us → Bet h' b ts (i + 1) → h'.get? hp.objs.size = some (tupO us) →
    (∀ (c : Nat) (o : Obj), (c < b ∨ b + (ts.length + 2) < c) → hp.get? c = some o → h'.get? c = some o) → Q (.ref hp.objs.size) ⟨h', g, d, tk', os⟩
theorem is_free {s : Shared} {b : Nat} {ts : Tx} {i : Nat} {f0 : Value} {fb : Bool} {Q : Bool → Shared → Prop} (Z : ZAt s.heap b ts f0 (.bool fb) i) (hf : f0 = .none ∨ ∃ T : Nat, f0 = rawInt T)
    (h1 : Q true s) (h2 : ∀ (h' : Heap), Heap.SameBut (b + ts.length + 2) s.heap h' → h'.get? (b + ts.length + 2) = some (zipO f0 (.bool true) (b + ts.length) (b + ts.length + 1)) → Q false { s with heap := h' }) :
    wpAny (model prog w) A (Builtin.SmallTypes.ownedTupleIsFree (.ref (b + ts.length + 2))) Q E s := by
  unfold Builtin.SmallTypes.ownedTupleIsFree
  refine wpAny_bind (wpAny_field Z.zip rfl (x := f0) rfl ?_)
  rcases hf with rfl | ⟨T, rfl⟩
  · exact wpAny_pure h1
  · show wpAny _ _ (loadIfAlive ((T : Int).toNat) >>= _) _ _ _
    rw [Int.toNat_natCast]
    refine wpAny_bind (alive_any ?_)
    cases hT : s.heap.get? T with
    | none => exact wpAny_pure h1
    | some o =>
      simp only [Option.isNone_some, Bool.false_eq_true, if_false]
      refine wpAny_bind (wpAny_field Z.zip rfl (x := .bool fb) rfl ?_)
      cases fb with
      | true => exact wpAny_pure (h2 s.heap (Heap.SameBut.refl _ _) Z.zip)
      | false => exact wpAny_bind (wpAny_setField_rec Z.zip (by simp) fun h' hz hs => wpAny_pure (h2 h' hs hz))
/-- a turn -/
theorem next_item {hp : Heap} {g : Array GenState} {d : Drawn} {tk : Nat} {os : OsState} {b : Nat} {ts : Tx} {i : Nat} {Q : Value → Shared → Prop} (hh : A.handled = none) (B : Bet hp b ts i) (h1 : 0 < ts.length) (h8 : ts.length ≤ 8)
    (hi : ∀ (k : Nat) (v : Str × Tok), ts[k]? = some v → i < v.1.cps.size) (hQ : Nxt hp g d os b ts i Q) :
    wpAny (model prog w) A (Builtin.«zip.__next__» ⟨[.ref (b + ts.length + 2)], []⟩) (fun fin s' => ∃ v, fin = .done (.ret v) ∧ Q v s') E ⟨hp, g, d, tk, os⟩ := by
  obtain ⟨⟨f0, fb, Z, hf⟩, l, hT, hl⟩ := B
  show wpAny _ _ (field (.ref _) 2 >>= _) _ _ _
  refine wpAny_bind (wpAny_field Z.zip rfl (x := .bool false) rfl ?_)
  show wpAny _ _ (field (.ref _) 3 >>= _) _ _ _
  refine wpAny_bind (wpAny_field Z.zip rfl (x := .ref (b + ts.length)) rfl ?_)
  refine wpAny_bind (wpAny_seqItems Z.its rfl ?_)
  dsimp only
  rw [if_neg (by rw [refs_ne h1]; exact Bool.false_ne_true)]
  refine wpAny_bind (is_free Z hf ?_ fun hA hs0 hz0 => ?_)
  · rw [if_pos rfl]
    refine wpAny_bind (wpAny_rule ?_)
    refine wpAny_bind (wpAny_field Z.zip rfl (x := .ref (b + ts.length + 1)) rfl ?_)
    refine wpAny_bind (wpAny_setField_rec Z.zip (by simp) fun g0 hz0 hs0 => ?_)
    replace hs0 : Heap.SameBut (b + ts.length + 2) hp g0 := hs0
    have M0 : Mid hp b ts .ellipsis i 0 g0 := Mid.start Z hs0 ⟨_, hz0⟩
    have hT0 : g0.get? (b + ts.length + 1) = some (tupO l) := (hs0.2 (b + ts.length + 1) (nn (by omega))).trans hT
    refine wpAny_bind (loop_inv (I := fun k y s => y = (none, ()) ∧ (∃ (h : Heap) (tk' : Nat) (us : List Value), s = ⟨h, g, d, tk', os⟩ ∧ Mid hp b ts .ellipsis i k h ∧ h.get? (b + ts.length + 1) = some (tupO us) ∧ us.length = ts.length ∧
        ∀ (j : Nat) (v : Str × Tok), j < k → ts[j]? = some v → ∃ (c : Nat) (u : Tok), v.1.cps[i]? = some c ∧ us[j]? = some (Value.str ⟨#[c]⟩ u))) _ 0 _ _ ⟨rfl, g0, tk, l, rfl, M0, hT0, hl, fun j v hj => absurd hj (Nat.not_lt_zero _)⟩ ?_ ?_)
    · rintro k ⟨x, k'⟩ y s hk ⟨rfl, h, tk', us, rfl, M, hU, hul, hgot⟩
      simp only [Nat.zero_add] at M hgot ⊢
      rw [List.getElem?_zipIdx] at hk
      cases hx : (refs b ts.length)[k]? with
      | none => simp [hx] at hk
      | some x' =>
        simp [hx] at hk
        obtain ⟨e1, e2⟩ := hk
        obtain ⟨hkl, ex⟩ := refs_get hx
        subst e1
        subst ex
        subst e2
        have hv : ts[k]? = some ts[k] := List.getElem?_eq_getElem hkl
        refine wpAny_bind (wpAny_onRaise ?_)
        show wpAny _ _ (Builtin.SmallTypes.nextOf (.ref (b + k)) >>= _) _ _ ⟨h, g, d, tk', os⟩
        refine wpAny_bind (draw_ok hh M hv (hi k _ hv) fun c u h' tk2 hc M' sb => wpAny_pure ?_)
        have hU' : h'.get? (b + ts.length + 1) = some (tupO us) := (sb.2 (b + ts.length + 1) (nn (by omega))).trans hU
        refine wpAny_bind (wpAny_seqItems (s := ⟨h', g, d, tk2, os⟩) hU' rfl ?_)
        refine wpAny_bind (wpAny_updateSeq (s := ⟨h', g, d, tk2, os⟩) hU' rfl ?_)
        refine wpAny_bind (wpAny_letGo (wpAny_pure ⟨_, rfl, rfl, _, _, us.set k (.str ⟨#[c]⟩ u), rfl, M'.other (Heap.SameBut.update ..), ?_, ?_, ?_⟩))
        · rw [Heap.get?_update_self _ hU' rfl]
          simp [Obj.mapSeq]
        · rw [List.length_set]
          exact hul
        · intro j v hj hjv
          by_cases hjk : j = k
          · subst hjk
            rw [hv] at hjv
            cases hjv
            exact ⟨c, u, hc, List.getElem?_set_self (by rw [hul]; exact hkl)⟩
          · obtain ⟨c', u', e1, e2⟩ := hgot j v (by omega) hjv
            exact ⟨c', u', e1, by rw [List.getElem?_set_ne (fun e => hjk e.symm)]; exact e2⟩
    · rintro y s ⟨rfl, h, tk', us, rfl, M, hU, hul, hgot⟩
      have el : 0 + (refs b ts.length).toArray.toList.zipIdx.length = ts.length := by
        simp [refs_length]
      rw [el] at M hgot
      refine wpAny_bind (wpAny_seqItems (s := ⟨h, g, d, tk', os⟩) hU rfl ?_)
      refine wpAny_bind (wpAny_newTuple ?_ (by simp; rw [hul]; exact Nat.le_trans h8 (by decide)))
      obtain ⟨f1, Z1⟩ := M.fin
      have hsz : h.objs.size = hp.objs.size := M.out.1
      have hz1 : (h.push (tupO us)).get? (b + ts.length + 2) = some (zipO .ellipsis f1 (b + ts.length) (b + ts.length + 1)) := Heap.get?_push_of_some _ Z1.zip
      have hzl : b + ts.length + 2 < h.objs.size := Heap.lt_size Z1.zip
      show wpAny _ _ (Builtin.SmallTypes.ownedTupleHandOut (.ref _) (.ref h.objs.size) >>= _) _ _ ⟨h.push (tupO us), g, d, tk', os⟩
      refine wpAny_bind ?_
      unfold Builtin.SmallTypes.ownedTupleHandOut
      refine wpAny_bind (wpAny_setField_rec hz1 (by simp) fun h7 hz7 hs7 => ?_)
      replace hz7 : h7.get? (b + ts.length + 2) = some (zipO (rawInt h.objs.size) f1 (b + ts.length) (b + ts.length + 1)) := hz7
      replace hs7 : Heap.SameBut (b + ts.length + 2) (h.push (tupO us)) h7 := hs7
      refine wpAny_setField_rec hz7 (by simp) fun h8' hz8 hs8 => ?_
      replace hz8 : h8'.get? (b + ts.length + 2) = some (zipO (rawInt h.objs.size) (.bool false) (b + ts.length) (b + ts.length + 1)) := hz8
      replace hs8 : Heap.SameBut (b + ts.length + 2) h7 h8' := hs8
      have up : ∀ (c : Nat) (o : Obj), c ≠ b + ts.length + 2 → h.get? c = some o → h8'.get? c = some o := fun c o hc e => (hs8.2 c hc).trans ((hs7.2 c hc).trans (Heap.get?_push_of_some _ e))
      refine wpAny_pure ⟨_, rfl, ?_⟩
      rw [hsz] at hz8 ⊢
      refine hQ us h8' tk' ⟨hul, fun k v hk => hgot k v (List.getElem?_eq_some_iff.mp hk).1 hk⟩ ⟨⟨_, false, ⟨hz8, up _ _ (nn (by omega)) Z1.its, fun k v hk => ?_⟩, .inr ⟨_, rfl⟩⟩, _, up _ _ (nn (by omega)) hU, hul⟩ ?_ fun c o hc e => ?_
      · have hkl : k < ts.length := (List.getElem?_eq_some_iff.mp hk).1
        obtain ⟨o, ho, r⟩ := Z1.txt k v hk
        exact ⟨o, up _ _ (nn (x := b + k) (y := b + ts.length + 2) (by omega)) ho, r⟩
      · rw [← hsz]
        exact (hs8.2 h.objs.size (nn (by omega))).trans ((hs7.2 h.objs.size (nn (by omega))).trans (Heap.get?_push_size _ rfl))
      · exact up c o (nn (by omega)) (M.out.2 c o hc e)
  · rw [if_neg Bool.false_ne_true]
    have M0 : Mid hp b ts f0 i 0 hA := Mid.start Z hs0 ⟨_, hz0⟩
    have hT0 : hA.get? (b + ts.length + 1) = some (tupO l) := (hs0.2 (b + ts.length + 1) (nn (by omega))).trans hT
    have hz0' : hA.get? (b + ts.length + 2) = some (zipO f0 (.bool true) (b + ts.length) (b + ts.length + 1)) := hz0
    dsimp only
    rw [List.forIn_toArray]
    refine wpAny_bind (loop_inv (I := fun k y s => ∃ (h : Heap) (tk' : Nat) (us : List Value), y = (none, us.toArray) ∧ s = ⟨h, g, d, tk', os⟩ ∧ Mid hp b ts f0 i k h ∧ h.get? (b + ts.length + 2) = some (zipO f0 (.bool true) (b + ts.length) (b + ts.length + 1)) ∧
        h.get? (b + ts.length + 1) = some (tupO l) ∧ us.length = k ∧
        ∀ (j : Nat) (v : Str × Tok), j < k → ts[j]? = some v → ∃ (c : Nat) (u : Tok), v.1.cps[i]? = some c ∧ us[j]? = some (Value.str ⟨#[c]⟩ u)) _ 0 _ _ ⟨hA, tk, [], rfl, rfl, M0, hz0', hT0, rfl, fun j v hj => absurd hj (Nat.not_lt_zero _)⟩ ?_ ?_)
    · rintro k x y s hk ⟨h, tk', us, rfl, rfl, M, hz, hU, hul, hgot⟩
      simp only [Nat.zero_add] at M hgot hul ⊢
      obtain ⟨hkl, ex⟩ := refs_get hk
      subst ex
      have hv : ts[k]? = some ts[k] := List.getElem?_eq_getElem hkl
      refine wpAny_bind (wpAny_holding ?_)
      show wpAny _ _ (Builtin.SmallTypes.nextOf (.ref (b + k)) >>= _) _ _ ⟨h, g, d, tk', os⟩
      refine wpAny_bind (draw_ok hh M hv (hi k _ hv) fun c u h' tk2 hc M' sb => wpAny_pure ?_)
      refine wpAny_pure ⟨_, rfl, h', tk2, us ++ [.str ⟨#[c]⟩ u], by simp, rfl, M', (sb.2 (b + ts.length + 2) (nn (by omega))).trans hz, (sb.2 (b + ts.length + 1) (nn (by omega))).trans hU, by rw [List.length_append, hul]; rfl, fun j v hj hjv => ?_⟩
      by_cases hjk : j = k
      · subst hjk
        rw [hv] at hjv
        cases hjv
        exact ⟨c, u, hc, by rw [List.getElem?_append_right (by omega), hul]; simp⟩
      · obtain ⟨c', u', e1, e2⟩ := hgot j v (by omega) hjv
        exact ⟨c', u', e1, by rw [List.getElem?_append_left (by omega)]; exact e2⟩
    · rintro y s ⟨h, tk', us, rfl, rfl, M, hz, hU, hul, hgot⟩
      have el : 0 + (refs b ts.length).length = ts.length := by
        simp [refs_length]
      rw [el] at M hgot hul
      refine wpAny_bind (wpAny_newTuple (wpAny_pure ⟨_, rfl, ?_⟩) (by simp; rw [hul]; exact Nat.le_trans h8 (by decide)))
      obtain ⟨f1, Z1⟩ := M.fin
      have hsz : h.objs.size = hp.objs.size := M.out.1
      have hzl : b + ts.length + 2 < h.objs.size := Heap.lt_size Z1.zip
      have up : ∀ (c : Nat) (o : Obj), h.get? c = some o → (h.push (tupO us)).get? c = some o := fun c o e => Heap.get?_push_of_some _ e
      show Q (.ref h.objs.size) ⟨h.push (tupO us), g, d, tk', os⟩
      have hnew : (h.push (tupO us)).get? h.objs.size = some (tupO us) := Heap.get?_push_size _ rfl
      rw [hsz] at hnew ⊢
      refine hQ us _ tk' ⟨hul, fun k v hk => hgot k v (List.getElem?_eq_some_iff.mp hk).1 hk⟩ ⟨⟨_, true, ⟨up _ _ hz, up _ _ Z1.its, fun k v hk => ?_⟩, hf⟩, _, up _ _ hU, hl⟩ hnew fun c o hc e => up c o (M.out.2 c o hc e)
      obtain ⟨o, ho, r⟩ := Z1.txt k v hk
      exact ⟨o, up _ _ ho, r⟩
end
end TH
end
section
set_option Elab.async false
set_option maxRecDepth 100000
set_option maxHeartbeats 4000000
namespace TH
open PySem PySem.Spec PyProof.Rows L2
section
variable {prog : Program} {w : World} {A : Around} {E : Value → Shared → Prop}
theorem loop_first {α β : Type} {f : α → β → Sem (ForInStep β)} {Q : β → Shared → Prop} {x : α} {r : List α} {y : β} {s : Shared} (h : wpAny (model prog w) A (f x y) (fun _ _ => False) E s) : wpAny (model prog w) A (forIn (x :: r) y f) Q E s := by
  rw [List.forIn_cons]
  exact wpAny_bind (wpAny_mono h (fun _ _ z => z.elim) fun _ _ z => z)
/-- the first iterator is at its end -/
theorem draw_end {s : Shared} {a : Addr} {v : Str × Tok} {Q : Value → Shared → Prop} (hh : A.handled = none) (st : s.heap.IsStrIter a (strIterType v.1) v.1 v.2 v.1.cps.size)
    (hE : ∀ (h' : Heap) (e : Addr), Heap.ExtBut a s.heap h' → (∃ o, h'.get? e = some o ∧ o.cls = .type "StopIteration") → E (.ref e) { s with heap := h' }) : wpAny (model prog w) A (Builtin.SmallTypes.nextOf (.ref a)) Q E s :=
  (Draws.text (prog := prog) (w := w) hh a v.1 v.2).done s _ _ st hE
theorem next_end {hp : Heap} {g : Array GenState} {d : Drawn} {tk : Nat} {os : OsState} {b : Nat} {v : Str × Tok} {ts : Tx} {Q : Fin → Shared → Prop} (hh : A.handled = none) (B : Bet hp b (v :: ts) v.1.cps.size)
    (hE : ∀ (h' : Heap) (e : Addr), (∀ (c : Nat) (o : Obj), (c < b ∨ b + ((v :: ts).length + 2) < c) → hp.get? c = some o → h'.get? c = some o) → (∃ o, h'.get? e = some o ∧ o.cls = .type "StopIteration") → E (.ref e) ⟨h', g, d, tk, os⟩) :
    wpAny (model prog w) A (Builtin.«zip.__next__» ⟨[.ref (b + (v :: ts).length + 2)], []⟩) Q E ⟨hp, g, d, tk, os⟩ := by
  obtain ⟨⟨f0, fb, Z, hf⟩, l, hT, hl⟩ := B
  show wpAny _ _ (field (.ref _) 2 >>= _) _ _ _
  refine wpAny_bind (wpAny_field Z.zip rfl (x := .bool false) rfl ?_)
  show wpAny _ _ (field (.ref _) 3 >>= _) _ _ _
  refine wpAny_bind (wpAny_field Z.zip rfl (x := .ref (b + (v :: ts).length)) rfl ?_)
  refine wpAny_bind (wpAny_seqItems Z.its rfl ?_)
  dsimp only
  rw [if_neg (by rw [refs_ne (by simp)]; exact Bool.false_ne_true)]
  refine wpAny_bind (is_free Z hf ?_ fun hA hs0 hz0 => ?_)
  · rw [if_pos rfl]
    refine wpAny_bind (wpAny_rule ?_)
    refine wpAny_bind (wpAny_field Z.zip rfl (x := .ref (b + (v :: ts).length + 1)) rfl ?_)
    refine wpAny_bind (wpAny_setField_rec Z.zip (by simp) fun g0 hz0 hs0 => ?_)
    replace hs0 : Heap.SameBut (b + (v :: ts).length + 2) hp g0 := hs0
    have st := strIter_other (Z.txt 0 v rfl) hs0 (nn (x := b + 0) (y := b + (v :: ts).length + 2) (by omega))
    refine wpAny_bind ?_
    show wpAny _ _ (forIn ((Value.ref b, 0) :: (refs (b + 1) ts.length).zipIdx 1) _ _) _ _ _
    refine loop_first (wpAny_bind (wpAny_onRaise ?_))
    show wpAny _ _ (Builtin.SmallTypes.nextOf (.ref (b + 0)) >>= _) _ _ ⟨g0, g, d, tk, os⟩
    refine wpAny_bind (draw_end hh st fun q e hq he => ?_)
    replace hq : Heap.ExtBut (b + 0) g0 q := hq
    obtain ⟨oe, hoe, hce⟩ := he
    have hzq : q.get? (b + (v :: ts).length + 2) = some (zipO .ellipsis (.bool fb) (b + (v :: ts).length) (b + (v :: ts).length + 1)) := hq _ _ (nn (x := b + (v :: ts).length + 2) (y := b + 0) (by omega)) hz0
    have hez : e ≠ b + (v :: ts).length + 2 := fun x => by subst x; rw [hzq] at hoe; cases hoe; simp at hce
    refine wpAny_setField_rec (s := ⟨q, g, d, tk, os⟩) hzq (by simp) fun q' _ hq' => ?_
    replace hq' : Heap.SameBut (b + (v :: ts).length + 2) q q' := hq'
    exact hE q' e (fun c o hc x => (hq'.2 c (nn (by omega))).trans (hq _ _ (nn (x := c) (y := b + 0) (by omega)) ((hs0.2 c (nn (by omega))).trans x))) ⟨oe, (hq'.2 e hez).trans hoe, hce⟩
  · rw [if_neg Bool.false_ne_true]
    replace hs0 : Heap.SameBut (b + (v :: ts).length + 2) hp hA := hs0
    have st := strIter_other (Z.txt 0 v rfl) hs0 (nn (x := b + 0) (y := b + (v :: ts).length + 2) (by omega))
    dsimp only
    rw [List.forIn_toArray]
    refine wpAny_bind ?_
    show wpAny _ _ (forIn (Value.ref b :: refs (b + 1) ts.length) _ _) _ _ _
    refine loop_first (wpAny_bind (wpAny_holding ?_))
    show wpAny _ _ (Builtin.SmallTypes.nextOf (.ref (b + 0)) >>= _) _ _ ⟨hA, g, d, tk, os⟩
    refine wpAny_bind (draw_end hh st fun q e hq he => ?_)
    replace hq : Heap.ExtBut (b + 0) hA q := hq
    exact hE q e (fun c o hc x => hq _ _ (nn (x := c) (y := b + 0) (by omega)) ((hs0.2 c (nn (by omega))).trans x)) he
theorem pyNext_item {s : Shared} {b : Nat} {ts : Tx} {i : Nat} {Q : Option Value → Shared → Prop} (hh : A.handled = none) (B : Bet s.heap b ts i) (h1 : 0 < ts.length) (h8 : ts.length ≤ 8)
    (hi : ∀ (k : Nat) (v : Str × Tok), ts[k]? = some v → i < v.1.cps.size) (hQ : Nxt s.heap s.gens s.drawn s.os b ts i (fun v s' => Q (some v) s')) : wpAny (model prog w) A (pyNext (.ref (b + ts.length + 2))) Q E s := by
  obtain ⟨⟨f0, fb, Z, hf⟩, l, hT, hl⟩ := id B
  have hty : s.TypeIs (.ref (b + ts.length + 2)) "zip" := ⟨_, Z.zip, rfl⟩
  unfold pyNext
  refine wpAny_bind (wpAny_attempt (wpAny_callSpecial?_slot (name := Str.ofString "__next__") hty F.slot_zip_next
    (wpAny_call_entry F.slot_zip_next hty F.entry_zip_next (next_item (A := A.in1) hh B h1 h8 hi fun us h' tk' c1 c2 c3 c4 => wpAny_pure (hQ us h' tk' c1 c2 c3 c4)) (F.args_zip_next_1 _))))
theorem pyNext_end {s : Shared} {b : Nat} {v : Str × Tok} {ts : Tx} {Q : Option Value → Shared → Prop} (hh : A.handled = none) (B : Bet s.heap b (v :: ts) v.1.cps.size)
    (hQ : ∀ (h' : Heap), (∀ (c : Nat) (o : Obj), (c < b ∨ b + ((v :: ts).length + 2) < c) → s.heap.get? c = some o → h'.get? c = some o) → Q none { s with heap := h' }) : wpAny (model prog w) A (pyNext (.ref (b + (v :: ts).length + 2))) Q E s := by
  obtain ⟨⟨f0, fb, Z, hf⟩, l, hT, hl⟩ := id B
  have hty : s.TypeIs (.ref (b + (v :: ts).length + 2)) "zip" := ⟨_, Z.zip, rfl⟩
  unfold pyNext
  refine wpAny_bind (wpAny_attempt (wpAny_callSpecial?_slot (name := Str.ofString "__next__") hty F.slot_zip_next
    (wpAny_call_entry F.slot_zip_next hty F.entry_zip_next (next_end (A := A.in1) hh B fun h' e hk he => ?_) (F.args_zip_next_1 _))))
  obtain ⟨o, ho, hc⟩ := he
  refine wpAny_bind (wpAny_isInstance (T := "StopIteration") (b := true) ⟨o, ho, hc⟩ isSubtype_stop ?_)
  exact wpAny_pure (hQ _ hk)
end
end TH
end
section
set_option Elab.async false
set_option maxRecDepth 100000
set_option maxHeartbeats 4000000
namespace TH
open PySem PySem.Spec PyProof.Rows L2
/-- the texts xs, m signs each: at turn i a new tuple of their signs there -/
def Itzs (xs : List Str) (m : Nat) : It :=
  ⟨fun i _ => i < m, fun i H x H' => ∃ (T : Addr) (cs : List Nat), x = .ref T ∧ H T = none ∧ H' = upd H T (.tup (cs.map fun c => V.str ⟨#[c]⟩)) ∧ cs.length = xs.length ∧ ∀ (k : Nat) (y : Str), xs[k]? = some y → ∃ c, y.cps[i]? = some c ∧ cs[k]? = some c, fun i _ => i = m⟩
def Tn (xs : List Str) (b : Nat) (i : Nat) (h : Heap) : Prop := ∃ ts : Tx, ts.map Prod.fst = xs ∧ Bet h b ts i
theorem fp_le {b n c : Nat} (h : c ∈ (List.range (n + 3)).map (b + ·)) : b ≤ c ∧ c ≤ b + n + 2 := by
  obtain ⟨k, hk, rfl⟩ := List.mem_map.mp h
  have := List.mem_range.mp hk
  omega
theorem fp_in {b n c : Nat} (h : b ≤ c ∧ c ≤ b + n + 2) : c ∈ (List.range (n + 3)).map (b + ·) := List.mem_map.mpr ⟨c - b, List.mem_range.mpr (by omega), by omega⟩
theorem Bet.kept {h h' : Heap} {b : Nat} {ts : Tx} {i : Nat} (B : Bet h b ts i) (k : ∀ (c : Nat), b ≤ c ∧ c ≤ b + ts.length + 2 → ∀ o, h.get? c = some o → h'.get? c = some o) : Bet h' b ts i := by
  obtain ⟨⟨f0, fb, Z, hf⟩, l, hT, hl⟩ := B
  refine ⟨⟨f0, fb, ⟨k _ (by omega) _ Z.zip, k _ (by omega) _ Z.its, fun j v hj => ?_⟩, hf⟩, l, k _ (by omega) _ hT, hl⟩
  have hjl : j < ts.length := (List.getElem?_eq_some_iff.mp hj).1
  obtain ⟨o, ho, r⟩ := Z.txt j v hj
  exact ⟨o, k (b + j) (by omega) _ ho, r⟩
theorem Bet.obj {h : Heap} {b : Nat} {ts : Tx} {i : Nat} (B : Bet h b ts i) (c : Nat) (hc : b ≤ c ∧ c ≤ b + ts.length + 2) : ∃ o, h.get? c = some o ∧ ∀ v, o.data ≠ .cell v := by
  obtain ⟨⟨f0, fb, Z, hf⟩, l, hT, hl⟩ := B
  by_cases h1 : c = b + ts.length + 2
  · subst h1
    exact ⟨_, Z.zip, fun v q => nomatch q⟩
  · by_cases h2 : c = b + ts.length + 1
    · subst h2
      exact ⟨_, hT, fun v q => nomatch q⟩
    · by_cases h3 : c = b + ts.length
      · subst h3
        exact ⟨_, Z.its, fun v q => nomatch q⟩
      · have hk : c - b < ts.length := by omega
        obtain ⟨o, ho, _, hd⟩ := Z.txt (c - b) _ (List.getElem?_eq_getElem hk)
        have e : b + (c - b) = c := by omega
        rw [e] at ho
        exact ⟨o, ho, fun v q => by rw [hd] at q; cases q⟩
theorem sgn_vals : ∀ (us : List Value) (cs : List Nat), us.length = cs.length → (∀ (k c : Nat), cs[k]? = some c → ∃ u, us[k]? = some (Value.str ⟨#[c]⟩ u)) → Vals (cs.map fun c => V.str ⟨#[c]⟩) us
  | [], [], _, _ => .nil
  | [], _ :: _, e, _ => by simp at e
  | _ :: _, [], e, _ => by simp at e
  | x :: us, c :: cs, e, h => by
    obtain ⟨u, hu⟩ := h 0 c rfl
    have hx : x = Value.str ⟨#[c]⟩ u := by simpa using hu
    refine .cons ⟨u, hx⟩ (sgn_vals us cs (by simpa using e) fun k c' hk => ?_)
    simpa using h (k + 1) c' (by simpa using hk)
/-- the signs that a column holds -/
theorem col_signs : ∀ (ts : Tx) (i : Nat) (us : List Value), ColAt ts i us → ∃ cs : List Nat, us.length = cs.length ∧ (∀ (k c : Nat), cs[k]? = some c → ∃ u, us[k]? = some (Value.str ⟨#[c]⟩ u)) ∧ cs.length = ts.length ∧ ∀ (k : Nat) (v : Str × Tok), ts[k]? = some v → ∃ c, v.1.cps[i]? = some c ∧ cs[k]? = some c
  | [], i, us, ⟨h1, h2⟩ => ⟨[], h1, fun k c hk => by simp at hk, rfl, fun k v hk => by simp at hk⟩
  | v :: ts, i, [], ⟨h1, h2⟩ => by simp at h1
  | v :: ts, i, x :: us, ⟨h1, h2⟩ => by
    obtain ⟨c, u, hc, hx⟩ := h2 0 v rfl
    obtain ⟨cs, e1, e2, e3, e4⟩ := col_signs ts i us ⟨by simpa using h1, fun k w hk => by simpa using h2 (k + 1) w (by simpa using hk)⟩
    refine ⟨c :: cs, by simp [e1], fun k c' hk => ?_, by simp [e3], fun k w hk => ?_⟩
    · cases k with
      | zero =>
        have : c = c' := by simpa using hk
        subst this
        exact ⟨u, by simpa using hx⟩
      | succ k => simpa using e2 k c' (by simpa using hk)
    · cases k with
      | zero =>
        have : v = w := by simpa using hk
        subst this
        exact ⟨c, hc, rfl⟩
      | succ k => simpa using e4 k w (by simpa using hk)
theorem self_zip {prog : Program} {w : World} {A : Around} {E : Value → Shared → Prop} {s : Shared} {z TI TO : Addr} {f0 f1 : Value} {Q : Value → Shared → Prop} (hz : s.heap.get? z = some (zipO f0 f1 TI TO)) (h : Q (.ref z) s) : wpAny (model prog w) A (pyIter (.ref z)) Q E s := by
  have ty : s.TypeIs (.ref z) "zip" := ⟨_, hz, rfl⟩
  refine wpAny_pyIter_slot ty F.slot_zip_iter (wpAny_call_entry F.slot_zip_iter ty F.entry_zip_iter (show wpAny _ _ (ret (.ref z)) _ _ s from ?_) (F.args_zip_iter_1 _))
  exact wpAny_pure ⟨_, rfl, "zip", _, ty, F.slot_zip_next.lookup, h⟩
theorem turn_zips {P : Program} {w : World} {K : PySem.W.Frag} {nm : Str} {np : Pos} {xs : List Str} {m b : Nat} (h1 : 0 < xs.length) (h8 : xs.length ≤ 8) (hm : ∀ x ∈ xs, x.cps.size = m) :
    Turn P w K (.Name nm np) (Itzs xs m) ((List.range (xs.length + 3)).map (b + ·)) (b + xs.length + 2) (Tn xs b) where
  mem := fp_in (by omega)
  obj := fun i h st c hc => by
    obtain ⟨ts, rfl, B⟩ := st
    have q := fp_le hc
    rw [List.length_map] at q
    exact B.obj c q
  keep := fun i h h' st k => by
    obtain ⟨ts, rfl, B⟩ := st
    refine ⟨ts, rfl, B.kept fun c hc o e => k c (fp_in ?_) o e⟩
    rw [List.length_map]
    exact hc
  item := by
    intro X hP hw hK hc i pins s σ H E I hf st hg
    subst hP hw hK
    obtain ⟨ts, rfl, B⟩ := st
    rw [List.length_map] at h1 h8 hf ⊢
    have hin : ∀ (c : Nat), b ≤ c ∧ c ≤ b + ts.length + 2 → c ∈ (List.range (ts.length + 3)).map (b + ·) := fun c q => fp_in q
    refine pyNext_item (I.ok.hd hc) B h1 h8 (fun k v hk => ?_) fun us h' tk' cu B' hT kp => ?_
    · rw [hm v.1 (List.mem_map.mpr ⟨v, List.mem_of_getElem? hk, rfl⟩)]
      exact hg
    · obtain ⟨cs, e1, e2, e3, e4⟩ := col_signs ts i us cu
      refine ⟨_, rfl, wpAny_pure ?_⟩
      have hlen : cs.length ≤ sizeLine := Nat.le_trans (by rw [e3]; exact h8) (by decide)
      have new : ObjOk X.prog X.w (upd H s.heap.objs.size (.tup (cs.map fun c => V.str ⟨#[c]⟩))) h' s.heap.objs.size (.tup (cs.map fun c => V.str ⟨#[c]⟩)) :=
        ⟨by rw [List.length_map]; exact hlen, us, sgn_vals us cs e1 e2, ⟨_, hT, rfl, _, rfl⟩⟩
      have I1 : Inv X pins σ (upd H s.heap.objs.size (.tup (cs.map fun c => V.str ⟨#[c]⟩))) { s with heap := h', toks := tk' } :=
        I.turnedNew (t' := tk') (ch := (List.range (ts.length + 3)).map (b + ·)) (fun c o hc q => kp c o (Classical.byContradiction fun z => hc (hin c (by omega))) q) hf (Nat.le_refl _) new
      refine ⟨.ref s.heap.objs.size, _, I1, rfl, ⟨_, cs, rfl, I.hok.fresh (Nat.le_refl _), rfl, by rw [List.length_map]; exact e3, fun k y hk => ?_⟩, ⟨ts, rfl, B'⟩, fun c hcm => ?_⟩
      · rw [List.getElem?_map] at hk
        cases hv : ts[k]? with
        | none => simp [hv] at hk
        | some v =>
          simp [hv] at hk
          subst hk
          exact e4 k v hv
      · obtain ⟨o, ho, _⟩ := B.obj c (fp_le hcm)
        rw [upd_ne (Nat.ne_of_lt (Heap.lt_size ho))]
        exact (hf c hcm).1
  done := by
    intro X hP hw hK hc i pins s σ H E I hf st hg
    subst hP hw hK
    obtain ⟨ts, rfl, B⟩ := st
    cases ts with
    | nil => exact absurd h1 (by simp)
    | cons v ts =>
      have hv : v.1.cps.size = m := hm v.1 (by simp)
      have hi : i = v.1.cps.size := by rw [hv]; exact hg
      subst hi
      rw [List.length_map] at hf ⊢
      refine pyNext_end (I.ok.hd hc) B fun h' kp => ⟨rfl, I.turnedL (t' := s.toks) (ch := (List.range ((v :: ts).length + 3)).map (b + ·)) (fun c o hc q => kp c o (Classical.byContradiction fun z => hc (fp_in (by omega))) q) hf⟩
  self := fun A i s Q E st h => by
    obtain ⟨ts, rfl, ⟨f0, fb, Z, hf⟩, l, hT, hl⟩ := st
    rw [List.length_map] at h ⊢
    exact self_zip Z.zip h
/-- zip(*e), e a tuple or a list of texts of one length -/
def iZips (K : PySem.W.Frag) (te : TE) : TI := fun σ H R => te σ H fun y H1 => ∃ (a : Addr) (xs : List Str) (m : Nat), y = .ref a ∧ (SqT K H1 a (xs.map V.str) ∨ SqL K H1 a (xs.map V.str)) ∧ 0 < xs.length ∧ xs.length ≤ 8 ∧ (∀ x ∈ xs, x.cps.size = m) ∧ R (Itzs xs m) H1
theorem tx_of : ∀ (xs : List Str) (us : List Value), Vals (xs.map V.str) us → ∃ ts : Tx, us = txv ts ∧ ts.map Prod.fst = xs
  | [], us, h => by cases h; exact ⟨[], rfl, rfl⟩
  | x :: xs, us, h => by
    cases h with
    | @cons _ u _ ur ru rr =>
      obtain ⟨t, rfl⟩ := ru
      obtain ⟨ts, rfl, e⟩ := tx_of xs ur rr
      exact ⟨(x, t) :: ts, rfl, by rw [List.map_cons, e]⟩
theorem pi_zips {X : Cx} {nm : Str} {np : Pos} {e : Expr} {te : TE} {p sp pos : Pos} (hg : Gl X "zip") (hm : X.mg "zip" = none) (he : PE X e te) (hst : starEach [.Starred e sp] X.env = [(true, eval e X.env)] := by rfl) :
    PI X (.Name nm np) (.Call (.Name "zip" p) [.Starred e sp] [] pos) (iZips X.K te) := by
  refine ⟨fun pins s σ H R I h => ?_⟩
  refine wpAny_Call_Name_kw (ld_blt I hg hm PyProof.Rows.boot_zip ?_)
  rw [hst]
  refine PySem.W.ks_call (P := fun _ => True) rfl (fun hp _ => ⟨Keeper.machine, .inr (.inl rfl), PySem.W.Looks.of_pure rfl⟩) (PySem.W.ks_lone (thn (he.run pins s σ H _ I h) fun v s1 ⟨y, H1, I1, ry, a, xs, m, ey, hx, h1, h8, hm', q⟩ => ?_))
  subst ey
  obtain rfl : v = Value.ref a := ry
  refine StX.star_any I1 hx fun us s2 I2 rv => ⟨trivial, ?_⟩
  obtain ⟨ts, rfl, ex⟩ := tx_of xs us rv
  have hl : ts.length = xs.length := by rw [← ex, List.length_map]
  refine call_zip ts (by rw [hl]; exact h8) ?_
  have old : ∀ c o, s2.heap.get? c = some o → (zheap s2.heap ts).get? c = some o := fun c o e => zheap_old e
  have I3 : Inv X pins σ H1 { s2 with heap := zheap s2.heap ts } := I2.kept (t' := s2.toks) old
  obtain ⟨Z, l, hl2, hT⟩ := zheap_at s2.heap ts
  refine self_zip Z.zip ?_
  refine ⟨s2.heap.objs.size + ts.length + 2, (List.range (xs.length + 3)).map (s2.heap.objs.size + ·), Tn xs s2.heap.objs.size, Itzs xs m, H1, rfl, I3, ?_, ⟨ts, ex, ⟨⟨_, false, Z, .inl rfl⟩, l, hT, hl2⟩⟩, fun c hc => ?_, q⟩
  · rw [hl]
    exact turn_zips h1 h8 hm'
  · have hle := (fp_le hc).1
    exact I2.fpOk hle (I2.hok.fresh hle)
end TH
end
section
set_option Elab.async false
set_option maxRecDepth 100000
set_option maxHeartbeats 4000000
set_option linter.all false
namespace TH
open PySem PySem.Spec PyProof.Rows L2
theorem meets_enum_any {v : Value} {o : Obj} {H : Heap → Prop} (B : Begins v o H) :
    Meets (Builtin.«enumerate.__new__» ⟨[.type "enumerate", v], []⟩) (fun _ R s => H s.heap ∧
      R (.ok (.ret (.ref (s.heap.push o).objs.size))) { s with heap := (s.heap.push o).push { cls := .type "enumerate", data := .fields #[.none, .bool false, .ref s.heap.objs.size, rawInt 0, .none, .none] } }) :=
  .of_wp fun prog w A R s hR => by
    obtain ⟨hp, g, d, tk, os⟩ := s
    obtain ⟨hH, hR⟩ := hR
    have hsub := sub_enumerate
    have it1 : ∀ {A' : Around} {E : Value → Shared → Prop} {Q : Value → Shared → Prop}, Q (.ref hp.objs.size) ⟨hp.push o, g, d, tk, os⟩ → wpAny (model prog w) A' (pyIter v) Q E ⟨hp, g, d, tk, os⟩ :=
      fun q => B.iter prog w _ _ ⟨hp, g, d, tk, os⟩ _ hH q
    wp_walk using it1
    refine wpAny_stack_any fun st => wpAny_pure ?_
    split
    · rename_i c _ _ _ _ _
      cases (c == Value.type "enumerate")
      all_goals
        wp_walk using it1
        exact ⟨_, rfl, hR⟩
    · wp_walk using it1
      exact ⟨_, rfl, hR⟩
theorem enum_any {prog : Program} {w : World} {A : Around} {E : Value → Shared → Prop} {s : Shared} {v : Value} {o : Obj} {H : Heap → Prop} {Q : Value → Shared → Prop} (B : Begins v o H) (hH : H s.heap)
    (h : ∀ h', IsEnum h' (s.heap.objs.size + 1) s.heap.objs.size 0 .none → h'.get? s.heap.objs.size = some o → (∀ b o, s.heap.get? b = some o → h'.get? b = some o) → Q (.ref (s.heap.objs.size + 1)) { s with heap := h' }) :
    wpAny (model prog w) A (call (.type "enumerate") [v]) Q E s := by
  refine callType_new F.called_enumerate (by decide) (F.typeCall_enumerate_1 _) (F.newCall_enumerate_1 _) (fun obj => F.args_object_init_2 obj _) F.entry_enumerate_new (meets_enum_any B) ⟨hH, ?_⟩
  have sz : (s.heap.push o).objs.size = s.heap.objs.size + 1 := Heap.size_push ..
  have at1 := Heap.get?_push_size (s.heap.push o) (o := { cls := .type "enumerate", data := .fields #[.none, .bool false, .ref s.heap.objs.size, rawInt 0, .none, .none] }) rfl
  rw [sz] at at1
  show _ ∧ _
  rw [sz]
  exact ⟨⟨_, at1, rfl⟩, h _ at1 (Heap.get?_push_of_some _ (Heap.get?_push_size _ B.free)) fun b o x => Heap.get?_push_of_some _ (Heap.get?_push_of_some _ x)⟩

/-- the signs of a text with their places -/
def Ites (x : Str) : It := ⟨fun i _ => i < x.cps.size, fun i H v H' => ∃ (T : Addr) (c : Nat), v = .ref T ∧ H T = none ∧ H' = upd H T (.tup [.int (i : Nat), .str ⟨#[c]⟩]) ∧ x.cps[i]? = some c, fun i _ => i = x.cps.size⟩
/-- the items of the tuple at a with their places -/
def Itet (K : PySem.W.Frag) (a : Addr) : It :=
  ⟨fun i H => ∃ xs y, SqT K H a xs ∧ xs[i]? = some y, fun i H v H' => ∃ (T : Addr) (y : V), v = .ref T ∧ H T = none ∧ H' = upd H T (.tup [.int (i : Nat), y]) ∧ ∀ xs, SqT K H a xs → xs[i]? = some y, fun i H => ∃ xs, SqT K H a xs ∧ i = xs.length⟩
section
variable {P : Program} {w : World} {K : PySem.W.Frag} {elts : List Expr} {kk : Nat} {tpos : Pos}
theorem turn_enums {x : Str} {t : Tok} (e it : Addr) (hne : e ≠ it) :
    Turn P w K (.Tuple elts kk tpos) (Ites x) [e, it] e (fun i h => (∃ old, IsEnum h e it ((i : Nat) : Int) old) ∧ h.IsStrIter it (strIterType x) x t i) where
  mem := by simp
  obj := fun i h st b hb => by
    obtain ⟨⟨old, he⟩, ⟨o, ho, hc, hd⟩⟩ := st
    rcases (show b = e ∨ b = it by simpa using hb) with z | z
    · rw [z]
      exact ⟨_, he, fun v q => nomatch q⟩
    · rw [z]
      exact ⟨o, ho, fun v q => by rw [hd] at q; cases q⟩
  keep := fun i h h' st k => by
    obtain ⟨⟨old, he⟩, ⟨o, ho, r⟩⟩ := st
    exact ⟨⟨old, k e (by simp) _ he⟩, ⟨o, k it (by simp) _ ho, r⟩⟩
  item := by
    intro X hP hw hK hc i pins s σ H E I hf st hg
    subst hP hw hK
    obtain ⟨⟨old, he⟩, hit⟩ := st
    have hel : e < s.heap.objs.size := Heap.lt_size he
    have hil : it < s.heap.objs.size := by obtain ⟨_, q, _⟩ := hit; exact Heap.lt_size q
    refine wpAny_pyNext_enum_itemD (Draws.text (A := X.A.in1) (I.ok.hd hc) it x t) he hit hg hne (by simpa using hne) fun y h' tk hy ho hit' hT hsz hk => ?_
    obtain ⟨c, u, hcx, rfl⟩ := hy
    refine ⟨_, rfl, wpAny_letOwnedTupleGo_enum (s := { s with heap := h', toks := tk + 1 }) ho fun h'' he' sb => ?_⟩
    have hT2 : h''.get? s.heap.objs.size = some { cls := .type "tuple", data := .seq #[.int i tk, .str ⟨#[c]⟩ u] } := (sb.2 _ (Nat.ne_of_gt hel)).trans hT
    have new : ObjOk X.prog X.w (upd H s.heap.objs.size (.tup [.int (i : Nat), .str ⟨#[c]⟩])) h'' s.heap.objs.size (.tup [.int (i : Nat), .str ⟨#[c]⟩]) :=
      ⟨by show 2 ≤ sizeLine; decide, [.int i tk, .str ⟨#[c]⟩ u], .cons ⟨_, rfl⟩ (.cons ⟨_, rfl⟩ .nil), ⟨_, hT2, rfl, _, rfl⟩⟩
    have I1 : Inv X pins σ (upd H s.heap.objs.size (.tup [.int (i : Nat), .str ⟨#[c]⟩])) { s with heap := h'', toks := tk + 1 } :=
      I.turnedNew (ch := [e, it]) (fun b ob hb q => (sb.2 b (fun z => hb (by simp [z]))).trans (hk b ob (fun z => hb (by simp [z])) (fun z => hb (by simp [z])) q)) hf (Nat.le_refl _) new
    refine ⟨.ref s.heap.objs.size, _, I1, rfl, ⟨_, c, rfl, I.hok.fresh (Nat.le_refl _), rfl, hcx⟩, ⟨⟨Value.str ⟨#[c]⟩ u, ?_⟩, strIter_other hit' sb (Ne.symm hne)⟩, fun b hb => ?_⟩
    · have e1 : ((i + 1 : Nat) : Int) = (i : Int) + 1 := by omega
      rw [e1]
      exact he'
    · have hb' : b < s.heap.objs.size := by
        rcases (show b = e ∨ b = it by simpa using hb) with z | z
        · rw [z]; exact hel
        · rw [z]; exact hil
      rw [upd_ne (Nat.ne_of_lt hb')]
      exact (hf b hb).1
  done := by
    intro X hP hw hK hc i pins s σ H E I hf st hg
    subst hP hw hK
    obtain ⟨⟨old, he⟩, hit⟩ := st
    obtain ⟨f0, f1, f2, f3, f4, f5⟩ := hf it (by simp)
    have hi : i = x.cps.size := hg
    subst hi
    exact wpAny_pyNext_enum_endD (Draws.text (A := X.A.in1) (I.ok.hd hc) it x t) he hit fun h' eb => ⟨rfl, I.turned (t' := s.toks) (fun b o hb q => eb b o hb q) f0 f1 f3 f4 f5⟩
  self := fun A i s Q E st h => by
    obtain ⟨⟨_, he⟩, _⟩ := st
    exact wpAny_pyIter_enum he h
theorem turn_enumt {a : Addr} (e it : Addr) (hne : e ≠ it) (hae : a ≠ e) (hai : a ≠ it) :
    Turn P w K (.Tuple elts kk tpos) (Itet K a) [e, it] e (fun i h => (∃ old, IsEnum h e it ((i : Nat) : Int) old) ∧ h.IsTupleIter it a i) where
  mem := by simp
  obj := fun i h st b hb => by
    obtain ⟨⟨old, he⟩, ⟨o, ho, hc, hd⟩⟩ := st
    rcases (show b = e ∨ b = it by simpa using hb) with z | z
    · rw [z]
      exact ⟨_, he, fun v q => nomatch q⟩
    · rw [z]
      exact ⟨o, ho, fun v q => by rw [hd] at q; cases q⟩
  keep := fun i h h' st k => by
    obtain ⟨⟨old, he⟩, ⟨o, ho, r⟩⟩ := st
    exact ⟨⟨old, k e (by simp) _ he⟩, ⟨o, k it (by simp) _ ho, r⟩⟩
  item := by
    intro X hP hw hK hc i pins s σ H E I hf st hg
    subst hP hw hK
    obtain ⟨⟨old, he⟩, hit⟩ := st
    obtain ⟨xs, y, hq, hx⟩ := hg
    obtain ⟨its, rv, p, hz⟩ := I.tuple hq
    obtain ⟨u, hu, ru⟩ := rv.get hx
    have hel : e < s.heap.objs.size := Heap.lt_size he
    have hil : it < s.heap.objs.size := by obtain ⟨_, q, _⟩ := hit; exact Heap.lt_size q
    have hlt : i < its.toArray.size := by rw [List.size_toArray]; exact (List.getElem?_eq_some_iff.mp hu).1
    refine wpAny_pyNext_enum_itemD (St := fun i h => h.IsTupleIter it a i ∧ h.IsTuple a its.toArray) (Draws.tuple (A := X.A.in1) (I.ok.hd hc) it a hai its.toArray) he ⟨hit, p⟩ hlt hne (by simp [hne, Ne.symm hae]) fun y' h' tk hy ho hit' hT hsz hk => ?_
    have ey : y' = u := by
      have hy' : its.toArray[i]? = some y' := hy
      rw [List.getElem?_toArray, hu] at hy'
      exact (Option.some.inj hy').symm
    subst ey
    refine ⟨_, rfl, wpAny_letOwnedTupleGo_enum (s := { s with heap := h', toks := tk + 1 }) ho fun h'' he' sb => ?_⟩
    have hT2 : h''.get? s.heap.objs.size = some { cls := .type "tuple", data := .seq #[.int i tk, y'] } := (sb.2 _ (Nat.ne_of_gt hel)).trans hT
    have new : ObjOk X.prog X.w (upd H s.heap.objs.size (.tup [.int (i : Nat), y])) h'' s.heap.objs.size (.tup [.int (i : Nat), y]) :=
      ⟨by show 2 ≤ sizeLine; decide, [.int i tk, y'], .cons ⟨_, rfl⟩ (.cons ru .nil), ⟨_, hT2, rfl, _, rfl⟩⟩
    have I1 : Inv X pins σ (upd H s.heap.objs.size (.tup [.int (i : Nat), y])) { s with heap := h'', toks := tk + 1 } :=
      I.turnedNew (ch := [e, it]) (fun b ob hb q => (sb.2 b (fun z => hb (by simp [z]))).trans (hk b ob (fun z => hb (by simp [z])) (fun z => hb (by simp [z])) q)) hf (Nat.le_refl _) new
    refine ⟨.ref s.heap.objs.size, _, I1, rfl, ⟨_, y, rfl, I.hok.fresh (Nat.le_refl _), rfl, fun ys hy => by rw [I.tuple_inj hy hq]; exact hx⟩, ⟨⟨y', ?_⟩, ?_⟩, fun b hb => ?_⟩
    · have e1 : ((i + 1 : Nat) : Int) = (i : Int) + 1 := by omega
      rw [e1]
      exact he'
    · obtain ⟨o, ho2, r⟩ := hit'.1
      exact ⟨o, (sb.2 it (Ne.symm hne)).trans ho2, r⟩
    · have hb' : b < s.heap.objs.size := by
        rcases (show b = e ∨ b = it by simpa using hb) with z | z
        · rw [z]; exact hel
        · rw [z]; exact hil
      rw [upd_ne (Nat.ne_of_lt hb')]
      exact (hf b hb).1
  done := by
    intro X hP hw hK hc i pins s σ H E I hf st hg
    subst hP hw hK
    obtain ⟨⟨old, he⟩, hit⟩ := st
    obtain ⟨f0, f1, f2, f3, f4, f5⟩ := hf it (by simp)
    obtain ⟨xs, hq, hi⟩ := hg
    obtain ⟨its, rv, p, hz⟩ := I.tuple hq
    have hi2 : i = its.toArray.size := by rw [List.size_toArray, hi, rv.length]
    subst hi2
    exact wpAny_pyNext_enum_endD (St := fun i h => h.IsTupleIter it a i ∧ h.IsTuple a its.toArray) (Draws.tuple (A := X.A.in1) (I.ok.hd hc) it a hai its.toArray) he ⟨hit, p⟩ fun h' eb => ⟨rfl, I.turned (t' := s.toks) (fun b o hb q => eb b o hb q) f0 f1 f3 f4 f5⟩
  self := fun A i s Q E st h => by
    obtain ⟨⟨_, he⟩, _⟩ := st
    exact wpAny_pyIter_enum he h
end
def iEnumS (ta : TA) : TI := fun σ H R => ta σ H fun vs H1 => ∃ x, vs = [.str x] ∧ R (Ites x) H1
def iEnumT (K : PySem.W.Frag) (ta : TA) : TI := fun σ H R => ta σ H fun vs H1 => ∃ a xs, vs = [.ref a] ∧ SqT K H1 a xs ∧ R (Itet K a) H1
section
variable {X : Cx} {e : Expr} {ta : TA} {p pos tpos : Pos} {elts : List Expr} {kk : Nat}
theorem pi_enumS (hg : Gl X "enumerate") (hm : X.mg "enumerate" = none) (ha : PA X [e] ta) (hs : starEach [e] X.env = [(false, eval e X.env)] := by rfl) : PI X (.Tuple elts kk tpos) (.Call (.Name "enumerate" p) [e] [] pos) (iEnumS ta) := by
  refine ⟨fun pins s σ H R I h => ?_⟩
  refine Call_ (ld_blt I hg hm boot_enumerate (PyProof.Rows.callWith_type1 (thn (ha.run pos pins s σ H _ I h) fun us s1 ⟨vs, H1, I1, r1, x, ex, q⟩ => ?_) hs rfl))
  subst ex
  cases r1 with
  | @cons _ u _ _ r rr =>
    cases rr
    obtain ⟨t, rfl⟩ := r
    refine enum_any (begins_text x t) trivial fun h' he hit hk => wpAny_pyIter_enum he ?_
    have I2 : Inv X pins σ H1 { s1 with heap := h' } := I1.kept (t' := s1.toks) hk
    refine ⟨s1.heap.objs.size + 1, [s1.heap.objs.size + 1, s1.heap.objs.size], _, _, H1, rfl, I2, turn_enums (x := x) (t := t) _ _ (Nat.succ_ne_self _), ⟨⟨.none, he⟩, ⟨_, hit, rfl, rfl⟩⟩, fun b hb => ?_, q⟩
    have hle : s1.heap.objs.size ≤ b := by
      rcases (show b = s1.heap.objs.size + 1 ∨ b = s1.heap.objs.size by simpa using hb) with z | z
      · rw [z]; exact Nat.le_add_right _ _
      · rw [z]; exact Nat.le_refl _
    exact I1.fpOk hle (I1.hok.fresh hle)
theorem pi_enumT (hg : Gl X "enumerate") (hm : X.mg "enumerate" = none) (ha : PA X [e] ta) (hs : starEach [e] X.env = [(false, eval e X.env)] := by rfl) : PI X (.Tuple elts kk tpos) (.Call (.Name "enumerate" p) [e] [] pos) (iEnumT X.K ta) := by
  refine ⟨fun pins s σ H R I h => ?_⟩
  refine Call_ (ld_blt I hg hm boot_enumerate (PyProof.Rows.callWith_type1 (thn (ha.run pos pins s σ H _ I h) fun us s1 ⟨vs, H1, I1, r1, a, xs, ex, hq, q⟩ => ?_) hs rfl))
  subst ex
  cases r1 with
  | @cons _ u _ _ r rr =>
    cases rr
    obtain rfl : u = Value.ref a := r
    obtain ⟨its, rv, p', hz⟩ := I1.tuple hq
    have hal : a < s1.heap.objs.size := by obtain ⟨_, z, _⟩ := p'; exact Heap.lt_size z
    refine enum_any (begins_tuple a its.toArray) p' fun h' he hit hk => wpAny_pyIter_enum he ?_
    have I2 : Inv X pins σ H1 { s1 with heap := h' } := I1.kept (t' := s1.toks) hk
    refine ⟨s1.heap.objs.size + 1, [s1.heap.objs.size + 1, s1.heap.objs.size], _, _, H1, rfl, I2, turn_enumt (a := a) _ _ (Nat.succ_ne_self _) (Nat.ne_of_lt (Nat.lt_succ_of_lt hal)) (Nat.ne_of_lt hal), ⟨⟨.none, he⟩, ⟨_, hit, rfl, rfl⟩⟩, fun b hb => ?_, q⟩
    have hle : s1.heap.objs.size ≤ b := by
      rcases (show b = s1.heap.objs.size + 1 ∨ b = s1.heap.objs.size by simpa using hb) with z | z
      · rw [z]; exact Nat.le_add_right _ _
      · rw [z]; exact Nat.le_refl _
    exact I1.fpOk hle (I1.hok.fresh hle)
end
/-- enumerate in a for: an instance of Walk -/
theorem walk_enumS {x : Str} : Walk (Ites x) x.cps.size (fun _ => True) (fun i H v H' => ∃ (T : Addr) (c : Nat), v = .ref T ∧ H T = none ∧ H' = upd H T (.tup [.int (i : Nat), .str ⟨#[c]⟩]) ∧ x.cps[i]? = some c) :=
  ⟨fun i H hi _ => hi, fun H _ => rfl, fun i H v H' hi _ y => y⟩
theorem walk_enumT {K : PySem.W.Frag} {a : Addr} {xs : List V} : Walk (Itet K a) xs.length (fun H => SqT K H a xs) (fun i H v H' => ∃ (T : Addr) (y : V), v = .ref T ∧ H T = none ∧ H' = upd H T (.tup [.int (i : Nat), y]) ∧ xs[i]? = some y) :=
  ⟨fun i H hi g => ⟨xs, xs[i], g, List.getElem?_eq_getElem hi⟩, fun H g => ⟨xs, g, rfl⟩, fun i H v H' hi g ⟨T, y, e1, e2, e3, e4⟩ => ⟨T, y, e1, e2, e3, e4 xs g⟩⟩
theorem walk_zips {xs : List Str} {m : Nat} : Walk (Itzs xs m) m (fun _ => True) (fun i H x H' => ∃ (T : Addr) (cs : List Nat), x = .ref T ∧ H T = none ∧ H' = upd H T (.tup (cs.map fun c => V.str ⟨#[c]⟩)) ∧ cs.length = xs.length ∧ ∀ (k : Nat) (y : Str), xs[k]? = some y → ∃ c, y.cps[i]? = some c ∧ cs[k]? = some c) :=
  ⟨fun i H hi _ => hi, fun H _ => rfl, fun i H v H' hi _ y => y⟩
end TH
end
section
set_option Elab.async false
set_option maxRecDepth 100000
set_option maxHeartbeats 4000000
set_option linter.all false
namespace TH
open PySem PySem.Spec PyProof.Rows L2
section
open PySem.W
variable {prog : Program} {w : World} {M : Model} {A : Around} {E : Value → Shared → Prop} {s : Shared} {K : Frag} {x C D f : Addr} {ox : Obj} {od : Option Obj} {nm : String}
/-- the class at D, straight over object, knows nothing of the operator -/
structure NoOp (K : Frag) (D : Addr) (nm : String) : Prop where
  cls : ∃ cd, clsIn K D = some cd ∧ cd.mro = [.ref D, .type "object"]
  f1 : findIn K (.ref D) (PySem.dunder nm) = some none
  r1 : findIn K (.ref D) (dunderR nm) = some none
  f0 : findIn K (.type "object") (PySem.dunder nm) = some none
  r0 : findIn K (.type "object") (dunderR nm) = some none
theorem NoOp.fills {h : Heap} (N : NoOp K D nm) (X : K.In h) : Looks M h (fillsNumberSlot (.ref D) nm) false := by
  intro A Q E s k q
  obtain ⟨cd, hcd, hm⟩ := N.cls
  have X' : K.In s.heap := X.keeps k
  have L1 : Looks M s.heap (typeLookup (.ref D) (PySem.dunder nm)) none := looks_findIn X' N.f1
  have L2 : Looks M s.heap (typeLookup (.ref D) (dunderR nm)) none := looks_findIn X' N.r1
  have L3 : Looks M s.heap (typeLookup (.type "object") (PySem.dunder nm)) none := looks_findIn X' N.f0
  have L4 : Looks M s.heap (typeLookup (.type "object") (dunderR nm)) none := looks_findIn X' N.r0
  unfold fillsNumberSlot
  refine wpAny_bind ((looks_clsIn X' hcd).andThen (f := fun cd => pure cd.mro) .now A _ E s (fun _ _ e => e) ?_)
  rw [hm, List.anyM_cons]
  refine wpAny_bind ?_
  show wpAny M A (List.anyM _ [PySem.dunder nm, dunderR nm]) _ _ _
  rw [List.anyM_cons]
  refine wpAny_bind (wpAny_bind (L1.here (wpAny_pure ?_)))
  rw [if_neg Bool.false_ne_true, List.anyM_cons]
  refine wpAny_bind (wpAny_bind (L2.here (wpAny_pure ?_)))
  rw [if_neg Bool.false_ne_true, List.anyM_nil]
  refine wpAny_pure ?_
  rw [if_neg Bool.false_ne_true, List.anyM_cons]
  refine wpAny_bind (wpAny_bind (L3.here (wpAny_bind (L4.here (wpAny_pure ?_)))))
  show wpAny M A (if false = true then _ else _) _ _ _
  rw [if_neg Bool.false_ne_true, List.anyM_nil]
  exact wpAny_pure q
theorem binop_two {op : Operator} {b : Value} {Q : Value → Shared → Prop} (X : K.In s.heap) (I : InstAt s.heap x ox C od) (hb : Looks (model prog w) s.heap (typeOf b) (.ref D)) (hCD : C ≠ D) (hc : selfFirst K C = true) (N : NoOp K D op.info.2)
    (hs : findIn K (.ref C) (PySem.dunder op.info.2) = some (some (.ref f))) (hf : isFn K (.ref f) = true)
    (h : wpAny (model prog w) A (call (.ref f) [.ref x, b]) (PySem.W.CmpBack Q) E s) : wpAny (model prog w) A (binaryOp op (.ref x) b) Q E s := by
  obtain ⟨cd, rest, hcd, hm⟩ := ksp_first hc
  have hne : (Value.ref C == Value.ref D) = false := by simp [hCD]
  unfold binaryOp
  refine wpAny_holding (wpAny_bind ?_)
  unfold binaryOp1
  refine wpAny_bind (I.type.here (wpAny_bind (hb.here (wpAny_bind ((fills_K X hcd hm hs).here ?_)))))
  simp only [hne, Bool.false_eq_true, if_false]
  refine wpAny_bind ((N.fills X).here ?_)
  simp only [Bool.and_false, Bool.false_eq_true, if_false, Bool.false_and]
  refine wpAny_bind (wpAny_pure ?_)
  simp only [Bool.false_eq_true, if_false, if_true]
  refine wpAny_bind (m := tryMethod (.ref x) _ b) ?_
  unfold tryMethod
  refine wpAny_bind (special_fn X I hs (beq_iff_eq.mp hf) (wpAny_mono h (fun v s' hv => ?_) fun _ _ e => e))
  cases v <;> first | exact hv.elim | exact wpAny_pure (wpAny_pure (wpAny_pure hv))
end
/-- a op b: a an instance of C whose def for it is at g, b one of D -/
def rTwo (C D : Addr) (sp : Sp) (E : XK) : R2 := fun x y H Q => ∃ a dx fs b dy gs, x = .ref a ∧ y = .ref b ∧ H a = some (.ins C dx fs) ∧ H b = some (.ins D dy gs) ∧ sp [x, y] H Q E
/-- C(*e), the class by its name; c(*e), the class in a slot -/
def tMakeS (K : PySem.W.Frag) (C : Addr) (sp : Sp) (E : XK) (te : TE) : TE := fun σ H Q => te σ H fun y H1 => ∃ a xs, y = V.ref a ∧ (SqT K H1 a xs ∨ SqL K H1 a xs) ∧ ∀ x dx, H1 x = Option.none → H1 dx = Option.none → dx ≠ x →
  sp (V.ref x :: xs) (upd (upd H1 dx (.own x)) x (.ins C dx [])) (fun v H2 => v = .non ∧ Q (.ref x) H2) E
section
variable {X : Cx} {CX : CXT} {k : Nat} {f C : Addr} {sp : Sp} {E : XK} {x : Str} {e : Expr} {te tf : TE} {p spo pos : Pos}
theorem pe_makeS (M : Mk X.K C f) (F : FnR X.prog X.w X.K X.mg X.base CX k f sp) (hr : Room (k + 1) X.A) (hg : Gl X x) (hm : X.mg x = some (.ref C)) (hx : Passes CX X E) (he : PE X e te) (hdb : (x == ("__debug__" : Str)) = false := by decide)
    (hst : starEach [.Starred e spo] X.env = [(true, eval e X.env)] := by rfl) : PE X (.Call (.Name x p) [.Starred e spo] [] pos) (tMakeS X.K C sp E te) := by
  refine ⟨fun pins s σ H Q I h => ?_⟩
  refine wpAny_Call_Name_kw (ld_glob I hg hm ?_ hdb)
  refine PySem.W.callWith_S (h₀ := X.base) I.ok.mod.kin M.kp (thn (he.run pins s σ H _ I h) fun v s1 ⟨y, H1, I1, ry, a, xs, ey, hxs, q⟩ => ?_) hst
  subst ey
  obtain rfl : v = Value.ref a := ry
  exact StX.star_any I1 hxs fun us s2 I2 rv => ⟨I2.kIn, StX.run_makeR M F hr hx I2 rv q⟩
/-- the class is what the name of the def holds -/
theorem pe_makeSv (M : Mk X.K C f) (F : FnR X.prog X.w X.K X.mg X.base CX k f sp) (hr : Room (k + 1) X.A) (hf : PE X (.Name x p) tf) (hx : Passes CX X E) (he : PE X e te)
    (hst : starEach [.Starred e spo] X.env = [(true, eval e X.env)] := by rfl) : PE X (.Call (.Name x p) [.Starred e spo] [] pos) (fun σ H Q => tf σ H fun c H1 => c = .ref C ∧ tMakeS X.K C sp E te σ H1 Q) := by
  refine ⟨fun pins s σ H Q I h => ?_⟩
  refine wpAny_Call_Name_kw (thn (hf.run pins s σ H _ I h) fun u s0 ⟨c, H0, I0, rc, ec, h⟩ => ?_)
  subst ec
  obtain rfl : u = Value.ref C := rc
  refine PySem.W.callWith_S (h₀ := X.base) I.ok.mod.kin M.kp (thn (he.run pins s0 σ H0 _ I0 h) fun v s1 ⟨y, H1, I1, ry, a, xs, ey, hxs, q⟩ => ?_) hst
  subst ey
  obtain rfl : v = Value.ref a := ry
  exact StX.star_any I1 hxs fun us s2 I2 rv => ⟨I2.kIn, StX.run_makeR M F hr hx I2 rv q⟩
end
end TH
end
section
set_option Elab.async false
set_option maxRecDepth 100000
set_option maxHeartbeats 4000000
set_option linter.all false
namespace TH
open PySem PySem.Spec PyProof.Rows L2
theorem thnN {α : Type} {n : Nat} {t : Sem α} {Q Q' : α → Shared → Prop} {M : Model} {A : Around} {E : Value → Shared → Prop} {s : Shared} (hn : n ≤ s.toks) (h : wpAny M A t Q E s) (hQ : ∀ a s', n ≤ s'.toks → Q a s' → Q' a s') : wpAny M A t Q' E s :=
  wpAny_mono (wpAny_toks_of hn h) (fun a s' z => hQ a s' z.1 z.2) fun _ _ z => z.2
def PEn (n : Nat) (X : Cx) (e : Expr) (t : TE) : Prop :=
  ∀ (pins : List (Addr × Obj)) (s : Shared) (σ : L2.St) (H : Hp) (Q : VK), n ≤ s.toks → Inv X pins σ H s → t σ H Q → wpAny (model X.prog X.w) X.A (eval e X.env) (EP X pins σ Q) X.xe s
def PTn (n : Nat) (X : Cx) (e : Expr) (t : TT) : Prop :=
  ∀ (pins : List (Addr × Obj)) (s : Shared) (σ : L2.St) (H : Hp) (Q : Bool → Hp → Prop), n ≤ s.toks → Inv X pins σ H s → t σ H Q → wpAny (model X.prog X.w) X.A (isTrue e X.env (eval e X.env)) (TP X pins σ Q) X.xe s
def PWn (n : Nat) (X : Cx) (e : Expr) (t : TT) : Prop :=
  ∀ (whole : Sem Value) (pins : List (Addr × Obj)) (s : Shared) (σ : L2.St) (H : Hp) (Q : Bool → Hp → Prop), n ≤ s.toks → Inv X pins σ H s → t σ H Q → wpAny (model X.prog X.w) X.A (isTrue e X.env whole) (TP X pins σ Q) X.xe s
def PAn (n : Nat) (X : Cx) (es : List Expr) (t : TA) : Prop :=
  ∀ (pos : Pos) (pins : List (Addr × Obj)) (s : Shared) (σ : L2.St) (H : Hp) (Q : List V → Hp → Prop), n ≤ s.toks → Inv X pins σ H s → t σ H Q → wpAny (model X.prog X.w) X.A (spliced (backTo pos (starEach es X.env))) (AP X pins σ Q) X.xe s
def PSn (n : Nat) (X : Cx) (st : Stmt) (t : TS) : Prop :=
  ∀ (pins : List (Addr × Obj)) (s : Shared) (σ : L2.St) (H : Hp) (D : Ends), n ≤ s.toks → Inv X pins σ H s → t D σ H → wpAny (model X.prog X.w) X.A (exec st X.env) (SP X pins D) X.xe s
def PSsn (n : Nat) (X : Cx) (st : List Stmt) (t : TS) : Prop :=
  ∀ (pins : List (Addr × Obj)) (s : Shared) (σ : L2.St) (H : Hp) (D : Ends), n ≤ s.toks → Inv X pins σ H s → t D σ H → wpAny (model X.prog X.w) X.A (execs st X.env) (SP X pins D) X.xe s
def OpRn (n : Nat) (X : Cx) (f : Value → Value → Sem Value) (r : R2) : Prop :=
  ∀ (pins : List (Addr × Obj)) (s : Shared) (σ : L2.St) (H : Hp) (x y : V) (v u : Value) (Q : VK), n ≤ s.toks → Inv X pins σ H s → RelV x v → RelV y u → r x y H Q → wpAny (model X.prog X.w) X.A (f v u) (EP X pins σ Q) X.xe s
/-- a def called, its promise kept wherever n tokens are out -/
def FnRn (n : Nat) (P : Program) (w : World) (K : PySem.W.Frag) (mg : Str → Option Value) (base : Heap) (CX : CXT) (k : Nat) (f : Addr) (sp : Sp) : Prop :=
  ∀ (A : Around) (outer : List Env) (s : Shared) (H : Hp) (us : List Value) (vs : List V) (Q : VK) (E : XK), n ≤ s.toks → Room k A → Env0 P w K mg base A outer s H → Vals vs us → sp vs H Q E →
    codeAny (model P w) A (.call (.ref f) ⟨us, []⟩) (CR CX outer P w H s Q E) s
section
variable {X : Cx} {n : Nat}
theorem _root_.L2.PE.up {e : Expr} {t : TE} (h : PE X e t) : PEn n X e t := fun pins s σ H Q _ I q => h.run pins s σ H Q I q
theorem _root_.L2.PT.up {e : Expr} {t : TT} (h : PT X e t) : PTn n X e t := fun pins s σ H Q _ I q => h.run pins s σ H Q I q
theorem _root_.L2.PA.up {es : List Expr} {t : TA} (h : PA X es t) : PAn n X es t := fun pos pins s σ H Q _ I q => h.run pos pins s σ H Q I q
theorem _root_.L2.PS.up {st : Stmt} {t : TS} (h : PS X st t) : PSn n X st t := fun pins s σ H D _ I q => h.run pins s σ H D I q
theorem _root_.L2.PSs.up {st : List Stmt} {t : TS} (h : PSs X st t) : PSsn n X st t := fun pins s σ H D _ I q => h.run pins s σ H D I q
theorem PWn.pt {e : Expr} {t : TT} (h : PWn n X e t) : PTn n X e t := h _
theorem pssn_cons {st : Stmt} {rest : List Stmt} {t u : TS} (h1 : PSn n X st t) (h2 : PSsn n X rest u) : PSsn n X (st :: rest) (tSeq t u) := by
  intro pins s σ H D hn I h
  refine wpAny_execs_cons (thnN hn (h1 pins s σ H { D with nx := u D } hn I h) fun f s1 hn1 q => ?_)
  cases f with
  | next =>
    obtain ⟨σ1, H1, I1, q1⟩ := q
    exact h2 pins s1 σ1 H1 D hn1 I1 q1
  | ret v => exact q
  | brk => exact q
  | cont => exact q
theorem pssn_one {st : Stmt} {t : TS} (h1 : PSn n X st t) : PSsn n X [st] t := by
  intro pins s σ H D hn I h
  refine wpAny_execs_cons (thnN hn (h1 pins s σ H D hn I h) fun f s1 _ q => ?_)
  cases f with
  | next => exact wpAny_execs_nil q
  | ret v => exact q
  | brk => exact q
  | cont => exact q
theorem psn_ret {e : Expr} {te : TE} {pos : Pos} (he : PEn n X e te) : PSn n X (.Return (some e) pos) (tRet te) := fun pins s σ H D hn I h =>
  wpAny_Return_some (thn (he pins s σ H _ hn I h) fun _ _ ⟨x, H1, I1, r1, q1⟩ => ⟨x, σ, H1, I1, r1, q1⟩)
theorem psn_if {c : Expr} {a b : List Stmt} {tc : TT} {t u : TS} {pos : Pos} (hc : PTn n X c tc) (ha : PSsn n X a t) (hb : PSsn n X b u) : PSn n X (.If c a b pos) (tIfS tc t u) := by
  intro pins s σ H D hn I h
  refine wpAny_If (thnN hn (hc pins s σ H _ hn I h) fun d s1 hn1 ⟨H1, I1, q1⟩ => ?_)
  cases d with
  | true => exact ha pins s1 σ H1 D hn1 I1 q1
  | false => exact hb pins s1 σ H1 D hn1 I1 q1
theorem psn_set {i : Nat} {x : Str} {e : Expr} {te : TE} {pos pos' : Pos} (hN : X.N.Nodup) (hi : X.N[i]? = some x) (hx : Loc X.env.scope x) (he : PEn n X e te) (hs : swapsWith e (some (.Name x pos')) pos.line X.env = pure false := by rfl)
    (hf : X.fn x = true ∨ X.env.scope.names.lookup x = some .local := by first | exact .inl rfl | exact .inr rfl | assumption) : PSn n X (.Assign [.Name x pos'] e pos) (tAsg te (gName i)) := fun pins s σ H D hn I h =>
  wpAny_Assign_Name (thn (he pins s σ H _ hn I h) fun _ s1 ⟨y, H1, I1, r1, q1⟩ => store_ok I1 hN hi hx r1 (fun _ I2 => ⟨_, H1, I2, q1⟩) hf) hs
theorem pan_nil : PAn n X [] tNil := pa_nil.up
theorem pan_cons {e : Expr} {es : List Expr} {te : TE} {ta : TA} (he : PEn n X e te) (hr : PAn n X es ta) (hs : starEach (e :: es) X.env = (false, eval e X.env) :: starEach es X.env := by rfl) : PAn n X (e :: es) (tCons te ta) := by
  intro pos pins s σ H Q hn I h
  rw [hs]
  refine Calls.spliced_cons (thnN hn (he pins s σ H _ hn I h) fun v s1 hn1 ⟨x, H1, I1, r1, q1⟩ => ?_)
  exact thn (hr pos pins s1 σ H1 _ hn1 I1 q1) fun us s2 ⟨vs, H2, I2, r2, q2⟩ => ⟨x :: vs, H2, I2, .cons r1 r2, q2⟩
theorem run_fnRn {pins : List (Addr × Obj)} {σ : L2.St} {H : Hp} {s : Shared} {CX : CXT} {k : Nat} {f : Addr} {sp : Sp} {E : XK} {Q : VK} {us : List Value} {vs : List V} (hn : n ≤ s.toks) (F : FnRn n X.prog X.w X.K X.mg X.base CX k f sp) (hr : Room k X.A) (hx : Passes CX X E) (I : Inv X pins σ H s) (r : Vals vs us) (h : sp vs H Q E) :
    codeAny (model X.prog X.w) X.A (.call (.ref f) ⟨us, []⟩) (fun r s' => match r with | .ok (.ret v) => EP X pins σ Q v s' | .ok _ => False | .error e => X.xe e s') s := by
  refine codeAny_mono (F X.A X.stack s H us vs Q E hn hr I.env0 r h) fun r s' hq => ?_
  cases r with
  | error e => exact hx pins σ H s e s' I hq
  | ok fl =>
    cases fl with
    | ret u => exact I.after hq
    | next => exact False.elim hq
    | brk => exact False.elim hq
    | cont => exact False.elim hq
/-- x(e, ..), x a def of the module -/
def tCal (sp : Sp) (E : XK) (t : TA) : TE := fun σ H Q => t σ H fun vs H1 => sp vs H1 Q E
theorem pen_call {CX : CXT} {k : Nat} {f : Addr} {sp : Sp} {E : XK} {x : Str} {e : Expr} {es : List Expr} {t : TA} {p pos : Pos} (F : FnRn n X.prog X.w X.K X.mg X.base CX k f sp) (hr : Room k X.A) (hg : Gl X x) (hm : X.mg x = some (.ref f)) (hk : PySem.W.keepIn X.K (.ref f) = true) (hx : Passes CX X E)
    (ha : PAn n X (e :: es) t) (hdb : (x == ("__debug__" : Str)) = false := by decide) (he : starEach (e :: es) X.env = (false, eval e X.env) :: starEach es X.env := by rfl) (hpl : (backTo pos (starEach es X.env)).any (·.1) = false := by rfl) :
    PEn n X (.Call (.Name x p) (e :: es) [] pos) (tCal sp E t) := by
  intro pins s σ H Q hn I h
  refine wpAny_Call_Name_kw (ld_glob I hg hm ?_ hdb)
  exact PySem.W.callWith_K (h₀ := X.base) I.ok.mod.kin hk (thnN hn (ha pos pins s σ H _ hn I h) fun us s1 hn1 ⟨vs, H1, I1, r, q⟩ => ⟨I1.kIn, wpAny_call (run_fnRn hn1 F hr hx I1 r q)⟩) he hpl
theorem pen_callTy {T : String} {r : List V → Hp → VK → Prop} {x : Str} {e : Expr} {es : List Expr} {t : TA} {p pos : Pos} (hc : CallR X (.type T) r) (hg : Gl X x) (hm : X.mg x = none) (hv : bootBuiltins x = some (.type T)) (ha : PAn n X (e :: es) t) (hne : x ≠ "__name__" := by decide) (hdb : (x == ("__debug__" : Str)) = false := by decide)
    (he : starEach (e :: es) X.env = (false, eval e X.env) :: starEach es X.env := by rfl) (hpl : (backTo pos (starEach es X.env)).any (·.1) = false := by rfl) : PEn n X (.Call (.Name x p) (e :: es) [] pos) (tCB r t) := by
  intro pins s σ H Q hn I h
  refine wpAny_Call_Name_kw (ld_blt I hg hm hv ?_ hne hdb)
  exact PyProof.Rows.callWith_type1 (thn (ha pos pins s σ H _ hn I h) fun us s1 ⟨vs, H1, I1, r1, q1⟩ => hc pins s1 σ H1 vs us Q I1 r1 q1) he hpl
theorem pen_op {op : Operator} {r : R2} {a b : Expr} {ta tb : TE} {pos : Pos} (ho : OpRn n X (binaryOp op) r) (ha : PEn n X a ta) (hb : PEn n X b tb) : PEn n X (.BinOp a op b pos) (tOp r ta tb) := fun pins s σ H Q hn I h =>
  wpAny_BinOp (thnN hn (ha pins s σ H _ hn I h) fun v s1 hn1 ⟨x, H1, I1, rx, q1⟩ => thnN hn1 (hb pins s1 σ H1 _ hn1 I1 q1) fun u s2 hn2 ⟨y, H2, I2, ry, q2⟩ => ho pins s2 σ H2 x y v u Q hn2 I2 rx ry q2)
theorem ptn_cmpR {op : CmpOp} {r : R2} {a b : Expr} {ta tb : TE} {pos : Pos} (ho : OpR X (compareOp op) r) (ha : PEn n X a ta) (hb : PEn n X b tb) (hm : behindInMarks op b = false) : PTn n X (.Compare a [op] [b] pos) (tTest (tOp r ta tb)) := by
  intro pins s σ H Q hn I h
  refine wpAny_isTrue_Compare1 (thnN hn (ha pins s σ H _ hn I h) fun v s1 hn1 ⟨x, H1, I1, r1, q1⟩ => thn (hb pins s1 σ H1 _ hn1 I1 q1) fun u s2 ⟨y, H2, I2, r2, q2⟩ => thn (ho pins s2 σ H2 x y v u _ I2 r1 r2 q2) fun c s3 ⟨z, H3, I3, r3, k, e, q3⟩ => ?_) hm
  subst e
  cases r3
  exact wpAny_truthy_bool ⟨H3, I3, q3⟩
end
/-- nothing raised: whatever is wished of what is raised -/
theorem pssn_nox {X : Cx} {n : Nat} {st : List Stmt} {t : TS} (h : PSsn n X.nox st t) : PSsn n X st t := fun pins s σ H D hn I q =>
  wpAny_mono (h pins s σ H D hn (I.wish _) q) (fun _ _ z => z.unwish) fun _ _ z => False.elim z
theorem fn_n {CX : CXT} {P : Program} {w : World} {K : PySem.W.Frag} {mg : Str → Option Value} {base : Heap} {n k : Nat} {f : Addr} {x qual : Str} {st : Stmt} {fd : FuncData} {N ps : List Str} {sp : Sp} (F : L2.Fun K x qual st f fd) (b : Binds K fd ps []) (S : FnScope N ps (defScope st)) (len : ∀ vs H Q E, sp vs H Q E → vs.length = ps.length)
    (hbody : ∀ (cdv : Value) (A : Around) (outer : List Env) (s : Shared) (H : Hp) (vs : List V) (Q : VK) (E : XK), Room k (A.deeper (envOfC qual (defScope st) s.heap.objs.size f cdv)) → sp vs H Q E →
      ∃ t, PSsn n (cxOf CX P w K mg base N qual (defScope st) f cdv A outer s H E).nox (defBody st) t ∧ t { nx := fun _ H' => Q .non H', rt := Q } (start N vs) H) : FnRn n P w K mg base CX (k + 1) f sp := by
  obtain ⟨oc, od, kV, doc, pm, an, cdv, ct, osl, rfl, lk, hcd⟩ := F.ex
  intro A outer s H us vs Q E hn hr e0 r hsp
  have hl : vs.length = ps.length := len vs H Q E hsp
  have KX : K.In s.heap := e0.mod.kin.keeps fun b o e => (e0.bs b o e).1
  have lim : s.heap.NoLimit := e0.mod.nolimit.keeps fun b o e => (e0.bs b o e).1
  have hkind : ∀ y ∈ ps.zip us, (defScope st).names.lookup y.1 = some .local ∨ ((defScope st).names.lookup y.1 = some .cell ∧ ((cellsFrom (s.heap.objs.size + 1) (defScope st).names []).lookup y.1).isSome = true) := fun ⟨m, v⟩ hy => by
    rcases S.par m (List.of_mem_zip hy).1 with q | q
    · exact .inl q
    · exact .inr ⟨q, PySem.W.cellsFrom_some _ _ _ (.inl q)⟩
  have hul : us.length = ps.length := by rw [← r.length]; exact hl
  have hb := b s us KX (by rw [List.append_nil]; exact hul)
  rw [List.append_nil] at hb
  refine codeAny_call_function hr.depth (KX _ _ lk) rfl S.co S.gen rfl (PySem.W.codeRec_of KX hcd) (hb _ _ _ _ ?_)
  refine wpAny_with_toks hn (wpAny_mono (wpAny_newFunctionEnv_cells (Q := fun env s1 => n ≤ s1.toks → _) S.kind hkind fun env he s1 x hn1 => ?_) (fun _ _ z => z) fun _ _ z _ => z)
  subst he
  refine ⟨lim.keeps x.toInCall.keep, codeAny_func ?_⟩
  obtain ⟨t, ht, hq⟩ := hbody cdv A outer s H vs Q E (hr.deeper _) hsp
  have I : Inv (cxOf CX P w K mg base N qual (defScope st) f cdv A outer s H E) [] (start N vs) H s1 := inv_start S hr.hd e0 hl r x
  refine wpAny_mono (pssn_nox ht [] s1 (start N vs) H _ hn1 I hq) (fun fl s' hs => ?_) fun e s' hs => hs
  have fin : ∀ {σ' : L2.St} {H' : Hp} {v : V} {u : Value}, Inv (cxOf CX P w K mg base N qual (defScope st) f cdv A outer s H E) [] σ' H' s' → RelV v u → Q v H' → CE outer P w H s Q u s' :=
    fun {σ' H' v u} J rv q => ⟨v, H', J.os, J.bare, J.base, J.hok, rv, q⟩
  cases fl with
  | ret u =>
    obtain ⟨v, σ', H', J, rv, q⟩ := hs
    exact fin J rv q
  | next =>
    obtain ⟨σ', H', J, q⟩ := hs
    exact fin (v := V.non) (u := Value.none) J rfl q
  | brk =>
    obtain ⟨_, _, _, q⟩ := hs
    exact False.elim q
  | cont =>
    obtain ⟨_, _, _, q⟩ := hs
    exact False.elim q
end TH
end
section
set_option Elab.async false
set_option maxRecDepth 100000
set_option maxHeartbeats 4000000
set_option linter.all false
namespace TH
open PySem PySem.Spec PyProof.Rows L2
section
variable {X : Cx} {n : Nat}
/-- what a turn leaves of the iterator's own objects -/
theorem turn_back {pins : List (Addr × Obj)} {fp : List Addr} {it : Addr} {tg : Expr} {J : It} {tn : Nat → Heap → Prop} {i : Nat} {h5 : Heap} {σ7 : L2.St} {H7 : Hp} {s7 : Shared} (T : Turn X.prog X.w X.K tg J fp it tn) (st5 : tn i h5)
    (I7 : Inv X (pins ++ pinsAt fp h5) σ7 H7 s7) : tn i s7.heap ∧ ∀ b ∈ fp, H7 b = none := by
  have key : ∀ b ∈ fp, ∀ o, h5.get? b = some o → s7.heap.get? b = some o ∧ H7 b = none := fun b hb o e => by
    obtain ⟨z1, z2, _⟩ := I7.pin (b, o) (List.mem_append_right _ (List.mem_append_right _ (mem_pinsAt hb e)))
    exact ⟨z1, z2⟩
  refine ⟨T.keep _ _ _ st5 fun b hb o e => (key b hb o e).1, fun b hb => ?_⟩
  obtain ⟨o, e, _⟩ := T.obj _ _ st5 b hb
  exact (key b hb o e).2
theorem psn_for {tg iter : Expr} {body : List Stmt} {wi : TI} {g : TG} {tb : TS} {pos : Pos} (hp : PassesOwn (model X.prog X.w) X.A X.env X.xe) (hc : X.calm = true) (hi : PI X tg iter wi) (hg : PG X tg g) (hb : PSsn n X body tb)
    (hs : ∀ x, foldedSetIterable iter X.env x = pure x := by intro _; rfl) : PSn n X (.For tg iter body [] pos) (tFor wi g tb) := by
  intro pins s σ H D hn I h
  refine wpAny_For (thnN hn (hi.run pins s σ H _ I h) fun v s1 hn1 h1 => thnN hn1 h1 fun itv s2 hn2 h2 => ?_) hs
  obtain ⟨it, fp, tn, J, H2, rfl, I2, T, st2, f2, W, ⟨m0, w0⟩, turn⟩ := h2
  refine codeAny_forLoop_any (fun m s' => n ≤ s'.toks ∧ ∃ i σ' H', Inv X pins σ' H' s' ∧ tn i s'.heap ∧ (∀ b ∈ fp, H' b = none) ∧ W i m σ' H') ?_ m0 ⟨hn2, 0, σ, H2, I2, st2, fun b hb => (f2 b hb).1, w0⟩
  rintro m s3 ⟨hn3, i, σ3, H3, I3, st3, fr3, w3⟩
  have ok3 : ∀ {H' : Hp}, (∀ b ∈ fp, H' b = none) → ∀ b ∈ fp, FpOk X pins H' b := fun z b hb => ⟨z b hb, (f2 b hb).2⟩
  rcases turn i m σ3 H3 w3 with ⟨stop, qn⟩ | ⟨go, N, hN, step⟩
  · refine wpAny_passesOwn hp (thn (T.done X rfl rfl rfl hc i pins s3 σ3 H3 X.xe I3 (ok3 fr3) st3 stop) fun r s4 hr => ?_)
    obtain ⟨rfl, I4⟩ := hr
    exact wpAny_execs_nil ⟨σ3, H3, I4, qn⟩
  · refine wpAny_passesOwn hp (thnN hn3 (T.item X rfl rfl rfl hc i pins s3 σ3 H3 X.xe I3 (ok3 fr3) st3 go) fun r s4 hn4 hr => ?_)
    obtain ⟨u, rfl, h4⟩ := hr
    refine wpAny_passesOwn hp (thnN hn4 h4 fun _ s5 hn5 ⟨x, H5, I5, r5, y5, st5, fr5⟩ => ?_)
    have J5 := I5.pinned (ok3 fr5) (T.obj _ _ st5)
    refine wpAny_passesOwn hp (thnN hn5 (hg.run _ s5 σ3 H5 x u _ J5 r5 (step x H5 y5)) fun _ s6 hn6 ⟨σ6, H6, I6, q6⟩ => ?_)
    refine wpAny_passesOwn hp (thnN hn6 (hb _ s6 σ6 H6 _ hn6 I6 q6) fun f s7 hn7 q7 => ?_)
    have more : ∀ {σ7 : L2.St} {H7 : Hp}, Inv X (pins ++ pinsAt fp s5.heap) σ7 H7 s7 → N σ7 H7 → ∃ m', m' < m ∧ (n ≤ s7.toks ∧ ∃ i σ' H', Inv X pins σ' H' s7 ∧ tn i s7.heap ∧ (∀ b ∈ fp, H' b = none) ∧ W i m' σ' H') := fun {σ7 H7} I7 z => by
      obtain ⟨m', hm, w7⟩ := hN σ7 H7 z
      obtain ⟨t1, t2⟩ := turn_back T st5 I7
      exact ⟨m', hm, hn7, i + 1, σ7, H7, I7.unpinned, t1, t2, w7⟩
    cases f with
    | next => obtain ⟨σ7, H7, I7, z⟩ := q7; exact more I7 z
    | cont => obtain ⟨σ7, H7, I7, z⟩ := q7; exact more I7 z
    | brk => obtain ⟨σ7, H7, I7, z⟩ := q7; exact ⟨σ7, H7, I7.unpinned, z⟩
    | ret v => obtain ⟨x7, σ7, H7, I7, r7, z⟩ := q7; exact ⟨x7, σ7, H7, I7.unpinned, r7, z⟩
theorem pwn_or1 {a : Expr} {tA : TT} {pos : Pos} (ha : PTn n X a tA) : PWn n X (.BoolOp .Or [a] pos) tA := by
  intro whole pins s σ H Q hn I h
  refine isTrue_or (thn (ha pins s σ H Q hn I h) fun c s1 e => ?_)
  cases c with
  | false => exact isTrue_or_nil e
  | true => exact e
theorem pwn_or {a b : Expr} {rest : List Expr} {tA tB : TT} {pos : Pos} (ha : PTn n X a tA) (hb : PWn n X (.BoolOp .Or (b :: rest) pos) tB) : PWn n X (.BoolOp .Or (a :: b :: rest) pos) (tOr tA tB) := by
  intro whole pins s σ H Q hn I h
  refine isTrue_or (thnN hn (ha pins s σ H _ hn I h) fun c s1 hn1 ⟨H1, I1, q1⟩ => ?_)
  cases c with
  | true => exact ⟨H1, I1, q1⟩
  | false => exact hb whole pins s1 σ H1 Q hn1 I1 q1
/-- where nothing may be raised -/
theorem thnFN {α : Type} {t : Sem α} {Q Q' : α → Shared → Prop} {M : Model} {A : Around} {E : Value → Shared → Prop} {s : Shared} (hn : n ≤ s.toks) (h : wpAny M A t Q (fun _ _ => False) s) (hQ : ∀ a s', n ≤ s'.toks → Q a s' → Q' a s') : wpAny M A t Q' E s :=
  wpAny_mono (wpAny_toks_of hn h) (fun a s' z => hQ a s' z.1 z.2) fun _ _ z => False.elim z.2
end
section
variable {X : Cx} {n : Nat} {pins : List (Addr × Obj)} {σ : L2.St}
/-- the loop's own context -/
abbrev blkE (X : Cx) (scope : Scope) (s : Shared) : Env := compEnvC scope (cellsFrom (s.heap.objs.size + 1) scope.names (cloFrom X.env.cells scope.names [])) s.heap.objs.size X.env
/-- the iterator's own objects, within the block: as they were, not tracked -/
theorem blk_fp {B : Cx} {fp : List Addr} (hx : ∀ b ∈ fp, b ∈ B.ex) (hp : B.pn = []) {σ' : L2.St} {H' : Hp} {s' : Shared} (J : Inv B [] σ' H' s') (z : ∀ b ∈ fp, H' b = none) : ∀ b ∈ fp, FpOk B [] H' b := fun b hb =>
  ⟨z b hb, (J.ok.exf b (hx b hb)).1, J.ok.exfs b (hx b hb), .inl (hx b hb), fun x c e => (J.ok.exf b (hx b hb)).2 x c e, fun p hp' => by
    rw [hp] at hp'
    cases hp'⟩
/-- a turn's end: the loop's word again -/
theorem blk_turn {B : Cx} {tg : Expr} {J : It} {fp : List Addr} {it : Addr} {tn : Nat → Heap → Prop} {i : Nat} {h7 : Heap} {vs : List Nat} {σ8 : L2.St} {H' : Hp} {s' : Shared} (T : Turn B.prog B.w B.K tg J fp it tn) (st : tn i h7)
    (w8 : wipe σ8 vs = wipe σ vs) (I' : Inv B ([] ++ pinsAt fp h7) σ8 H' s') : Inv B [] (wipe σ vs) H' s' ∧ tn i s'.heap ∧ ∀ b ∈ fp, H' b = none := by
  obtain ⟨t1, t2⟩ := turn_back T st I'
  refine ⟨(I'.unpinned (pins := [])).weak (by rw [← w8, wipe_length]) fun j v e => ?_, t1, t2⟩
  rw [← w8] at e
  exact (wipe_some e).1
/-- what a comprehension with `tYes` reads of its loop -/
abbrev LcW (g : TG) (te : TE) (vs : List Nat) (σ : L2.St) (J : It) (D : Addr) (W : Nat → Nat → Hp → Prop) (Qd : Hp → Prop) : Prop := ∀ i m H, W i m H →
  (J.stop i H ∧ Qd H) ∨ (J.go i H ∧ ∃ Nx : Hp → Prop, (∀ H', Nx H' → ∃ m', m' < m ∧ W (i + 1) m' H') ∧ ∀ x H', J.yld i H x H' → g x (wipe σ vs) H' fun σ2 H2 => wipe σ2 vs = wipe σ vs ∧ tYes σ2 H2 fun b H3 =>
    if b = true then te σ2 H3 fun y H4 => ∃ acc, H4 D = some (.lst acc) ∧ acc.length < sizeLine ∧ Nx (upd H4 D (.lst (acc ++ [y]))) else Nx H3)
/-- the loop of the block, in the block's own context B -/
theorem lcn_loop {B : Cx} {elt tg iter : Expr} {scope : Scope} {pos : Pos} {g : TG} {te : TE} {vs : List Nat} {J : It} {fp : List Addr} {it D : Addr} {tn : Nat → Heap → Prop} {W : Nat → Nat → Hp → Prop} {Qd : Hp → Prop} {R : Result → Shared → Prop} {H : Hp} {s : Shared} {m0 : Nat}
    (hx : ∀ b ∈ fp, b ∈ B.ex) (hpn : B.pn = []) (hxe : B.xe = fun _ _ => False) (hc : B.calm = true) (T : Turn B.prog B.w B.K tg J fp it tn) (pg : PG B tg g) (pe : PEn n B elt te) (turn : LcW g te vs σ J D W Qd)
    (fin : ∀ H' s', Inv B [] (wipe σ vs) H' s' → Qd H' → R (.ok .next) s') (hn : n ≤ s.toks) (I : Inv B [] (wipe σ vs) H s) (st : tn 0 s.heap) (hf : ∀ b ∈ fp, H b = none) (w0 : W 0 m0 H) :
    codeAny (model B.prog B.w) B.A (.compLoop (.ListComp elt [⟨tg, iter, [], 0⟩] scope pos) 0 (.ref it) (.ref D) B.env) R s := by
  refine compLoop_any (fun m t => n ≤ t.toks ∧ ∃ i H', Inv B [] (wipe σ vs) H' t ∧ tn i t.heap ∧ (∀ b ∈ fp, H' b = none) ∧ W i m H') ?_ m0 ⟨hn, 0, H, I, st, hf, w0⟩
  rintro m t ⟨hm, i, H1, I1, st1, f1, w1⟩
  rcases turn i m H1 w1 with ⟨stop, qd⟩ | ⟨go, Nx, hNx, step⟩
  · refine thnFN hm (T.done B rfl rfl rfl hc i [] t _ H1 (fun _ _ => False) I1 (blk_fp hx hpn I1 f1) st1 stop) fun r t2 _ ⟨e, I2⟩ => ?_
    rw [e]
    exact fin H1 t2 I2 qd
  · refine thnFN hm (T.item B rfl rfl rfl hc i [] t _ H1 (fun _ _ => False) I1 (blk_fp hx hpn I1 f1) st1 go) fun r t2 hm2 ⟨u, e, more⟩ => ?_
    rw [e]
    refine thnFN hm2 more fun _ t3 hm3 ⟨x, H3, I3, rx, y3, st3, f3⟩ => ?_
    have pinned := I3.pinned (blk_fp hx hpn I3 f3) (T.obj _ _ st3)
    have h4 := pg.run _ t3 _ H3 x u _ pinned rx (step x H3 y3)
    rw [hxe] at h4
    refine thnFN hm3 h4 fun _ t4 hm4 ⟨σ4, H4, I4, w4, q4⟩ => ?_
    refine wpAny_tests_nil ?_
    have h5 := pe _ t4 σ4 H4 _ hm4 I4 (show te σ4 H4 _ from q4)
    rw [hxe] at h5
    show if true = true then _ else _
    rw [if_pos rfl]
    refine thnFN hm4 h5 fun z t5 hm5 ⟨yv, H5, I5, r5, acc, hD, hz, nx⟩ => ?_
    refine thnFN hm5 (app_ok (X := B) (E := fun _ _ => False) (Q := fun _ t6 => ∃ H6, Inv B _ σ4 H6 t6 ∧ Nx H6) I5 hD hz r5 fun t6 I6 => ⟨_, I6, nx⟩) fun _ t6 hm6 ⟨H6, I6, nx6⟩ => ?_
    obtain ⟨m', lt, w6⟩ := hNx H6 nx6
    obtain ⟨k1, k2, k3⟩ := blk_turn T st3 w4 I6
    exact ⟨m', lt, hm6, i + 1, H6, k1, k2, k3, w6⟩
theorem lcn_core {s : Shared} {H : Hp} {Q : VK} {elt tg iter : Expr} {scope : Scope} {own : List (Str × Nat)} {pos pos' : Pos} {wi : TI} {g : TG} {te : TE} {use : Option (Value → Sem Unit)} {Qf : Value → Shared → Prop}
    (hc : X.calm = true) (hN : X.N.Nodup) (hn : n ≤ s.toks) (I : Inv X pins σ H s) (hi : PI X tg iter wi) (ok : BlkOk X.N X.env.scope scope own)
    (hg : ∀ (s : Shared) (H : Hp) (C : Addr) (cl : List (Str × Addr)) (fp : List Addr), PG (X.blk s H scope (compEnvC scope cl C X.env) fp) tg g)
    (he : ∀ (s : Shared) (H : Hp) (C : Addr) (cl : List (Str × Addr)) (fp : List Addr), PEn n (X.blk s H scope (compEnvC scope cl C X.env) fp) elt te) (hs : ∀ x, foldedSetIterable iter X.env x = pure x)
    (h : tLc wi g tYes te (own.map (·.2)) σ H Q)
    (hRR : ∀ D C s' m H', Inv X pins σ H' s' → Q (.ref D) H' → s'.heap.Ns C m → FpOk X pins H' C → compPost (model X.prog X.w) X.A X.xe use Qf (.ref D) C (.ok .next) s') :
    wpAny (model X.prog X.w) X.A (comprehension (.ListComp elt [⟨tg, iter, [], 0⟩] scope pos) scope X.env pos' (newList []) false (eval iter X.env) use) Qf X.xe s := by
  have known : ∀ y ∈ scope.names, y.2 = .free → ∃ c, X.env.cells.lookup y.1 = some c := fun y hy e => (ok.free y hy e).elim (fun k => I.ok.has _ (.inl k)) fun k => I.ok.has _ (.inr k)
  refine wpAny_comprehension_free (use := use) rfl hs (closure_ok known) ok.kind (fun y hy e => by rw [ok.uniq y hy, e]) ?_
  refine thnN hn (hi.run pins s σ H _ I h) fun xv s1 hn1 hx => thnN hn1 hx fun itv s2 hn2 h2 => ?_
  obtain ⟨it, fp, tn, J, H2, rfl, I2, T, st2, f2, q⟩ := h2
  refine wpAny_newObj_type (newEnv_comp ?_) (by show 0 ≤ sizeLine; decide)
  have free2 : H2 s2.heap.objs.size = none := I2.hok.fresh (Nat.le_refl _)
  have below : ∀ b ∈ fp, b < s2.heap.objs.size := fun b hb => by
    obtain ⟨o, e, _⟩ := T.obj _ _ st2 b hb
    exact Heap.lt_size e
  have laid3 : Inv X pins σ (upd H2 s2.heap.objs.size (.lst [])) { s2 with heap := s2.heap.push { cls := .type "list", data := .seq ([] : List Value).toArray } } :=
    I2.laid (t' := s2.toks) (fun b o e => Heap.get?_push_of_some _ e) (Nat.le_refl _) ⟨Nat.zero_le _, [], 0, .nil, Heap.get?_push_size _ rfl⟩
  have st3 : tn 0 (s2.heap.push { cls := .type "list", data := .seq ([] : List Value).toArray }) := T.keep _ _ _ st2 fun b _ o e => Heap.get?_push_of_some _ e
  obtain ⟨W, ⟨m0, w0⟩, turn⟩ := q _ free2
  generalize hD : s2.heap.objs.size = D at free2 below laid3 turn w0 ⊢
  generalize hH3 : upd H2 D (.lst []) = H3 at laid3 w0
  have f3 : ∀ b ∈ fp, FpOk X pins H3 b ∧ b < ({ s2 with heap := s2.heap.push { cls := .type "list", data := .seq ([] : List Value).toArray } } : Shared).heap.objs.size := fun b hb => by
    have lt := below b hb
    refine ⟨⟨?_, (f2 b hb).2⟩, ?_⟩
    · rw [← hH3, upd_ne (Nat.ne_of_lt lt)]
      exact (f2 b hb).1
    · show b < (s2.heap.push _).objs.size
      rw [Heap.size_push, hD]
      exact Nat.lt_succ_of_lt lt
  generalize hs3 : ({ s2 with heap := s2.heap.push { cls := .type "list", data := .seq ([] : List Value).toArray } } : Shared) = s3 at laid3 f3
  have h3 : s2.heap.push { cls := .type "list", data := .seq ([] : List Value).toArray } = s3.heap := by rw [← hs3]
  have hn3 : n ≤ s3.toks := by rw [← hs3]; exact hn2
  rw [h3] at st3
  have I4 := block_start laid3 ok hN f3
  have st4 : tn 0 (pushCells (s3.heap.push { cls := .type "dict", data := .dict #[] }) scope.names) := T.keep _ _ _ st3 fun b _ o e => pushCells_keeps _ _ _ _ (Heap.get?_push_of_some _ e)
  show codeAny _ _ (.compStart (.ListComp elt [⟨tg, iter, [], 0⟩] scope pos) 0 (.ref it) (.ref D) (blkE X scope s3)) (compPost (model X.prog X.w) X.A X.xe use Qf (.ref D) s3.heap.objs.size) { s3 with heap := pushCells (s3.heap.push { cls := .type "dict", data := .dict #[] }) scope.names }
  have loop : codeAny (model X.prog X.w) X.A (.compLoop (.ListComp elt [⟨tg, iter, [], 0⟩] scope pos) 0 (.ref it) (.ref D) (blkE X scope s3)) (compPost (model X.prog X.w) X.A X.xe use Qf (.ref D) s3.heap.objs.size) { s3 with heap := pushCells (s3.heap.push { cls := .type "dict", data := .dict #[] }) scope.names } := by
    refine lcn_loop (B := X.blk s3 H3 scope (blkE X scope s3) fp) (n := n) (J := J) (Qd := Q (.ref D)) (W := W) (vs := own.map (·.2)) (σ := σ) (fun b hb => hb) rfl rfl hc T (hg _ _ _ _ _) (he _ _ _ _ _) turn ?_ hn3 I4 st4 (fun b hb => (f3 b hb).1.1) w0
    intro H' s' J' qd
    have back : Inv X pins σ H' s' := laid3.call' (ch := fp) J'.os J'.base J'.hok J'.bare fun b hb => ⟨(f3 b hb).1.2.2.2.1, (f3 b hb).1.2.1, (f3 b hb).1.2.2.2.2.1, (f3 b hb).1.2.2.2.2.2⟩
    obtain ⟨m, hm, _⟩ := J'.loc
    exact hRR D s3.heap.objs.size s' m H' back qd hm (laid3.fpOk (Nat.le_refl _) J'.free)
  exact codeAny_compStart_list loop (T.self X.A 0 _ _ _ st4 loop)
/-- [e for x in xs], e wants n tokens out -/
theorem pen_lc {elt tg iter : Expr} {scope : Scope} {own : List (Str × Nat)} {pos : Pos} {wi : TI} {g : TG} {te : TE} (hc : X.calm = true) (hN : X.N.Nodup) (hi : PI X tg iter wi) (ok : BlkOk X.N X.env.scope scope own)
    (hg : ∀ (s : Shared) (H : Hp) (C : Addr) (cl : List (Str × Addr)) (fp : List Addr), PG (X.blk s H scope (compEnvC scope cl C X.env) fp) tg g)
    (he : ∀ (s : Shared) (H : Hp) (C : Addr) (cl : List (Str × Addr)) (fp : List Addr), PEn n (X.blk s H scope (compEnvC scope cl C X.env) fp) elt te) (hs : ∀ x, foldedSetIterable iter X.env x = pure x := by intro _; rfl) :
    PEn n X (.ListComp elt [⟨tg, iter, [], 0⟩] scope pos) (tLc wi g tYes te (own.map (·.2))) := by
  intro pins s σ H Q hn I h
  rw [eval_ListComp]
  refine lcn_core hc hN hn I hi ok hg he hs h fun D C s' m H' I' q hns f => ⟨m, hns, fun h2 sb => ?_⟩
  obtain ⟨a0, a1, _, a3, a4, a5⟩ := f
  exact ⟨.ref D, H', I'.turned (t' := s'.toks) (fun b o hb e => (sb.2 b hb).trans e) a0 a1 a3 a4 a5, rfl, q⟩
/-- y = [e for x in xs] on one line, y a local -/
theorem psn_setLc {i : Nat} {y : Str} {py : Pos} {elt tg iter : Expr} {scope : Scope} {own : List (Str × Nat)} {pos spos : Pos} {wi : TI} {g : TG} {te : TE} (hc : X.calm = true) (hN : X.N.Nodup) (hy : X.N[i]? = some y) (hyl : X.env.scope.names.lookup y = some .local)
    (hsw : swapsWith (.ListComp elt [⟨tg, iter, [], 0⟩] scope pos) (some (.Name y py)) spos.line X.env = pure true) (hi : PI X tg iter wi) (ok : BlkOk X.N X.env.scope scope own)
    (hg : ∀ (s : Shared) (H : Hp) (C : Addr) (cl : List (Str × Addr)) (fp : List Addr), PG (X.blk s H scope (compEnvC scope cl C X.env) fp) tg g)
    (he : ∀ (s : Shared) (H : Hp) (C : Addr) (cl : List (Str × Addr)) (fp : List Addr), PEn n (X.blk s H scope (compEnvC scope cl C X.env) fp) elt te) (hs : ∀ x, foldedSetIterable iter X.env x = pure x := by intro _; rfl) :
    PSn n X (.Assign [.Name y py] (.ListComp elt [⟨tg, iter, [], 0⟩] scope pos) spos) (tAsg (tLc wi g tYes te (own.map (·.2))) (gName i)) := by
  intro pins s σ H D hn I h
  rw [exec_Assign_Name_used _ _ _ _ hsw]
  refine wpAny_bind (wpAny_standAt (wpAny_bind ?_))
  show wpAny _ X.A (do let _ ← comprehension (.ListComp elt [⟨tg, iter, [], 0⟩] scope pos) scope X.env (firstIterPos [⟨tg, iter, [], 0⟩] pos) (newList []) false (eval iter X.env) (some (assign (.Name y py) X.env))) _ _ s
  have h' : tLc wi g tYes te (own.map (·.2)) σ H (fun x H1 => gName i x σ H1 D.nx) := h
  refine wpAny_bind (thn (lcn_core (Qf := fun _ s' => SP X pins D .next s') hc hN hn I hi ok hg he hs h' fun L C s' m H' I' q hns f => ?_) fun _ s' hq => wpAny_pure (wpAny_pure hq))
  show wpAny _ _ (assign (.Name y py) X.env (.ref L)) _ _ _
  refine wpAny_assign_Name (store_ok2 (v := V.ref L) I' hN hy (.inl hyl) rfl (fun s2 I2 ⟨a, sb, ha⟩ => ?_) (.inr hyl))
  obtain ⟨a0, a1, _, a3, a4, a5⟩ := f
  have haC : C ≠ a := ha.elim (fun z => by rw [z]; exact a1) fun z e => a4 y a z e.symm
  exact ⟨m, hns.sameBut sb haC, fun h3 sb3 => ⟨_, H', I2.turned (t' := s2.toks) (fun b o hb e => (sb3.2 b hb).trans e) a0 a1 a3 a4 a5, q⟩⟩
end
end TH
end
section
set_option maxHeartbeats 4000000
set_option linter.all false
namespace TM
/-- is it a tilt along rows -/
def isH (c : Nat) : Bool := c == 108 || c == 114
end TM
end
section
set_option maxHeartbeats 4000000
set_option linter.all false
namespace TM
def mb (l : List Nat) : List Nat := l.filter fun c => c != 46
def dots (n : Nat) : List Nat := List.replicate n 46
def sl (s : Bool) (l : List Nat) : List Nat := if s then mb l ++ dots (l.length - (mb l).length) else dots (l.length - (mb l).length) ++ mb l
theorem mb_le (l : List Nat) : (mb l).length ≤ l.length := List.length_filter_le _ _
theorem mb_dots (n : Nat) : mb (dots n) = [] := by
  unfold mb dots
  rw [List.filter_eq_nil_iff]
  intro a ha
  rw [(List.mem_replicate.mp ha).2]
  decide
theorem mb_app (a b : List Nat) : mb (a ++ b) = mb a ++ mb b := List.filter_append ..
theorem mb_mb (l : List Nat) : mb (mb l) = mb l := by unfold mb; rw [List.filter_filter]; simp
theorem sl_len (s : Bool) (l : List Nat) : (sl s l).length = l.length := by
  have := mb_le l
  cases s <;> simp [sl, dots] <;> omega
theorem mb_sl (s : Bool) (l : List Nat) : mb (sl s l) = mb l := by
  cases s <;> simp [sl, mb_app, mb_dots, mb_mb]
abbrev Grid := List (List Nat)
def tr (m : Nat) (g : Grid) : Grid := (List.range m).map fun j => g.map fun r => r.getD j 46
def Rect (n m : Nat) (g : Grid) : Prop := g.length = n ∧ ∀ r ∈ g, r.length = m
theorem tr_rect {n m : Nat} {g : Grid} (h : Rect n m g) : Rect m n (tr m g) := by
  refine ⟨by simp [tr], fun r hr => ?_⟩
  obtain ⟨j, _, rfl⟩ := List.mem_map.mp hr
  simp [h.1]
theorem tr_get {m j : Nat} {g : Grid} (hj : j < m) : (tr m g)[j]? = some (g.map fun r => r.getD j 46) := by
  unfold tr
  rw [List.getElem?_map, List.getElem?_range hj]
  rfl
def LT (s : Bool) (g : Grid) : Grid := g.map (sl s)
def UT (s : Bool) (n m : Nat) (g : Grid) : Grid := tr n (LT s (tr m g))
theorem lt_rect {s : Bool} {n m : Nat} {g : Grid} (h : Rect n m g) : Rect n m (LT s g) := by
  refine ⟨by simp [LT, h.1], fun r hr => ?_⟩
  obtain ⟨q, hq, rfl⟩ := List.mem_map.mp hr
  rw [sl_len]
  exact h.2 q hq
theorem ut_rect {s : Bool} {n m : Nat} {g : Grid} (h : Rect n m g) : Rect n m (UT s n m g) := tr_rect (lt_rect (tr_rect h))
/-- a tilt -/
def tilt (n m : Nat) (g : Grid) (c : Nat) : Grid := if isH c then LT (c == 108) g else UT (c == 117) n m g
theorem tilt_rect {n m c : Nat} {g : Grid} (h : Rect n m g) : Rect n m (tilt n m g c) := by
  unfold tilt
  split
  · exact lt_rect h
  · exact ut_rect h
def tilts (n m : Nat) (t : List Nat) (g : Grid) : Grid := t.foldl (tilt n m) g
theorem tilts_snoc {n m c : Nat} (t : List Nat) (g : Grid) : tilts n m (t ++ [c]) g = tilt n m (tilts n m t g) c := by simp [tilts]
end TM
end
section
set_option Elab.async false
set_option maxRecDepth 100000
set_option linter.all false
namespace TK
open PySem L2
def top (i : Nat) : Stmt := PySem.Challenge.pw_tiltheap_k19_whole_texts_bytes_and_logs.main.body.getD i (.Pass ⟨0, 0, 0, 0⟩)
abbrev sUnknownMarbleInit : Stmt := inClass (top 5) 0
abbrev sIsNumber : Stmt := top 16
abbrev sIsPlace : Stmt := top 17
abbrev sCheckPlace : Stmt := top 18
abbrev sIsTilt : Stmt := top 24
abbrev sWordInit : Stmt := inClass (top 25) 1
abbrev sWordText : Stmt := inClass (top 25) 2
abbrev sFirstWrongIndex : Stmt := top 26
abbrev sTrayInit : Stmt := inClass (top 31) 0
abbrev sTrayOfText : Stmt := inClass (top 31) 1
abbrev sTrayRows : Stmt := inClass (top 31) 2
abbrev sTrayMarbles : Stmt := inClass (top 31) 3
abbrev sTrayHeight : Stmt := inClass (top 31) 4
abbrev sTrayWidth : Stmt := inClass (top 31) 5
abbrev sTrayAt : Stmt := inClass (top 31) 6
abbrev sTrayCall : Stmt := inClass (top 31) 7
abbrev sTrayContains : Stmt := inClass (top 31) 8
abbrev sTrayRshift : Stmt := inClass (top 31) 9
abbrev sTrayEq : Stmt := inClass (top 31) 10
abbrev sFirstWrongCell : Stmt := top 32
abbrev sIsRow : Stmt := top 33
abbrev sTilted : Stmt := top 34
abbrev sSlid : Stmt := top 35
abbrev sPackBytes : Stmt := top 42
abbrev sUnpackBytes : Stmt := top 43
abbrev sEncodeTray : Stmt := top 44
abbrev sDecodeTray : Stmt := top 45
abbrev sRead : Stmt := top 46
abbrev sChecksum : Stmt := top 47
abbrev sDrawing : Stmt := top 49
abbrev sParseDrawing : Stmt := top 50
abbrev sMarbleTable : Stmt := top 51
abbrev sBorder : Stmt := top 52
abbrev sCheckLine : Stmt := top 53
abbrev sAfterTilt : Stmt := top 55
abbrev sAfterPut : Stmt := top 56
abbrev sAfterTake : Stmt := top 57
abbrev sIsLetter : Stmt := top 58
abbrev sWithCell : Stmt := top 59
abbrev sLiveTrayInit : Stmt := inClass (top 62) 0
abbrev sLiveTrayReplay : Stmt := inClass (top 62) 1
abbrev sLiveTrayPresentTray : Stmt := inClass (top 62) 2
abbrev sLiveTrayHistory : Stmt := inClass (top 62) 3
abbrev sLiveTrayTilt : Stmt := inClass (top 62) 4
abbrev sLiveTrayPut : Stmt := inClass (top 62) 5
abbrev sLiveTrayTake : Stmt := inClass (top 62) 6
abbrev sLiveTrayUndo : Stmt := inClass (top 62) 7
abbrev sLiveTrayApply : Stmt := inClass (top 62) 9
abbrev sLiveTrayExtendState : Stmt := inClass (top 62) 11
abbrev sLiveTrayContains : Stmt := inClass (top 62) 12
abbrev sFirstLogError : Stmt := top 63
abbrev sIsOperation : Stmt := top 64
abbrev sArePlacesOf : Stmt := top 65
abbrev sLawTaken : Stmt := top 67
abbrev sLawRows : Stmt := top 68
abbrev sLawText : Stmt := top 69
abbrev sLawTray : Stmt := top 70
abbrev sLawIsWritten : Stmt := top 71
abbrev sLawLog : Stmt := top 72
abbrev sLaw : Stmt := top 73
/-- a text by its signs; one sign -/
abbrev S (t : List Nat) : Str := ⟨t.toArray⟩
abbrev sg (c : Nat) : V := .str ⟨#[c]⟩
theorem S_len (t : List Nat) : (S t).length = t.length := SX.S_len t
theorem S_size (t : List Nat) : (S t).cps.size = t.length := by simp [S]
theorem S_at (t : List Nat) (i : Nat) : (S t).cps[i]? = t[i]? := by simp [S]
theorem S_list (t : List Nat) : (S t).cps.toList = t := by simp [S]
theorem S_of (z : Str) : z = S z.cps.toList := (SX.S_tl z).symm
theorem S_inj {a b : List Nat} (h : S a = S b) : a = b := SX.S_inj h
theorem join_S (a : List Nat) (ys : List (List Nat)) : Txt.join (S a) (ys.map S) = S (TL.joinL a ys) := SX.join_S a ys
theorem joinL_nil : ∀ l : List (List Nat), TL.joinL [] l = l.flatten
  | [] => rfl
  | [p] => by simp [TL.joinL]
  | p :: q :: r => by
    have := joinL_nil (q :: r)
    simp only [TL.joinL, List.nil_append, this, List.flatten_cons]
theorem flat_ones : ∀ l : List Nat, (l.map fun c => [c]).flatten = l
  | [] => rfl
  | c :: r => by simp [flat_ones r]
theorem join_signs (l : List Nat) : Txt.join (Str.ofString "") (l.map fun c => S [c]) = S l := by
  have e := join_S [] (l.map fun c => [c])
  rw [List.map_map, joinL_nil, flat_ones] at e
  exact e
theorem sum_ones (l : List Nat) : ((l.map fun c => S [c]).map (·.length)).sum = l.length := by
  induction l with
  | nil => rfl
  | cons c r ih =>
    rw [List.map_cons, List.map_cons, List.sum_cons, ih]
    show 1 + r.length = r.length + 1
    omega
theorem same_new {H : Hp} {l : Addr} {o : HO} (h : H l = none) : Same H (upd H l o) := fun b o' e => by
  rw [upd_ne (ne_of_none e h)]
  exact e
theorem _root_.L2.Same.tup {K : PySem.W.Frag} {H H' : Hp} {a : Addr} {xs : List V} (e : Same H H') (h : SqT K H a xs) : SqT K H' a xs := by
  rcases h with (h | ⟨o, h⟩) | h
  · exact .inl (.inl (e _ _ h))
  · exact .inl (.inr ⟨o, e _ _ h⟩)
  · exact .inr h
/-- a store at an address that was new -/
theorem same_put {H H1 : Hp} {l : Addr} {o : HO} (s : Same H H1) (h : H l = none) : Same H (upd H1 l o) := fun b o' e => by
  rw [upd_ne (ne_of_none e h)]
  exact s b o' e
end TK
end
section
set_option Elab.async false
set_option maxRecDepth 100000
set_option linter.all false
namespace TK
open PySem L2 TM
/-- what is written about words -/
structure TxtW (K : PySem.W.Frag) (mg : Str → Option Value) : Prop where
  len : mg "len" = none
  isi : mg "isinstance" = none
  str : mg "str" = none
  enum : mg "enumerate" = none
  AR : ∃ u, mg "ALONG_ROWS" = some u ∧ RelV (.str (S [108, 114])) u
  AC : ∃ u, mg "ALONG_COLUMNS" = some u ∧ RelV (.str (S [117, 100])) u
section
variable {P : Program} {w : World} {K : PySem.W.Frag} {mg : Str → Option Value} {base : Heap}
theorem dAR (c : Nat) : decide (c ∈ (S [108, 114]).cps.toList) = isH c := by
  rw [S_list]
  by_cases h : isH c = true
  · rw [h, decide_eq_true]
    simpa [isH] using h
  · rw [Bool.not_eq_true] at h
    rw [h, decide_eq_false]
    simpa [isH] using h
end
end TK
end
section
set_option Elab.async false
set_option maxRecDepth 100000
set_option linter.all false
namespace TK
open PySem L2 TM
/-- is it a tilt's letter -/
def isT (c : Nat) : Bool := decide (c ∈ [108, 114, 117, 100])
/-- a word's text: tilts, so many at most -/
def Good (t : List Nat) : Prop := t.length ≤ 60 ∧ ∀ c ∈ t, isT c = true
def WordAt (C : Addr) (H : Hp) (a : Addr) (t : List Nat) : Prop := ∃ dx, H a = some (.ins C dx [("_text", .str (S t))])
/-- the class Word as the top has made it -/
structure ClsW (K : PySem.W.Frag) (mg : Str → Option Value) (C : Addr) : Prop where
  cl : Cls K C
  nT : NoAttr K C "_text"
  mgC : mg "Word" = some (.ref C)
  mx : ∃ mc u, ClX.CRead K C mc ∧ ClX.CVal K C mc "MAX_TILTS" (.int 60) u
section
variable {P : Program} {w : World} {K : PySem.W.Frag} {mg : Str → Option Value} {base : Heap} {C fT : Addr} {fdT : FuncData}
theorem scIt : FnScope ["value"] ["value"] (defScope sIsTilt) := ⟨rfl, rfl, rfl, by decide +kernel, rfl, by decide +kernel, by decide +kernel⟩
def spIt : Sp := fun vs H Q _ => ∃ c : Nat, vs = [sg c] ∧ Q (.bl (isT c)) H
theorem ok_it {f : Addr} {fd : FuncData} (F : Fun K "is_tilt" "is_tilt" sIsTilt f fd) (T : TxtW K mg) : FnOk P w K mg base CX0 1 f fd ["value"] spIt := by
  refine F.ok scIt (fun vs H Q E h => ?_) (fun cdv A outer s H vs Q E hr h => ?_)
  · obtain ⟨t, rfl, _⟩ := h
    rfl
  · obtain ⟨c, rfl, k⟩ := h
    refine ⟨_, pss_one (ps_ret (pe_and (pe_callB call_isi (by rfl) T.isi (by decide +kernel) (pa_cons (pv 0) (pa_cons (pe_bltn (v := .ty "str") (by rfl) T.str (by decide +kernel) rfl) pa_nil)))
      (pe_and (pe_cmpR op_eq (pe_callB call_len_str (by rfl) T.len PySem.boot_len (pa_cons (pv 0) pa_nil)) pe_int (nomark _))
        (pe_one (pe_cmpR op_in_sign (pv 0) (pe_op op_add_str (C8.pe_gc rfl T.AR) (C8.pe_gc rfl T.AC)) (by rfl)))))), ?_⟩
    refine ⟨_, rfl, _, _, _, _, true, rfl, .ty _, .base (.str _), kit_ty (by decide +kernel), true, rfl, iteT ?_⟩
    refine ⟨_, rfl, _, rfl, by show 1 ≤ sizeLine; decide, rfl, true, rfl, iteT ?_⟩
    refine ⟨_, rfl, _, _, rfl, rfl, by show 4 ≤ sizeLine; decide, c, _, rfl, rfl, ?_⟩
    exact k
theorem scFwi : FnScope ["text", "index", "letter"] ["text"] (defScope sFirstWrongIndex) := ⟨rfl, rfl, rfl, by decide +kernel, rfl, by decide +kernel, by decide +kernel⟩
def spFwi : Sp := fun vs H Q _ => ∃ t : List Nat, vs = [.str (S t)] ∧ Good t ∧ ∀ H', Same H H' → Q .non H'
theorem ok_fwi {f : Addr} {fd : FuncData} (F : Fun K "_first_wrong_index" "_first_wrong_index" sFirstWrongIndex f fd) (T : TxtW K mg) (CW : ClsW K mg C) (FT : Fun K "is_tilt" "is_tilt" sIsTilt fT fdT) (bT : Binds K fdT ["value"] []) (mT : mg "is_tilt" = some (.ref fT)) :
    FnOk P w K mg base CX0 2 f fd ["text"] spFwi := by
  have GT : FnOk P w K mg base CX0 1 fT fdT ["value"] spIt := ok_it FT T
  refine F.ok scFwi (fun vs H Q E h => ?_) (fun cdv A outer s H vs Q E hr h => ?_)
  · obtain ⟨t, rfl, _⟩ := h
    rfl
  · obtain ⟨t, rfl, ⟨hl, hg⟩, k⟩ := h
    refine ⟨_, pss_cons (ps_if (pt_not (pt_val (pe_callB call_isi (by rfl) T.isi (by decide +kernel) (pa_cons (pv 0) (pa_cons (pe_bltn (v := .ty "str") (by rfl) T.str (by decide +kernel) rfl) pa_nil))))) pss_never pss_nil)
      (pss_cons (ps_for PassesOwn.never rfl (TH.pi_enumS (by rfl) T.enum (pa_cons (pv 0) pa_nil)) (pg_tup rfl (pgs_cons (pg_name (i := 1) scFwi.nd rfl (.inl rfl)) (pgs_cons (pg_name (i := 2) scFwi.nd rfl (.inl rfl)) pgs_nil)))
        (pss_one (ps_if (PW.pt (pw_or (pt_cmpR op_ge (pv 1) (ClX.pe_cval (pe_glob (v := .ref C) rfl CW.mgC rfl)) (nomark _)) (pw_or1 (pt_not (pt_val (pe_call GT hr rfl mT FT.kp bT .nil pass0 (pa_cons (pv 2) pa_nil))))))) pss_never pss_nil)))
      (pss_one (ps_ret pe_non))), ?_⟩
    refine ⟨_, rfl, _, _, _, _, true, rfl, .ty _, .base (.str _), kit_ty (by decide +kernel), true, rfl, iteF ?_⟩
    refine ⟨_, rfl, _, rfl, for_it TH.walk_enumS (fun i σ H1 => ∃ v1 v2, σ = [some (.str (S t)), v1, v2] ∧ Same H H1) ⟨none, none, rfl, Same.refl H⟩ (fun _ _ _ _ _ => True.intro) ?_ ?_⟩
    · rintro i x σ H1 H2 hi ⟨v1, v2, rfl, sm⟩ ⟨p, c, rfl, hn, rfl, hc⟩
      rw [S_at] at hc
      have hit : i < t.length := (List.getElem?_eq_some_iff.mp hc).1
      have hcm : isT c = true := hg c (List.mem_of_getElem? hc)
      refine ⟨p, _, rfl, SqT.of upd_same, rfl, ?_⟩
      obtain ⟨mc, u, cr, cv⟩ := CW.mx
      refine ⟨_, _, rfl, _, _, rfl, rfl, _, rfl, C, mc, _, u, rfl, cr, cv, _, _, rfl, rfl, _, rfl, ?_⟩
      have e1 : decide ((i : Int) ≥ (60 : Int)) = false := decide_eq_false (by omega)
      rw [e1]
      refine iteF ⟨_, rfl, c, rfl, true, by rw [hcm], iteF ⟨_, _, rfl, sm.trans (same_new hn)⟩⟩
    · rintro σ H1 ⟨v1, v2, rfl, sm⟩
      exact k _ sm
theorem scWi : FnScope ["self", "text", "wrong"] ["self", "text"] (defScope sWordInit) := ⟨rfl, rfl, rfl, by decide +kernel, rfl, by decide +kernel, by decide +kernel⟩
def spWi (C : Addr) : Sp := fun vs H Q _ => ∃ (p dx : Addr) (t : List Nat), vs = [.ref p, .str (S t)] ∧ H p = some (.ins C dx []) ∧ Good t ∧ ∀ H', WordAt C H' p t → (∀ b o, H b = some o → b ≠ p → H' b = some o) → Q .non H'
theorem ok_wi {f fW : Addr} {fd fdW : FuncData} (F : Fun K "__init__" "Word.__init__" sWordInit f fd) (CW : ClsW K mg C) (GW : FnOk P w K mg base CX0 2 fW fdW ["text"] spFwi) (kW : PySem.W.keepIn K (.ref fW) = true) (bW : Binds K fdW ["text"] []) (mW : mg "_first_wrong_index" = some (.ref fW)) :
    FnOk P w K mg base CX0 3 f fd ["self", "text"] (spWi C) := by
  refine F.ok scWi (fun vs H Q E h => ?_) (fun cdv A outer s H vs Q E hr h => ?_)
  · obtain ⟨p, dx, t, rfl, _⟩ := h
    rfl
  · obtain ⟨p, dx, t, rfl, hp, hg, k⟩ := h
    refine ⟨_, pss_cons (ps_set (i := 2) scWi.nd rfl (.inl rfl) (pe_call GW hr rfl mW kW bW .nil pass0 (pa_cons (pv 1) pa_nil)))
      (pss_cons (ps_if (pt_cmpR op_notN (pv 2) pe_non (nomark _)) pss_never pss_nil)
      (pss_one (ps_fld (pv 0) (pv 1) rfl))), ?_⟩
    refine ⟨_, rfl, t, rfl, hg, fun H1 sm => ?_⟩
    refine ⟨_, rfl, rfl, _, rfl, iteF ?_⟩
    refine ⟨_, rfl, _, rfl, p, C, dx, [], rfl, sm _ _ hp, CW.cl, CW.nT, (by show 0 < 1000; decide), ?_⟩
    exact k _ ⟨dx, upd_same⟩ fun b o e hb => by rw [upd_ne hb]; exact sm _ _ e
end
end TK
end
section
set_option Elab.async false
set_option maxRecDepth 100000
set_option linter.all false
namespace TK
open PySem L2 TM
def letters : List Nat := [97, 98, 99, 100, 101, 102, 103, 104, 105, 106, 107, 108, 109, 110, 111, 112, 113, 114, 115, 116, 117, 118, 119, 120, 121, 122]
/-- a cell's sign: empty or a marble -/
def Cell (c : Nat) : Prop := c = 46 ∨ (97 ≤ c ∧ c ≤ 122)
theorem cell_in {c : Nat} (h : Cell c) : c ∈ [46] ++ letters := by
  unfold Cell at h
  simp only [letters, List.mem_append, List.mem_cons, List.not_mem_nil, or_false]
  omega
/-- rows that make a tray -/
structure VG (n m : Nat) (g : Grid) : Prop where
  rc : Rect n m g
  n1 : 1 ≤ n
  n8 : n ≤ 8
  m1 : 1 ≤ m
  m8 : m ≤ 8
  ok : ∀ r ∈ g, ∀ c ∈ r, Cell c
  nd : (mb g.flatten).Nodup
abbrev rowV (g : Grid) : List V := g.map fun r => V.str (S r)
theorem fresh {a b : List Nat} {c : Nat} (h : (mb (a ++ c :: b)).Nodup) : c ∉ mb a := fun hc => by
  have h46 : (c != 46) = true := (List.mem_filter.mp hc).2
  have e : mb (c :: b) = c :: mb b := by
    unfold mb
    rw [List.filter_cons, if_pos h46]
  rw [mb_app, e] at h
  exact (List.nodup_append.mp h).2.2 c hc c List.mem_cons_self rfl
/-- what comes ahead of the cell in column j of row i -/
def ahead (g : Grid) (r : List Nat) (i j : Nat) : List Nat := (g.take i).flatten ++ r.take j
theorem ahead_step {g : Grid} {r : List Nat} {i j c : Nat} (hc : r[j]? = some c) : ahead g r i (j + 1) = ahead g r i j ++ [c] := by
  unfold ahead
  rw [List.take_add_one, hc, List.append_assoc]
  rfl
theorem ahead_row {g : Grid} {r : List Nat} {i : Nat} (hr : g[i]? = some r) : (g.take (i + 1)).flatten = ahead g r i r.length := by
  unfold ahead
  rw [List.take_add_one, hr, List.take_length]
  simp
theorem ahead_all {g : Grid} {r : List Nat} {i j c : Nat} (hr : g[i]? = some r) (hc : r[j]? = some c) : ∃ b, g.flatten = ahead g r i j ++ c :: b := by
  have hi := (List.getElem?_eq_some_iff.mp hr).1
  have hj := (List.getElem?_eq_some_iff.mp hc).1
  have e1 : g = g.take i ++ r :: g.drop (i + 1) := by
    have := (List.getElem?_eq_some_iff.mp hr).2
    rw [← this]
    simp
  have e2 : r = r.take j ++ c :: r.drop (j + 1) := by
    have := (List.getElem?_eq_some_iff.mp hc).2
    rw [← this]
    simp
  refine ⟨r.drop (j + 1) ++ (g.drop (i + 1)).flatten, ?_⟩
  unfold ahead
  conv => lhs; rw [e1, List.flatten_append, List.flatten_cons, e2]
  simp
theorem mb_step {a : List Nat} {c : Nat} (h : c ≠ 46) : mb (a ++ [c]) = mb a ++ [c] := by
  rw [mb_app]
  simp [mb, h]
theorem mb_dot {a : List Nat} : mb (a ++ [46]) = mb a := by
  rw [mb_app]
  simp [mb]
/-- what is written about trays; t0: the text EMPTY's own token -/
structure TxtT (K : PySem.W.Frag) (mg : Str → Option Value) (t0 : Tok) : Prop where
  EM : mg "EMPTY" = some (.str (S [46]) t0)
  LE : ∃ u, mg "LETTERS" = some u ∧ RelV (.str (S letters)) u
  MS : ∃ u, mg "MAX_SIDE" = some u ∧ RelV (.int 8) u
  set : mg "set" = none
  zip : mg "zip" = none
  tup : mg "tuple" = none
theorem TxtT.em {K : PySem.W.Frag} {mg : Str → Option Value} {t0 : Tok} (T : TxtT K mg t0) : ∃ u, mg "EMPTY" = some u ∧ RelV (.str (S [46])) u := ⟨_, T.EM, ⟨_, rfl⟩⟩
section
variable {P : Program} {w : World} {K : PySem.W.Frag} {mg : Str → Option Value} {base : Heap} {t0 : Tok} {fR : Addr} {fdR : FuncData}
theorem scIr : FnScope ["row"] ["row"] (defScope sIsRow) := ⟨rfl, rfl, rfl, by decide +kernel, rfl, by decide +kernel, by decide +kernel⟩
def spIr : Sp := fun vs H Q _ => ∃ r : List Nat, vs = [.str (S r)] ∧ 1 ≤ r.length ∧ r.length ≤ 8 ∧ Q (.bl true) H
theorem ok_ir {f : Addr} {fd : FuncData} (F : Fun K "_is_row" "_is_row" sIsRow f fd) (T : TxtW K mg) (U : TxtT K mg t0) : FnOk P w K mg base CX0 1 f fd ["row"] spIr := by
  refine F.ok scIr (fun vs H Q E h => ?_) (fun cdv A outer s H vs Q E hr h => ?_)
  · obtain ⟨t, rfl, _⟩ := h
    rfl
  · obtain ⟨r, rfl, h1, h8, k⟩ := h
    refine ⟨_, pss_one (ps_ret (pe_and (pe_callB call_isi (by rfl) T.isi (by decide +kernel) (pa_cons (pv 0) (pa_cons (pe_bltn (v := .ty "str") (by rfl) T.str (by decide +kernel) rfl) pa_nil)))
      (pe_one (pe_chain op_le op_le pe_int (pe_callB call_len_str (by rfl) T.len PySem.boot_len (pa_cons (pv 0) pa_nil)) (C8.pe_gc rfl U.MS))))), ?_⟩
    refine ⟨_, rfl, _, _, _, _, true, rfl, .ty _, .base (.str _), kit_ty (by decide +kernel), true, rfl, iteT ?_⟩
    have hs : (S r).length ≤ sizeLine := by
      rw [S_len]
      show _ ≤ 16777216
      omega
    refine ⟨_, rfl, _, rfl, hs, _, _, rfl, rfl, _, rfl, ?_⟩
    have e1 : decide ((1 : Int) ≤ ((S r).length : Int)) = true := decide_eq_true (by rw [S_len]; omega)
    have e2 : decide (((S r).length : Int) ≤ (8 : Int)) = true := decide_eq_true (by rw [S_len]; omega)
    rw [e1]
    refine iteT ⟨_, _, rfl, rfl, ?_⟩
    show Q (V.bl (decide (((S r).length : Int) ≤ (8 : Int)))) H
    rw [e2]
    exact k
/-- the marbles of l are in the set at p -/
def Seen (P : Program) (w : World) (H : Hp) (p : Addr) (l : List Nat) (k : Nat) : Prop := ∃ (Z : Key → Bool) (n : Nat), H p = some (SetK P w p Z n) ∧ n ≤ k ∧ ∀ c : Nat, Z (.inr (S [c])) = decide (c ∈ mb l)
theorem one_inj {c d : Nat} : (Sum.inr (S [c]) : Key) = .inr (S [d]) ↔ c = d := ⟨fun h => by
  have := S_inj (Sum.inr.inj h)
  simpa using this, fun h => by rw [h]⟩
theorem scFc : FnScope ["rows", "seen", "number", "row", "column", "cell"] ["rows"] (defScope sFirstWrongCell) := ⟨rfl, rfl, rfl, by decide +kernel, rfl, by decide +kernel, by decide +kernel⟩
def spFc (K : PySem.W.Frag) : Sp := fun vs H Q _ => ∃ (a : Addr) (n m : Nat) (g : Grid), vs = [.ref a] ∧ SqT K H a (rowV g) ∧ VG n m g ∧ ∀ H', Same H H' → Q .non H'
theorem ok_fc {f : Addr} {fd : FuncData} (F : Fun K "_first_wrong_cell" "_first_wrong_cell" sFirstWrongCell f fd) (T : TxtW K mg) (U : TxtT K mg t0) (FR : Fun K "_is_row" "_is_row" sIsRow fR fdR) (bR : Binds K fdR ["row"] []) (mR : mg "_is_row" = some (.ref fR)) :
    FnOk P w K mg base CX0 2 f fd ["rows"] (spFc K) := by
  have GR : FnOk P w K mg base CX0 1 fR fdR ["row"] spIr := ok_ir FR T U
  refine F.ok scFc (fun vs H Q E h => ?_) (fun cdv A outer s H vs Q E hr h => ?_)
  · obtain ⟨a, n, m, g, rfl, _⟩ := h
    rfl
  · obtain ⟨a, n, m, g, rfl, hS, G, k⟩ := h
    refine ⟨_, pss_cons (ps_if (pt_not (pt_truth (pv 0) (by intro _; rfl))) pss_never pss_nil)
      (pss_cons (ps_set (i := 1) scFc.nd rfl (.inl rfl) (pe_callTy0 cr_set0K (by rfl) U.set (by decide +kernel)))
      (pss_cons (ps_for PassesOwn.never rfl (TH.pi_enumT (by rfl) T.enum (pa_cons (pv 0) pa_nil)) (pg_tup rfl (pgs_cons (pg_name (i := 2) scFc.nd rfl (.inl rfl)) (pgs_cons (pg_name (i := 3) scFc.nd rfl (.inl rfl)) pgs_nil)))
        (pss_cons (ps_if (PW.pt (pw_or (pt_cmpR op_ge (pv 2) (C8.pe_gc rfl U.MS) (nomark _)) (pw_or (pt_not (pt_val (pe_call GR hr rfl mR FR.kp bR .nil pass0 (pa_cons (pv 3) pa_nil))))
            (pw_or1 (pt_cmpR op_ne (pe_callB call_len_str (by rfl) T.len PySem.boot_len (pa_cons (pv 3) pa_nil)) (pe_callB call_len_str (by rfl) T.len PySem.boot_len (pa_cons (pe_ix ix_tup (pv 0) pe_int (fun _ _ => rfl)) pa_nil)) (nomark _)))))) pss_never pss_nil)
        (pss_one (ps_for PassesOwn.never rfl (TH.pi_enumS (by rfl) T.enum (pa_cons (pv 3) pa_nil)) (pg_tup rfl (pgs_cons (pg_name (i := 4) scFc.nd rfl (.inl rfl)) (pgs_cons (pg_name (i := 5) scFc.nd rfl (.inl rfl)) pgs_nil)))
          (pss_cons (ps_if (PW.pt (pw_or (pt_cmpR or_sinK (pv 5) (pv 1) (by rfl)) (pw_or1 (pt_cmpR op_notIn_sign (pv 5) (pe_op op_add_str (C8.pe_gc rfl U.em) (C8.pe_gc rfl U.LE)) (by rfl))))) pss_never pss_nil)
          (pss_one (ps_if (pt_cmpR op_ne (pv 5) (C8.pe_gc rfl U.em) (nomark _)) (pss_one (ps_expr (pe_saddK (pv 1) (pa_cons (pv 5) pa_nil)))) pss_nil)))))))
      (pss_one (ps_ret pe_non)))), ?_⟩
    have hg0 : (rowV g).isEmpty = false := by
      have := G.rc.1
      have := G.n1
      cases g with
      | nil => simp at *; omega
      | cons _ _ => rfl
    refine ⟨_, rfl, true, .inr (.inl ⟨_, hS, by rw [hg0]; rfl⟩), iteF ?_⟩
    refine ⟨rfl, fun p hp => ?_⟩
    refine ⟨_, rfl, a, rowV g, rfl, (same_new hp).tup hS, for_it TH.walk_enumT (fun i σ H1 => ∃ v2 v3 v4 v5, σ = [some (.ref a), some (.ref p), v2, v3, v4, v5] ∧ Same H H1 ∧ Seen P w H1 p (g.take i).flatten (i * 8))
      ⟨none, none, none, none, rfl, same_new hp, _, 0, upd_same, Nat.zero_le _, fun c => by simp [mb]⟩ (fun i σ H1 _ ⟨_, _, _, _, _, sm, _⟩ => sm.tup hS) ?_ ?_⟩
    · rintro i x σ H1 H2 hi ⟨v2, v3, v4, v5, rfl, sm, se⟩ ⟨q, y, rfl, hq, rfl, hy⟩
      obtain ⟨r, hr', rfl⟩ : ∃ r, g[i]? = some r ∧ y = V.str (S r) := by
        rw [List.getElem?_map] at hy
        cases e : g[i]? with
        | none => rw [e] at hy; cases hy
        | some r => rw [e] at hy; exact ⟨r, rfl, (Option.some.inj hy).symm⟩
      have hin : i < n := by
        have := (List.getElem?_eq_some_iff.mp hr').1
        rw [G.rc.1] at this
        exact this
      have hrm : r ∈ g := List.mem_of_getElem? hr'
      have hrl : r.length = m := G.rc.2 r hrm
      have n8 := G.n8
      have m1 := G.m1
      have m8 := G.m8
      refine ⟨_, _, rfl, SqT.of upd_same, rfl, _, _, rfl, _, _, rfl, rfl, ?_⟩
      have e1 : decide ((i : Int) ≥ (8 : Int)) = false := decide_eq_false (by omega)
      refine ⟨_, rfl, _, _, rfl, rfl, _, rfl, ?_⟩
      rw [e1]
      refine iteF ⟨_, rfl, r, rfl, by omega, by omega, true, rfl, iteF ?_⟩
      have sm2 : Same H (upd H1 q (.tup [.int (i : Nat), .str (S r)])) := sm.trans (same_new hq)
      have hs : (S r).length ≤ sizeLine := by
        rw [S_len]
        show _ ≤ 16777216
        omega
      obtain ⟨r0, hr0, hr0l⟩ : ∃ r0, g[0]? = some r0 ∧ r0.length = m := by
        have h0 : 0 < g.length := by rw [G.rc.1]; exact G.n1
        exact ⟨g[0], List.getElem?_eq_getElem h0, G.rc.2 _ (List.getElem_mem h0)⟩
      have hs0 : (S r0).length ≤ sizeLine := by
        rw [S_len]
        show _ ≤ 16777216
        omega
      refine ⟨_, rfl, _, rfl, hs, _, rfl, a, _, _, _, rfl, rfl, sm2.tup hS, atI_nat (j := 0) (v := V.str (S r0)) (by rw [List.getElem?_map, hr0]; all_goals rfl), _, rfl, hs0, rfl, _, rfl, ?_⟩
      have e2 : (!decide (V.int ((S r).length : Int) = V.int ((S r0).length : Int))) = false := by
        rw [S_len, S_len, hrl, hr0l]
        simp
      rw [e2]
      refine iteF ?_
      have se2 : Seen P w (upd H1 q (.tup [.int (i : Nat), .str (S r)])) p (g.take i).flatten (i * 8) := by
        obtain ⟨Z, n', h1, h2, h3⟩ := se
        exact ⟨Z, n', by rw [upd_ne (ne_of_none h1 hq)]; exact h1, h2, h3⟩
      refine ⟨_, rfl, S r, rfl, for_it TH.walk_enumS (fun j σ H2 => ∃ v4 v5, σ = [some (.ref a), some (.ref p), some (.int (i : Nat)), some (.str (S r)), v4, v5] ∧ Same H H2 ∧ Seen P w H2 p (ahead g r i j) (i * 8 + j))
        ⟨v4, v5, rfl, sm2, by unfold ahead; rw [List.take_zero, List.append_nil]; exact se2⟩ (fun _ _ _ _ _ => True.intro) ?_ ?_⟩
      · rintro j x σ H2 H3 hj ⟨v4, v5, rfl, sm, Z, k', hZ, hk', hz⟩ ⟨q', c, rfl, hq', rfl, hc⟩
        rw [S_at] at hc
        have hjm : j < m := by
          have := (List.getElem?_eq_some_iff.mp hc).1
          omega
        have hcell : Cell c := G.ok r hrm c (List.mem_of_getElem? hc)
        obtain ⟨b, hb⟩ := ahead_all hr' hc
        have hnew : c ∉ mb (ahead g r i j) := fresh (by rw [← hb]; exact G.nd)
        have hZ2 : upd H2 q' (.tup [.int (j : Nat), .str ⟨#[c]⟩]) p = some (SetK P w p Z k') := by rw [upd_ne (ne_of_none hZ hq')]; exact hZ
        refine ⟨_, _, rfl, SqT.of upd_same, rfl, _, _, rfl, _, _, rfl, rfl, ?_⟩
        have e3 : Z (.inr (S [c])) = false := by rw [hz c]; exact decide_eq_false hnew
        refine ⟨_, rfl, _, rfl, .inr (S [c]), p, Z, k', rfl, rfl, hZ2, _, rfl, ?_⟩
        rw [show (if false = true then !Z (.inr (S [c])) else Z (.inr (S [c]))) = false from e3]
        refine iteF ⟨_, rfl, _, _, rfl, rfl, by show 27 ≤ sizeLine; decide, c, _, rfl, rfl, _, rfl, ?_⟩
        have e4 : decide (c ∈ ((S [46] ++ S letters) : Str).cps.toList) = true := by
          rw [SX.S_cat]
          exact decide_eq_true (by rw [S_list]; exact cell_in hcell)
        rw [e4]
        refine iteF ⟨_, rfl, rfl, _, rfl, ?_⟩
        by_cases h46 : c = 46
        · subst h46
          refine iteF ⟨_, _, rfl, sm.trans (same_new hq'), Z, k', hZ2, by omega, fun d => ?_⟩
          rw [ahead_step hc, mb_dot]
          exact hz d
        · rw [show (!decide (sg c = V.str (S [46]))) = true by simp [h46]]
          refine iteT ⟨_, rfl, ⟨p, Z, k', rfl, hZ2⟩, _, rfl, p, .inr (S [c]), Z, k', rfl, rfl, hZ2, ?_, ?_⟩
          · show _ < 4096
            omega
          · refine ⟨_, _, rfl, same_put (sm.trans (same_new hq')) hp, _, _, upd_same, ?_, fun d => ?_⟩
            · rw [if_neg (by rw [e3]; exact Bool.false_ne_true)]
              omega
            · rw [ahead_step hc, mb_step h46, hz d]
              by_cases hd : d = c
              · subst hd; simp
              · rw [show decide ((Sum.inr (S [d]) : Key) = .inr (S [c])) = false from decide_eq_false fun z => hd (one_inj.mp z), Bool.or_false]
                simp [hd]
      · rintro σ H2 ⟨v4, v5, rfl, sm, se⟩
        refine ⟨_, _, _, _, rfl, sm, ?_⟩
        rw [ahead_row hr']
        rw [S_size] at se
        obtain ⟨Z, k', h1, h2, h3⟩ := se
        exact ⟨Z, k', h1, by omega, h3⟩
    · rintro σ H1 ⟨v2, v3, v4, v5, rfl, sm, se⟩
      exact k _ sm
end
end TK
end
section
set_option Elab.async false
set_option maxRecDepth 100000
set_option linter.all false
namespace TK
open PySem L2 TM
structure ClsT (K : PySem.W.Frag) (mg : Str → Option Value) (D : Addr) : Prop where
  cl : Cls K D
  nR : NoAttr K D "_rows"
  mgC : mg "Tray" = some (.ref D)
def TrayAt (K : PySem.W.Frag) (D : Addr) (H : Hp) (p : Addr) (g : Grid) : Prop := ∃ dx a, H p = some (.ins D dx [("_rows", .ref a)]) ∧ SqT K H a (rowV g)
theorem TrayAt.same {K : PySem.W.Frag} {D p : Addr} {H H' : Hp} {g : Grid} (h : TrayAt K D H p g) (s : Same H H') : TrayAt K D H' p g := by
  obtain ⟨dx, a, h, t⟩ := h
  exact ⟨dx, a, s _ _ h, s.tup t⟩
theorem VG.len {n m : Nat} {g : Grid} (G : VG n m g) : g.length ≤ 8 := by rw [G.rc.1]; exact G.n8
theorem VG.row {n m : Nat} {g : Grid} (G : VG n m g) {r : List Nat} (h : r ∈ g) : r.length ≤ 8 := by rw [G.rc.2 r h]; exact G.m8
theorem VG.ne {n m : Nat} {g : Grid} (G : VG n m g) : g ≠ [] := fun e => by
  have := G.n1
  have := G.rc.1
  subst e
  simp at *
  omega
theorem joinL_len (sep : List Nat) (k : Nat) : ∀ g : Grid, (∀ r ∈ g, r.length ≤ k) → (TL.joinL sep g).length ≤ g.length * (k + sep.length)
  | [], _ => Nat.zero_le _
  | [p], h => by
    have := h p List.mem_cons_self
    show p.length ≤ 1 * _
    omega
  | p :: q :: r, h => by
    have h1 := joinL_len sep k (q :: r) fun z hz => h z (List.mem_cons_of_mem _ hz)
    have h2 := h p List.mem_cons_self
    simp only [TL.joinL, List.length_append, List.length_cons, Nat.add_mul, Nat.mul_add] at *
    omega
theorem lf_not {n m : Nat} {g : Grid} (G : VG n m g) : ∀ r ∈ g, 10 ∉ r := fun r hr h10 => by
  have := G.ok r hr 10 h10
  unfold Cell at this
  omega
theorem split_back {n m : Nat} {g : Grid} (G : VG n m g) : Txt.split (S (TL.joinL [10] g)) (S [10]) = g.map S := by
  rw [SX.split_S (by simp) (by rfl), SX.spl_join G.ne (lf_not G)]
section
variable {P : Program} {w : World} {K : PySem.W.Frag} {mg : Str → Option Value} {base : Heap} {D fF : Addr} {fdF : FuncData}
theorem scTi : FnScope ["self", "rows", "wrong", "row", "column"] ((["self"] : List Str) ++ (["rows"] : List Str)) (defScope sTrayInit) := ⟨rfl, rfl, rfl, by decide +kernel, rfl, by decide +kernel, by decide +kernel⟩
def spTi (K : PySem.W.Frag) (D : Addr) : Sp := fun vs H Q _ => ∃ (p dx a : Addr) (n m : Nat) (g : Grid), vs = [.ref p, .ref a] ∧ H p = some (.ins D dx []) ∧ SqT K H a (rowV g) ∧ VG n m g ∧ ∀ H', TrayAt K D H' p g → (∀ b o, H b = some o → b ≠ p → H' b = some o) → Q .non H'
theorem seq_but {K : PySem.W.Frag} {H H' : Hp} {p a : Addr} {o : HO} {xs : List V} (h : SqT K H a xs) (hp : H p = some o) (ho : ∀ u xs, o ≠ .frz u (.tup xs) ∧ o ≠ .tup xs) (kp : ∀ b o, H b = some o → b ≠ p → H' b = some o) : SqT K H' a xs := by
  rcases h with (h | ⟨u, h⟩) | h
  · exact .inl (.inl (kp _ _ h fun e => by subst e; exact (ho ⟨.none, none, .plain, #[]⟩ xs).2 (Option.some.inj (hp.symm.trans h))))
  · exact .inl (.inr ⟨u, kp _ _ h fun e => by subst e; exact (ho u xs).1 (Option.some.inj (hp.symm.trans h))⟩)
  · exact .inr h
theorem ok_ti {f : Addr} {fd : FuncData} (F : Fun K "__init__" "Tray.__init__" sTrayInit f fd) (CT : ClsT K mg D) (GF : FnOk P w K mg base CX0 2 fF fdF ["rows"] (spFc K)) (kF : PySem.W.keepIn K (.ref fF) = true) (bF : Binds K fdF ["rows"] []) (mF : mg "_first_wrong_cell" = some (.ref fF)) :
    FnR P w K mg base CX0 3 f (fun vs H Q E => ∃ ws rest, vs = ws ++ rest ∧ ws.length = 1 ∧ rest.length ≤ sizeLine ∧ ∀ p, H p = Option.none → spTi K D (ws ++ [V.ref p]) (upd H p (.tup rest)) Q E) := by
  obtain ⟨oc, od, kV, doc, pm, an, cdv, ct, osl, rfl, lk, hcd⟩ := F.ex
  refine StX.fn_star (ps := ["self"]) (pv := "rows") lk hcd scTi StX.cxUp_none (StX.bind_star1 (B := fun us => bindArgs (PySem.W.fnOf "__init__" "Tray.__init__" (defArgs sTrayInit) (defBody sTrayInit) (defScope sTrayInit) .none kV doc pm an cdv ct) ⟨us, []⟩) (p1 := "self") (pv := "rows") (fun _ => rfl) fun _ _ _ => rfl) fun A outer s H vs Q E hr h => ?_
  obtain ⟨p, dx, a, n, m, g, rfl, hp, hS, G, k⟩ := h
  refine ⟨_, pss_cons (ps_set (i := 2) scTi.nd rfl (.inl rfl) (pe_call GF hr rfl mF kF bF .nil pass0 (pa_cons (pv 1) pa_nil)))
    (pss_cons (ps_if (pt_cmpR op_notN (pv 2) pe_non (nomark _)) pss_never pss_nil)
    (pss_one (ps_fld (pv 0) (pv 1) rfl))), ?_⟩
  refine ⟨_, rfl, a, n, m, g, rfl, hS, G, fun H1 sm => ?_⟩
  refine ⟨_, rfl, rfl, _, rfl, iteF ?_⟩
  refine ⟨_, rfl, _, rfl, p, D, dx, [], rfl, sm _ _ hp, CT.cl, CT.nR, (by show 0 < 1000; decide), ?_⟩
  refine k _ ⟨dx, a, upd_same, ?_⟩ fun b o e hb => by rw [upd_ne hb]; exact sm _ _ e
  exact seq_but (sm.tup hS) (sm _ _ hp) (fun _ _ => ⟨by simp, by simp⟩) fun b o e hb => by rw [upd_ne hb]; exact e
theorem scOt : FnScope ["cls", "text", "rows"] ["cls", "text"] (defScope sTrayOfText) := ⟨rfl, rfl, rfl, by decide +kernel, rfl, by decide +kernel, by decide +kernel⟩
def spOt (K : PySem.W.Frag) (D : Addr) : Sp := fun vs H Q _ => ∃ (n m : Nat) (g : Grid), vs = [.ref D, .str (S (TL.joinL [10] g))] ∧ VG n m g ∧ ∀ H' p, Same H H' → TrayAt K D H' p g → Q (.ref p) H'
theorem ok_ot {f fI : Addr} {fd : FuncData} (F : Fun K "of_text" "Tray.of_text" sTrayOfText f fd) (T : TxtW K mg) (M : Mk K D fI)
    (GI : FnR P w K mg base CX0 3 fI (fun vs H Q E => ∃ ws rest, vs = ws ++ rest ∧ ws.length = 1 ∧ rest.length ≤ sizeLine ∧ ∀ p, H p = Option.none → spTi K D (ws ++ [V.ref p]) (upd H p (.tup rest)) Q E)) :
    FnOk P w K mg base CX0 5 f fd ["cls", "text"] (spOt K D) := by
  refine F.ok scOt (fun vs H Q E h => ?_) (fun cdv A outer s H vs Q E hr h => ?_)
  · obtain ⟨n, m, g, rfl, _⟩ := h
    rfl
  · obtain ⟨n, m, g, rfl, G, k⟩ := h
    refine ⟨_, pss_cons (ps_if (pt_not (pt_val (pe_callB call_isi (by rfl) T.isi (by decide +kernel) (pa_cons (pv 1) (pa_cons (pe_bltn (v := .ty "str") (by rfl) T.str (by decide +kernel) rfl) pa_nil))))) pss_never pss_nil)
      (pss_cons (ps_set (i := 2) scOt.nd rfl (.inl rfl) (pe_split (pv 1) pe_str))
      (pss_one (ps_ret (TH.pe_makeSv M GI hr (pv 0) pass0 (pv 2))))), ?_⟩
    refine ⟨_, rfl, _, _, _, _, true, rfl, .ty _, .base (.str _), kit_ty (by decide +kernel), true, rfl, iteF ?_⟩
    have hl : (S (TL.joinL [10] g)).length + 2 ≤ sizeLine := by
      have h1 := joinL_len [10] 8 g fun r hr => G.row hr
      have h2 := G.len
      rw [S_len]
      show _ ≤ 16777216
      have : g.length * (8 + [10].length) = g.length * 9 := rfl
      omega
    refine ⟨_, rfl, ⟨_, rfl⟩, _, _, rfl, rfl, rfl, hl, fun l hl => ?_⟩
    have e : (Txt.split (S (TL.joinL [10] g)) (Str.ofString "\n")).map V.str = rowV g := by
      have := split_back G
      rw [show Str.ofString "\n" = S [10] from rfl, this, List.map_map]
      rfl
    rw [e]
    refine ⟨_, rfl, rfl, _, rfl, l, rowV g, rfl, .inr (SqL.of upd_same), fun x dx nx ndx nex => ?_⟩
    refine ⟨[.ref x], rowV g, rfl, rfl, ?_, fun p hp => ?_⟩
    · have := G.len
      rw [List.length_map]
      show _ ≤ 16777216
      omega
    have hpx : x ≠ p := fun z => by rw [← z, upd_same] at hp; cases hp
    refine ⟨x, dx, p, n, m, g, rfl, by rw [upd_ne hpx, upd_same], SqT.of upd_same, G, fun H' ht kp => ⟨rfl, ?_⟩⟩
    refine k _ _ (fun b o e => ?_) ht
    have hbl : b ≠ l := ne_of_none e hl
    have e1 : upd H l (.lst (rowV g)) b = some o := by rw [upd_ne hbl]; exact e
    have hbx : b ≠ x := ne_of_none e1 nx
    have hbd : b ≠ dx := ne_of_none e1 ndx
    have e2 : (upd (upd (upd H l (.lst (rowV g))) dx (.own x)) x (.ins D dx [])) b = some o := by rw [upd_ne hbx, upd_ne hbd]; exact e1
    exact kp b o (by rw [upd_ne (ne_of_none e2 hp)]; exact e2) hbx
end
end TK
end
section
set_option Elab.async false
set_option maxRecDepth 100000
set_option linter.all false
namespace TH
open PySem PySem.Spec PyProof.Rows L2
section
variable {J J1 : It} {n n1 : Nat} {G G1 : Hp → Prop} {Y Y1 : Nat → Hp → V → Hp → Prop}
/-- the inner walk -/
theorem in_it (w : Walk J1 n1 G1 Y1) {g1 : TG} {tt1 : TT} {te : TE} {vs1 : List Nat} {σ2 : L2.St} {H4 : Hp} {D : Addr} {Qe : Hp → Prop} (Pj : Nat → Hp → Prop) (h0 : Pj 0 H4) (hG : ∀ j H, j ≤ n1 → Pj j H → G1 H)
    (hs : ∀ j x H H', j < n1 → Pj j H → Y1 j H x H' → g1 x (wipe σ2 vs1) H' fun σ3 H5 => wipe σ3 vs1 = wipe σ2 vs1 ∧ tt1 σ3 H5 fun b H6 =>
      if b = true then te σ3 H6 fun y H7 => ∃ acc, H7 D = some (.lst acc) ∧ acc.length < sizeLine ∧ Pj (j + 1) (upd H7 D (.lst (acc ++ [y]))) else Pj (j + 1) H6) (hd : ∀ H, Pj n1 H → Qe H) :
    ∃ W1 : Nat → Nat → Hp → Prop, (∃ m, W1 0 m H4) ∧ ∀ j k H, W1 j k H →
      (J1.stop j H ∧ Qe H) ∨ (J1.go j H ∧ ∃ Nx1 : Hp → Prop, (∀ H', Nx1 H' → ∃ k', k' < k ∧ W1 (j + 1) k' H') ∧ ∀ x H', J1.yld j H x H' → g1 x (wipe σ2 vs1) H' fun σ3 H5 => wipe σ3 vs1 = wipe σ2 vs1 ∧ tt1 σ3 H5 fun b H6 =>
        if b = true then te σ3 H6 fun y H7 => ∃ acc, H7 D = some (.lst acc) ∧ acc.length < sizeLine ∧ Nx1 (upd H7 D (.lst (acc ++ [y]))) else Nx1 H6) := by
  refine ⟨fun i m H => m = n1 - i ∧ i ≤ n1 ∧ Pj i H, ⟨n1, by simp, Nat.zero_le _, h0⟩, ?_⟩
  rintro i m H ⟨rfl, hi, p⟩
  have q := hG i H hi p
  by_cases hlt : i < n1
  · exact .inr ⟨w.goes i H hlt q, Pj (i + 1), fun H' p' => ⟨n1 - (i + 1), by omega, rfl, hlt, p'⟩, fun x H' y => hs i x H H' hlt p (w.yields i H x H' hlt q y)⟩
  · have e : i = n1 := by omega
    subst e
    exact .inl ⟨w.stops H q, hd H p⟩
/-- the outer walk -/
theorem lc2_it (w : Walk J n G Y) {g g1 : TG} {tt tt1 : TT} {wi1 : TI} {te : TE} {vs vs1 : List Nat} {σ : L2.St} {H1 : Hp} {D : Addr} {Qd : Hp → Prop} (Pv : Nat → Hp → Prop) (h0 : Pv 0 (upd H1 D (.lst []))) (hG : ∀ i H, i ≤ n → Pv i H → G H)
    (hs : ∀ i x H H', i < n → Pv i H → Y i H x H' → g x (wipe σ vs) H' fun σ2 H2 => wipe σ2 vs = wipe σ vs ∧ tt σ2 H2 fun b H3 =>
      if b = true then wi1 σ2 H3 fun J1 H4 => ∃ W1 : Nat → Nat → Hp → Prop, (∃ m, W1 0 m H4) ∧ ∀ j k H, W1 j k H →
        (J1.stop j H ∧ Pv (i + 1) H) ∨ (J1.go j H ∧ ∃ Nx1 : Hp → Prop, (∀ H', Nx1 H' → ∃ k', k' < k ∧ W1 (j + 1) k' H') ∧ ∀ x H', J1.yld j H x H' → g1 x (wipe σ2 vs1) H' fun σ3 H5 => wipe σ3 vs1 = wipe σ2 vs1 ∧ tt1 σ3 H5 fun b H6 =>
          if b = true then te σ3 H6 fun y H7 => ∃ acc, H7 D = some (.lst acc) ∧ acc.length < sizeLine ∧ Nx1 (upd H7 D (.lst (acc ++ [y]))) else Nx1 H6)
      else Pv (i + 1) H3) (hd : ∀ H, Pv n H → Qd H) :
    ∃ W : Nat → Nat → Hp → Prop, (∃ m, W 0 m (upd H1 D (.lst []))) ∧ ∀ i m H, W i m H →
      (J.stop i H ∧ Qd H) ∨ (J.go i H ∧ ∃ Nx : Hp → Prop, (∀ H', Nx H' → ∃ m', m' < m ∧ W (i + 1) m' H') ∧ ∀ x H', J.yld i H x H' → g x (wipe σ vs) H' fun σ2 H2 => wipe σ2 vs = wipe σ vs ∧ tt σ2 H2 fun b H3 =>
        if b = true then wi1 σ2 H3 fun J1 H4 => ∃ W1 : Nat → Nat → Hp → Prop, (∃ m, W1 0 m H4) ∧ ∀ j k H, W1 j k H →
          (J1.stop j H ∧ Nx H) ∨ (J1.go j H ∧ ∃ Nx1 : Hp → Prop, (∀ H', Nx1 H' → ∃ k', k' < k ∧ W1 (j + 1) k' H') ∧ ∀ x H', J1.yld j H x H' → g1 x (wipe σ2 vs1) H' fun σ3 H5 => wipe σ3 vs1 = wipe σ2 vs1 ∧ tt1 σ3 H5 fun b H6 =>
            if b = true then te σ3 H6 fun y H7 => ∃ acc, H7 D = some (.lst acc) ∧ acc.length < sizeLine ∧ Nx1 (upd H7 D (.lst (acc ++ [y]))) else Nx1 H6)
        else Nx H3) := by
  refine ⟨fun i m H => m = n - i ∧ i ≤ n ∧ Pv i H, ⟨n, by simp, Nat.zero_le _, h0⟩, ?_⟩
  rintro i m H ⟨rfl, hi, p⟩
  have q := hG i H hi p
  by_cases hlt : i < n
  · exact .inr ⟨w.goes i H hlt q, Pv (i + 1), fun H' p' => ⟨n - (i + 1), by omega, rfl, hlt, p'⟩, fun x H' y => hs i x H H' hlt p (w.yields i H x H' hlt q y)⟩
  · have e : i = n := by omega
    subst e
    exact .inl ⟨w.stops H q, hd H p⟩
end
end TH
end
section
set_option Elab.async false
set_option maxRecDepth 100000
set_option linter.all false
namespace TK
open PySem L2 TM
open PySem.Spec PyProof.Rows TH
section
variable {X : Cx} {n : Nat} {t0 : Tok}
theorem mt_ljustF : MtR X "str.ljust" (fun x xs H Q => ∃ (a : Str) (i : Int) (c : Nat), x = .str a ∧ xs = [.int i, .str ⟨#[c]⟩] ∧ PadOk i = true ∧ Q (.str (Txt.ljustF a i c)) H) := by
  intro pins s σ H x xs v us Q I rx rs h
  obtain ⟨a, i, c, rfl, rfl, hp, q⟩ := h
  obtain ⟨t, rfl⟩ := rx
  obtain ⟨u1, u2, rfl, r1, r2⟩ := vals2 rs
  obtain ⟨t1, rfl⟩ := (show ∃ t, u1 = Value.int i t from r1)
  obtain ⟨t2, rfl⟩ := (show ∃ t, u2 = Value.str ⟨#[c]⟩ t from r2)
  exact ljust_fill hp rfl fun t' k => ⟨.str (Txt.ljustF a i c), H, I.tok k, ⟨t', rfl⟩, q⟩
theorem mt_rjustF : MtR X "str.rjust" (fun x xs H Q => ∃ (a : Str) (i : Int) (c : Nat), x = .str a ∧ xs = [.int i, .str ⟨#[c]⟩] ∧ PadOk i = true ∧ Q (.str (Txt.rjustF a i c)) H) := by
  intro pins s σ H x xs v us Q I rx rs h
  obtain ⟨a, i, c, rfl, rfl, hp, q⟩ := h
  obtain ⟨t, rfl⟩ := rx
  obtain ⟨u1, u2, rfl, r1, r2⟩ := vals2 rs
  obtain ⟨t1, rfl⟩ := (show ∃ t, u1 = Value.int i t from r1)
  obtain ⟨t2, rfl⟩ := (show ∃ t, u2 = Value.str ⟨#[c]⟩ t from r2)
  exact rjust_fill hp rfl fun t' k => ⟨.str (Txt.rjustF a i c), H, I.tok k, ⟨t', rfl⟩, q⟩
/-- o.replace(EMPTY, ''): the signs that are left -/
def tStrike (y : Str) (to : TE) : TE := fun σ H Q => to σ H fun x H1 => ∃ a : Str, x = .str a ∧ a.length + (a.length + 1) * 0 ≤ 16777216 ∧ Q (.str (Txt.replace a y Str.empty)) H1
theorem pen_strike {o : Expr} {to : TE} {x : Str} {y : Str} {k : Nat} {p c apos pos : Pos} (ho : PE X o to) (hg : Gl X x) (hm : X.mg x = some (.str y t0)) (h0 : t0 ≠ 0) (ht : t0 < n) (hy : (y == Str.empty) = false) (hd : (x == ("__debug__" : Str)) = false := by decide)
    (hst : starEach [.Name x p, .Constant (.str Str.empty) k c] X.env = [(false, eval (.Name x p) X.env), (false, eval (.Constant (.str Str.empty) k c) X.env)] := by rfl)
    (hbase : attributeBase o "replace" X.env (eval o X.env) = eval o X.env := by rfl) (hline : (apos.endLine == pos.line) = true := by rfl) :
    PEn n X (.Call (.Attribute o "replace" apos) [.Name x p, .Constant (.str Str.empty) k c] [] pos) (tStrike y to) := by
  intro pins s σ H Q hn I h
  refine PySem.Call_method2 hbase hst hline (thnN hn (ho.run pins s σ H _ I h) fun v s1 hn1 ⟨x1, H1, I1, r1, a, e, hb, q⟩ => ?_)
  subst e
  obtain ⟨ta, rfl⟩ := r1
  refine ⟨"str", _, PySem.F.plainAttrs_str, PySem.F.slot_str_replace, PySem.F.type_str_replace, typeIs_str _ _ _, (fun _ e => nomatch e), Calls.callWith_builtin rfl (Calls.evalArgs_plain (Calls.spliced_cons ?_))⟩
  refine ld_glob I1 hg hm ?_ hd
  refine Calls.spliced_cons (Calls.Constant_str (Calls.spliced_nil ?_))
  have hs : s1.toks ≠ 0 := fun e => by
    rw [e] at hn1
    exact Nat.not_lt_zero _ (Nat.lt_of_lt_of_le ht hn1)
  exact PySem.SC.replace h0 hs (fun e => by rw [e] at ht; exact Nat.lt_irrefl _ (Nat.lt_of_lt_of_le ht hn1)) hy hb fun t' j => ⟨.str (Txt.replace a y Str.empty), H1, I1.tok j, ⟨t', rfl⟩, q⟩
end
theorem strike_mb (l : List Nat) : Txt.replace (S l) (S [46]) Str.empty = S (mb l) := by
  have e := PyProof.Rows.replace_strikes (S l) 46
  rw [S_of (Txt.replace (S l) (S [46]) Str.empty)]
  refine congrArg S ?_
  rw [show (S [46] : Str) = ⟨#[46]⟩ from rfl, show (Str.empty : Str) = ⟨#[]⟩ from rfl, e, S_list]
  rfl
theorem ljust_sl (l : List Nat) : Txt.ljustF (S (mb l)) (l.length : Int) 46 = S (sl true l) := by
  have hle := mb_le l
  unfold Txt.ljustF sl dots
  rw [S_len]
  split
  · rename_i h
    have e : l.length - (mb l).length = 0 := by omega
    rw [if_pos rfl, e]
    simp
  · rw [if_pos rfl]
    unfold Builtin.Str.padded
    simp
theorem rjust_sl (l : List Nat) : Txt.rjustF (S (mb l)) (l.length : Int) 46 = S (sl false l) := by
  have hle := mb_le l
  unfold Txt.rjustF sl dots
  rw [S_len]
  split
  · rename_i h
    have e : l.length - (mb l).length = 0 := by omega
    rw [if_neg Bool.false_ne_true, e]
    simp
  · rw [if_neg Bool.false_ne_true]
    unfold Builtin.Str.padded
    simp
section
variable {P : Program} {w : World} {K : PySem.W.Frag} {mg : Str → Option Value} {base : Heap} {t0 : Tok} {n : Nat}
theorem scSl : FnScope ["line", "to_beginning", "marbles"] ["line", "to_beginning"] (defScope sSlid) := ⟨rfl, rfl, rfl, by decide +kernel, rfl, by decide +kernel, by decide +kernel⟩
def spSl : Sp := fun vs H Q _ => ∃ (l : List Nat) (b : Bool), vs = [.str (S l), .bl b] ∧ l.length ≤ 8 ∧ Q (.str (S (sl b l))) H
theorem ok_sl {f : Addr} {fd : FuncData} (F : Fun K "_slid" "_slid" sSlid f fd) (T : TxtW K mg) (U : TxtT K mg t0) (b : Binds K fd ["line", "to_beginning"] []) (h0 : t0 ≠ 0) (ht : t0 < n) : FnRn n P w K mg base CX0 1 f spSl := by
  refine fn_n F b scSl (fun vs H Q E h => ?_) fun cdv A outer s H vs Q E hr h => ?_
  · obtain ⟨l, b, rfl, _⟩ := h
    rfl
  · obtain ⟨l, b, rfl, h8, k⟩ := h
    have hlen : (S l).length ≤ sizeLine := by
      rw [S_len]
      show _ ≤ 16777216
      omega
    have hpad : PadOk (((S l).length : Nat) : Int) = true := by
      rw [S_len]
      exact padOk_of (by omega) (by omega)
    refine ⟨_, pssn_cons (psn_set (i := 2) scSl.nd rfl (.inl rfl) (pen_strike (pv 0) rfl U.EM h0 ht (by decide +kernel)))
      (pssn_cons (PS.up (ps_if (pt_val (pv 1)) (pss_one (ps_ret (pe_bm PySem.F.plainAttrs_str PySem.F.slot_str_ljust PySem.F.type_str_ljust mt_ljustF (pv 2) (pa_cons (pe_callB call_len_str (by rfl) T.len PySem.boot_len (pa_cons (pv 0) pa_nil)) (pa_cons (C8.pe_gc rfl U.em) pa_nil))))) pss_nil))
      (pssn_one (PS.up (ps_ret (pe_bm PySem.F.plainAttrs_str PySem.F.slot_str_rjust PySem.F.type_str_rjust mt_rjustF (pv 2) (pa_cons (pe_callB call_len_str (by rfl) T.len PySem.boot_len (pa_cons (pv 0) pa_nil)) (pa_cons (C8.pe_gc rfl U.em) pa_nil))))))), ?_⟩
    refine ⟨_, rfl, S l, rfl, ?_, ?_⟩
    · rw [S_len]
      omega
    rw [strike_mb]
    refine ⟨_, rfl, b, rfl, ?_⟩
    cases b with
    | true =>
      refine iteT ⟨_, rfl, rfl, _, rfl, _, rfl, hlen, _, _, 46, rfl, rfl, hpad, ?_⟩
      rw [S_len, ljust_sl]
      exact k
    | false =>
      refine iteF ⟨_, rfl, rfl, _, rfl, _, rfl, hlen, _, _, 46, rfl, rfl, hpad, ?_⟩
      rw [S_len, rjust_sl]
      exact k
end
end TK
end
section
set_option Elab.async false
set_option maxRecDepth 100000
set_option linter.all false
namespace TK
open PySem L2 TM
open PySem.Spec PyProof.Rows TH
theorem at_map {α β : Type} {l : List α} {f : α → β} {i : Nat} {y : β} (h : (l.map f)[i]? = some y) : ∃ r, l[i]? = some r ∧ y = f r := by
  rw [List.getElem?_map] at h
  cases e : l[i]? with
  | none => rw [e] at h; cases h
  | some r => rw [e] at h; exact ⟨r, rfl, (Option.some.inj h).symm⟩
theorem take_map_snoc {α β : Type} {l : List α} {f : α → β} {i : Nat} {r : α} (h : l[i]? = some r) : (l.take (i + 1)).map f = (l.take i).map f ++ [f r] := by
  rw [List.take_add_one, h, List.map_append]
  rfl
/-- what zip hands out: a column -/
theorem col_of {g : Grid} {n m i : Nat} {cs : List Nat} (hr : Rect n m g) (hi : i < m) (hl : cs.length = (g.map S).length) (h : ∀ (k : Nat) (y : Str), (g.map S)[k]? = some y → ∃ c, y.cps[i]? = some c ∧ cs[k]? = some c) : (tr m g)[i]? = some cs := by
  rw [tr_get hi]
  refine congrArg some (List.ext_getElem? fun k => ?_)
  rw [List.getElem?_map]
  cases e : g[k]? with
  | none =>
    have : g.length ≤ k := List.getElem?_eq_none_iff.mp e
    rw [List.length_map] at hl
    rw [List.getElem?_eq_none_iff.mpr (by omega)]
    rfl
  | some r =>
    obtain ⟨c, h1, h2⟩ := h k (S r) (by rw [List.getElem?_map, e]; all_goals rfl)
    rw [S_at] at h1
    rw [h2]
    show some (r.getD i 46) = some c
    rw [List.getD_eq_getElem?_getD, h1]
    rfl
theorem dL (c d : Nat) : decide (sg c = V.str (S [d])) = (c == d) := by
  by_cases h : c = d
  · subst h; simp
  · simp [h]
/-- o.join(e), its reading by K -/
def rJn (K : PySem.W.Frag) : V → List V → Hp → VK → Prop := fun x xs H Q => ∃ a p, ∃ ys : List Str, x = .str a ∧ xs = [.ref p] ∧ (SqL K H p (ys.map V.str) ∨ SqT K H p (ys.map V.str)) ∧ (ys.map (·.length)).sum + ys.length * a.length ≤ 16777216 ∧ Q (.str (Txt.join a ys)) H
theorem pe_joinK {X : Cx} {K : PySem.W.Frag} {o e : Expr} {to te : TE} {apos pos : Pos} (hK : X.K = K) (ho : PE X o to) (he : PE X e te) (hs : starEach [e] X.env = [(false, eval e X.env)] := by rfl) (hbase : attributeBase o "join" X.env (eval o X.env) = eval o X.env := by rfl) (hline : (apos.endLine == pos.line) = true := by rfl) :
    PE X (.Call (.Attribute o "join" apos) [e] [] pos) (tM1 (rJn K) to te) := by
  subst hK
  exact pe_join ho he hs hbase hline
section
variable {P : Program} {w : World} {K : PySem.W.Frag} {mg : Str → Option Value} {base : Heap} {t0 : Tok} {n : Nat} {fS : Addr}
abbrev NTd : List Str := ["rows", "tilt", "columns", "row", "column"]
theorem scTd : FnScope NTd ["rows", "tilt"] (defScope sTilted) := ⟨rfl, rfl, rfl, by decide +kernel, rfl, by decide +kernel, by decide +kernel⟩
def spTd (K : PySem.W.Frag) : Sp := fun vs H Q _ => ∃ (a c h w : Nat) (g : Grid), vs = [.ref a, sg c] ∧ SqT K H a (rowV g) ∧ Rect h w g ∧ 1 ≤ h ∧ h ≤ 8 ∧ 1 ≤ w ∧ w ≤ 8 ∧ ∀ H' b, Same H H' → SqT K H' b (rowV (tilt h w g c)) → Q (.ref b) H'
theorem ok_td {f : Addr} {fd : FuncData} (F : Fun K "_tilted" "_tilted" sTilted f fd) (T : TxtW K mg) (U : TxtT K mg t0) (b : Binds K fd ["rows", "tilt"] []) (GS : FnRn n P w K mg base CX0 1 fS spSl) (kS : PySem.W.keepIn K (.ref fS) = true) (mS : mg "_slid" = some (.ref fS)) : FnRn n P w K mg base CX0 2 f (spTd K) := by
  refine fn_n F b scTd (fun vs H Q E h => ?_) fun cdv A outer s H vs Q E hr h => ?_
  · obtain ⟨a, c, h, w, g, rfl, _⟩ := h
    rfl
  · obtain ⟨a, c, h, w, g, rfl, hS, hr', h1, h8, w1, w8, k⟩ := h
    refine ⟨_, pssn_cons (psn_if (PT.up (pt_cmpR op_in_sign (pv 1) (C8.pe_gc rfl T.AR) (by rfl)))
        (pssn_one (psn_ret (pen_callTy call_tuple_of (by rfl) U.tup (by decide +kernel) (pan_cons (pen_lc (own := [("row", 3)]) (g := gName 3) rfl scTd.nd (pi_tup (pv 0)) (blkOk_by (N := NTd) (sc := defScope sTilted) (by decide +kernel)) (fun _ _ _ _ _ => pg_name (i := 3) scTd.nd rfl (.inl rfl))
          (fun _ _ _ _ _ => pen_call GS hr rfl mS kS pass0 (pan_cons (PE.up (pv 3)) (pan_cons (PE.up (pe_cmpR op_eq (pv 1) pe_str (nomark _))) pan_nil)))) pan_nil)))) (PSs.up pss_nil))
      (pssn_cons (psn_setLc (i := 2) (own := [("column", 4)]) (g := gName 4) rfl scTd.nd rfl rfl (sw_true rfl rfl rfl (by decide +kernel)) (pi_zips (by rfl) U.zip (pv 0)) (blkOk_by (N := NTd) (sc := defScope sTilted) (by decide +kernel)) (fun _ _ _ _ _ => pg_name (i := 4) scTd.nd rfl (.inl rfl))
          (fun _ _ _ _ _ => pen_call GS hr rfl mS kS pass0 (pan_cons (PE.up (pe_joinK (K := K) rfl pe_str (pv 4))) (pan_cons (PE.up (pe_cmpR op_eq (pv 1) pe_str (nomark _))) pan_nil))))
      (pssn_one (PS.up (ps_ret (pe_callTy call_tuple_of (by rfl) U.tup (by decide +kernel) (pa_cons (pe_lc (own := [("row", 3)]) (g := gName 3) (tt := tYes) rfl scTd.nd (pi_zips (by rfl) U.zip (pv 2)) (blkOk_by (N := NTd) (sc := defScope sTilted) (by decide +kernel)) (fun _ _ _ _ _ => pg_name (i := 3) scTd.nd rfl (.inl rfl)) (fun _ _ _ _ _ => pts_nil)
          (fun _ _ _ _ _ => pe_joinK (K := K) rfl pe_str (pv 3))) pa_nil)))))), ?_⟩
    have hrl : ∀ r ∈ g, r.length ≤ 8 := fun r hr => by rw [hr'.2 r hr]; exact w8
    refine ⟨_, rfl, c, S [108, 114], rfl, rfl, _, rfl, ?_⟩
    rw [dAR]
    by_cases hc : isH c = true
    · rw [hc]
      have et : tilt h w g c = TM.LT (c == 108) g := if_pos hc
      refine iteT ⟨_, rfl, a, rfl, ⟨_, hS⟩, fun D hD => lc_tup (K := K) (a := a) (xs := rowV g) (fun i H1 => Same H H1 ∧ H1 D = some (.lst ((g.take i).map fun r => V.str (S (sl (c == 108) r)))))
        ⟨same_new hD, upd_same⟩ (fun i H1 _ ⟨sm, _⟩ => sm.tup hS) ?_ ?_⟩
      · rintro i x H1 hi ⟨sm, hL⟩
        obtain ⟨r, hri, rfl⟩ := at_map hi
        have hrm := List.mem_of_getElem? hri
        refine ⟨rfl, ?_⟩
        refine ⟨_, rfl, _, rfl, rfl, r, c == 108, ?_, hrl r hrm, _, hL, ?_, ?_⟩
        · show [V.str (S r), V.bl (decide (sg c = V.str (S [108])))] = _
          rw [dL]
        · rw [List.length_map, List.length_take]
          show _ < 16777216
          have := hr'.1
          omega
        · refine ⟨same_put sm hD, ?_⟩
          rw [upd_same, take_map_snoc hri]
      · rintro H1 ⟨sm, hL⟩
        rw [List.length_map, List.take_length] at hL
        refine ⟨D, _, rfl, .inl ⟨SqL.of hL, fun l hl => ?_⟩⟩
        refine k _ l (sm.trans (same_new hl)) ?_
        rw [et]
        unfold TM.LT rowV
        rw [List.map_map]
        exact SqT.of upd_same
    · rw [Bool.not_eq_true] at hc
      rw [hc]
      have et : tilt h w g c = UT (c == 117) h w g := if_neg (by rw [hc]; exact Bool.false_ne_true)
      refine iteF ?_
      have hm : ∀ x ∈ g.map S, x.cps.size = w := fun x hx => by
        obtain ⟨r, hr, rfl⟩ := List.mem_map.mp hx
        rw [S_size]
        exact hr'.2 r hr
      have hS' : SqT K H a ((g.map S).map V.str) := by
        rw [List.map_map]
        exact hS
      refine ⟨_, rfl, a, g.map S, w, rfl, .inl hS', ?_, ?_, hm, fun D hD => lc_it walk_zips (fun i H1 => Same H H1 ∧ H1 D = some (.lst (((tr w g).take i).map fun r => V.str (S (sl (c == 117) r)))))
        ⟨same_new hD, upd_same⟩ (fun _ _ _ _ => True.intro) ?_ ?_⟩
      · rw [List.length_map, hr'.1]; omega
      · rw [List.length_map, hr'.1]; omega
      · rintro i x H1 H2 hi ⟨sm, hL⟩ ⟨T, cs, rfl, hT, rfl, hl, hcs⟩
        have hcol := col_of hr' hi hl hcs
        have hlc : cs.length = h := by rw [hl, List.length_map, hr'.1]
        have hL2 : upd H1 T (.tup (cs.map fun c => V.str ⟨#[c]⟩)) D = some (.lst (((tr w g).take i).map fun r => V.str (S (sl (c == 117) r)))) := by
          rw [upd_ne (ne_of_none hL hT)]
          exact hL
        refine ⟨rfl, ?_⟩
        refine ⟨⟨_, rfl⟩, _, rfl, _, T, cs.map fun c => S [c], rfl, rfl, .inr ?_, ?_, _, rfl, rfl, cs, c == 117, ?_, by omega, _, hL2, ?_, ?_⟩
        · rw [List.map_map]
          exact SqT.of upd_same
        · rw [sum_ones, List.length_map]
          show _ + _ * 0 ≤ _
          omega
        · show [V.str (Txt.join (Str.ofString "") (cs.map fun c => S [c])), V.bl (decide (sg c = V.str (S [117])))] = _
          rw [dL, join_signs]
        · rw [List.length_map, List.length_take]
          show _ < 16777216
          omega
        · refine ⟨same_put (sm.trans (same_new hT)) hD, ?_⟩
          rw [upd_same, take_map_snoc hcol]
      · rintro H1 ⟨sm, hL⟩
        have hrt := tr_rect hr'
        have hlt := lt_rect (s := c == 117) hrt
        rw [show (tr w g).take w = tr w g from List.take_of_length_le (by rw [hrt.1]; exact Nat.le_refl _)] at hL
        have hm2 : ∀ x ∈ (TM.LT (c == 117) (tr w g)).map S, x.cps.size = h := fun x hx => by
          obtain ⟨r, hr, rfl⟩ := List.mem_map.mp hx
          rw [S_size]
          exact hlt.2 r hr
        have hL' : SqL K H1 D (((TM.LT (c == 117) (tr w g)).map S).map V.str) := by
          unfold TM.LT
          rw [List.map_map, List.map_map]
          exact SqL.of hL
        refine ⟨_, rfl, D, (TM.LT (c == 117) (tr w g)).map S, h, rfl, .inr hL', ?_, ?_, hm2, fun D2 hD2 => lc_it walk_zips (fun i H2 => Same H H2 ∧ H2 D2 = some (.lst (((UT (c == 117) h w g).take i).map fun r => V.str (S r))))
          ⟨sm.trans (same_new hD2), upd_same⟩ (fun _ _ _ _ => True.intro) ?_ ?_⟩
        · rw [List.length_map, hlt.1]; omega
        · rw [List.length_map, hlt.1]; omega
        · rintro i x H2 H3 hi ⟨sm2, hL2⟩ ⟨T, cs, rfl, hT, rfl, hl, hcs⟩
          have hcol := col_of hlt hi hl hcs
          have hlc : cs.length = w := by rw [hl, List.length_map, hlt.1]
          have hL3 : upd H2 T (.tup (cs.map fun c => V.str ⟨#[c]⟩)) D2 = some (.lst (((UT (c == 117) h w g).take i).map fun r => V.str (S r))) := by
            rw [upd_ne (ne_of_none hL2 hT)]
            exact hL2
          refine ⟨rfl, ?_⟩
          refine ⟨⟨_, rfl⟩, _, rfl, _, T, cs.map fun c => S [c], rfl, rfl, .inr ?_, ?_, _, hL3, ?_, ?_⟩
          · rw [List.map_map]
            exact SqT.of upd_same
          · rw [sum_ones, List.length_map]
            show _ + _ * 0 ≤ _
            omega
          · rw [List.length_map, List.length_take]
            show _ < 16777216
            omega
          · refine ⟨same_put (sm2.trans (same_new hT)) (sm.free hD2), ?_⟩
            rw [upd_same, take_map_snoc (l := UT (c == 117) h w g) hcol, join_signs]
        · rintro H2 ⟨sm2, hL2⟩
          rw [show (UT (c == 117) h w g).take h = UT (c == 117) h w g from List.take_of_length_le (by rw [(ut_rect hr').1]; exact Nat.le_refl _)] at hL2
          refine ⟨D2, _, rfl, .inl ⟨SqL.of hL2, fun l hl => ?_⟩⟩
          refine k _ l (sm2.trans (same_new hl)) ?_
          rw [et]
          exact SqT.of upd_same
end
end TK
end
section
set_option Elab.async false
set_option maxRecDepth 100000
set_option linter.all false
namespace TK
open PySem L2 TM
open PySem.Spec PyProof.Rows TH
theorem mb_flat : ∀ g : Grid, mb g.flatten = (g.map mb).flatten
  | [] => rfl
  | r :: g => by rw [List.flatten_cons, mb_app, mb_flat g]; rfl
theorem flat_cons {f : Nat → Nat} {h : Nat → List Nat} : ∀ l : List Nat, ((l.map fun j => f j :: h j).flatten).Perm (l.map f ++ (l.map h).flatten)
  | [] => List.Perm.refl _
  | a :: l => by
    have ih := flat_cons (f := f) (h := h) l
    simp only [List.map_cons, List.flatten_cons, List.cons_append]
    refine List.Perm.cons _ ((List.Perm.append_left _ ih).trans ?_)
    rw [← List.append_assoc, ← List.append_assoc]
    exact List.Perm.append_right _ List.perm_append_comm
theorem flat_none : ∀ l : List Nat, ((l.map fun _ => ([] : List Nat)).flatten) = []
  | [] => rfl
  | _ :: l => by simp [flat_none l]
theorem get_all {m : Nat} {r : List Nat} (h : r.length = m) : (List.range m).map (fun j => r.getD j 46) = r := by
  subst h
  refine List.ext_getElem? fun k => ?_
  rw [List.getElem?_map]
  by_cases hk : k < r.length
  · rw [List.getElem?_range hk, List.getElem?_eq_getElem hk]
    simp [hk]
  · rw [List.getElem?_eq_none_iff.mpr (by simpa using hk), List.getElem?_eq_none_iff.mpr (by omega)]
    rfl
theorem tr_perm {m : Nat} : ∀ {g : Grid}, (∀ r ∈ g, r.length = m) → ((tr m g).flatten).Perm g.flatten
  | [], _ => by
    unfold tr
    rw [show ((List.range m).map fun j => ([] : Grid).map fun r => r.getD j 46) = (List.range m).map fun _ => [] from rfl, flat_none]
    exact List.Perm.refl _
  | r :: g, h => by
    have ih := tr_perm (g := g) fun z hz => h z (List.mem_cons_of_mem _ hz)
    unfold tr at ih ⊢
    refine (flat_cons (f := fun j => r.getD j 46) (h := fun j => g.map fun r => r.getD j 46) (List.range m)).trans ?_
    rw [get_all (h r List.mem_cons_self), List.flatten_cons]
    exact List.Perm.append_left _ ih
theorem lt_mb (s : Bool) (g : Grid) : mb (TM.LT s g).flatten = mb g.flatten := by
  rw [mb_flat, mb_flat]
  unfold TM.LT
  rw [List.map_map]
  congr 1
  exact List.map_congr_left fun r _ => mb_sl s r
/-- as many marbles, the same ones; and signs that are cells -/
structure Like (g g' : Grid) : Prop where
  pm : (mb g'.flatten).Perm (mb g.flatten)
  ok : (∀ c ∈ g.flatten, Cell c) → ∀ c ∈ g'.flatten, Cell c
theorem Like.trans {a b c : Grid} (x : Like a b) (y : Like b c) : Like a c := ⟨y.pm.trans x.pm, fun h => y.ok (x.ok h)⟩
theorem cell_of {l l' : List Nat} (e : mb l' = mb l) (h : ∀ c ∈ l, Cell c) : ∀ c ∈ l', Cell c := fun c hc => by
  by_cases h46 : c = 46
  · exact .inl h46
  · have : c ∈ mb l' := List.mem_filter.mpr ⟨hc, by simp [h46]⟩
    rw [e] at this
    exact h c (List.mem_filter.mp this).1
theorem like_lt (s : Bool) (g : Grid) : Like g (TM.LT s g) := ⟨by rw [lt_mb], cell_of (lt_mb s g)⟩
theorem like_tr {n m : Nat} {g : Grid} (h : Rect n m g) : Like g (tr m g) :=
  have p := tr_perm (m := m) h.2
  ⟨p.filter _, fun k c hc => k c (p.mem_iff.mp hc)⟩
theorem like_tilt {n m c : Nat} {g : Grid} (h : Rect n m g) : Like g (tilt n m g c) := by
  unfold tilt
  split
  · exact like_lt _ g
  · unfold UT
    exact ((like_tr h).trans (like_lt _ _)).trans (like_tr (lt_rect (tr_rect h)))
theorem VG.tilt {n m c : Nat} {g : Grid} (G : VG n m g) : VG n m (TM.tilt n m g c) := by
  have L := like_tilt (c := c) G.rc
  refine ⟨tilt_rect G.rc, G.n1, G.n8, G.m1, G.m8, fun r hr d hd => ?_, L.pm.nodup_iff.mpr G.nd⟩
  exact L.ok (fun d hd => by
    obtain ⟨r, hr, hd⟩ := List.mem_flatten.mp hd
    exact G.ok r hr d hd) d (List.mem_flatten.mpr ⟨r, hr, hd⟩)
theorem VG.tilts {n m : Nat} : ∀ (t : List Nat) {g : Grid}, VG n m g → VG n m (TM.tilts n m t g)
  | [], _, G => G
  | c :: t, g, G => VG.tilts t (G.tilt (c := c))
section
variable {P : Program} {w : World} {K : PySem.W.Frag} {mg : Str → Option Value} {base : Heap} {t0 : Tok} {n : Nat} {C D pT gT fD fI : Addr} {fdG : FuncData}
theorem scRs : FnScope ["self", "other", "rows", "tilt"] ["self", "other"] (defScope sTrayRshift) := ⟨rfl, rfl, rfl, by decide +kernel, rfl, by decide +kernel, by decide +kernel⟩
def spRs (K : PySem.W.Frag) (C D : Addr) : Sp := fun vs H Q _ => ∃ (p q : Addr) (h w : Nat) (g : Grid) (t : List Nat), vs = [.ref p, .ref q] ∧ TrayAt K D H p g ∧ VG h w g ∧ WordAt C H q t ∧ ∀ H' r, Same H H' → TrayAt K D H' r (tilts h w t g) → Q (.ref r) H'
theorem ok_rs {f : Addr} {fd : FuncData} (F : Fun K "__rshift__" "Tray.__rshift__" sTrayRshift f fd) (T : TxtW K mg) (CW : ClsW K mg C) (CT : ClsT K mg D) (IC : C8.InsC K C) (b : Binds K fd ["self", "other"] [])
    (PT : PropOf K C "text" pT gT) (GT : FnOk P w K mg base CX0 1 gT fdG ["self"] (getSp C "_text")) (bT : Binds K fdG ["self"] [])
    (GD : FnRn n P w K mg base CX0 2 fD (spTd K)) (kD : PySem.W.keepIn K (.ref fD) = true) (mD : mg "_tilted" = some (.ref fD)) (M : Mk K D fI)
    (GI : FnR P w K mg base CX0 3 fI (fun vs H Q E => ∃ ws rest, vs = ws ++ rest ∧ ws.length = 1 ∧ rest.length ≤ sizeLine ∧ ∀ p, H p = Option.none → spTi K D (ws ++ [V.ref p]) (upd H p (.tup rest)) Q E)) :
    FnRn n P w K mg base CX0 5 f (spRs K C D) := by
  refine fn_n F b scRs (fun vs H Q E h => ?_) fun cdv A outer s H vs Q E hr h => ?_
  · obtain ⟨p, q, h, w, g, t, rfl, _⟩ := h
    rfl
  · obtain ⟨p, q, h, w, g, t, rfl, ⟨dx, a, hp, hS⟩, G, ⟨dy, hq⟩, k⟩ := h
    refine ⟨_, pssn_cons (PS.up (ps_if (pt_not (pt_val (pe_callB (C8.call_isC IC) (by rfl) T.isi (by decide +kernel) (pa_cons (pv 1) (pa_cons (pe_glob (v := .ref C) rfl CW.mgC rfl) pa_nil))))) pss_never pss_nil))
      (pssn_cons (PS.up (ps_set (i := 2) scRs.nd rfl (.inl rfl) (pe_fld (pv 0) rfl)))
      (pssn_cons (psn_for PassesOwn.never rfl (pi_str (pe_prop (pv 1) CW.cl PT GT (hr.mono (by decide)) bT .nil pass0 rfl)) (pg_name (i := 3) scRs.nd rfl (.inl rfl))
        (pssn_one (psn_set (i := 2) scRs.nd rfl (.inl rfl) (pen_call GD (hr.mono (by decide)) rfl mD kD pass0 (pan_cons (PE.up (pv 2)) (pan_cons (PE.up (pv 3)) pan_nil))))))
      (pssn_one (PS.up (ps_ret (pe_makeS M GI hr rfl CT.mgC pass0 (pv 2))))))), ?_⟩
    refine ⟨_, rfl, q, dy, _, rfl, hq, true, rfl, iteF ?_⟩
    refine ⟨_, rfl, p, D, dx, _, _, rfl, hp, CT.cl, CT.nR, rfl, ?_⟩
    refine ⟨_, rfl, q, dy, _, rfl, hq, q, dy, _, _, rfl, hq, rfl, S t, rfl, for_it (walk_str (z := S t)) (fun i σ H1 => ∃ b v, σ = [some (.ref p), some (.ref q), some (.ref b), v] ∧ Same H H1 ∧ SqT K H1 b (rowV (tilts h w (t.take i) g)))
      ⟨a, none, rfl, Same.refl H, hS⟩ (fun _ _ _ _ _ => True.intro) ?_ ?_⟩
    · rintro i x σ H1 H2 hi ⟨b, v, rfl, sm, hb⟩ ⟨rfl, c, hc, rfl⟩
      rw [S_at] at hc
      have et : tilts h w (t.take (i + 1)) g = TM.tilt h w (tilts h w (t.take i) g) c := by
        rw [List.take_add_one, hc]
        exact tilts_snoc _ _
      have G2 := VG.tilts (t.take i) G
      refine ⟨_, rfl, _, rfl, b, c, h, w, _, rfl, hb, G2.rc, G.n1, G.n8, G.m1, G.m8, fun H3 b3 sm3 hb3 => ?_⟩
      rw [et]
      exact ⟨b3, _, rfl, sm.trans sm3, hb3⟩
    · rintro σ H1 ⟨b, v, rfl, sm, hb⟩
      rw [S_size, List.take_length] at hb
      have G2 := VG.tilts t G
      refine ⟨_, rfl, b, _, rfl, .inl hb, fun x dx nx ndx nex => ?_⟩
      refine ⟨[.ref x], rowV (tilts h w t g), rfl, rfl, ?_, fun p hp => ?_⟩
      · have := G2.len
        rw [List.length_map]
        show _ ≤ 16777216
        omega
      have hpx : x ≠ p := fun z => by rw [← z, upd_same] at hp; cases hp
      refine ⟨x, dx, p, h, w, _, rfl, by rw [upd_ne hpx, upd_same], SqT.of upd_same, G2, fun H' ht kp => ⟨rfl, ?_⟩⟩
      refine k _ _ (sm.trans fun b o e => ?_) ht
      have hbx : b ≠ x := ne_of_none e nx
      have hbd : b ≠ dx := ne_of_none e ndx
      have e2 : (upd (upd H1 dx (.own x)) x (.ins D dx [])) b = some o := by rw [upd_ne hbx, upd_ne hbd]; exact e
      exact kp b o (by rw [upd_ne (ne_of_none e2 hp)]; exact e2) hbx
end
end TK
end
section
set_option Elab.async false
set_option maxRecDepth 100000
set_option linter.all false
namespace TK
open PySem L2 TM
structure TxtL (K : PySem.W.Frag) (mg : Str → Option Value) : Prop where
  int : mg "int" = none
  range : mg "range" = none
  min : mg "min" = none
/-- the script's list at a, where the drawing stands at r -/
def RowAt (K : PySem.W.Frag) (a : Addr) (ns : List Int) (H : Hp) (r : Addr) : Prop := ∃ i seed rest : Int, H r = some (.lst [.ref a, .int i, .int seed, .int rest]) ∧ 0 ≤ i ∧ SqL K H a (ns.map V.int)
def But (r : Addr) (H H' : Hp) : Prop := ∀ b o, H b = some o → b ≠ r → H' b = some o
theorem But.refl (r : Addr) (H : Hp) : But r H H := fun _ _ h _ => h
theorem But.trans {r : Addr} {H H1 H2 : Hp} (a : But r H H1) (b : But r H1 H2) : But r H H2 := fun c o h n => b c o (a c o h n) n
theorem But.same {r : Addr} {H H' : Hp} (s : Same H H') : But r H H' := fun b o h _ => s b o h
theorem RowAt.same {K : PySem.W.Frag} {a r : Addr} {ns : List Int} {H H' : Hp} (R : RowAt K a ns H r) (s : Same H H') : RowAt K a ns H' r := by
  obtain ⟨i, d, e, h, hi, q⟩ := R
  exact ⟨i, d, e, s _ _ h, hi, s.seq q⟩
theorem row_seq {K : PySem.W.Frag} {a r : Addr} {ns : List Int} {H : Hp} {i d e : Int} {o : HO} (h : H r = some (.lst [.ref a, .int i, .int d, .int e])) (q : SqL K H a (ns.map V.int)) : SqL K (upd H r o) a (ns.map V.int) := by
  have hne : ∀ {u : HO}, H a = some u → (∀ xs, u = .lst xs → xs ≠ [.ref a, .int i, .int d, .int e]) → a ≠ r := fun hu hn e' => by
    subst e'
    exact hn _ (Option.some.inj (hu.symm.trans h)) rfl
  rcases q with (q | ⟨u, q⟩) | q
  · refine .inl (.inl ?_)
    rw [upd_ne (hne q fun xs e => by
      cases e
      intro z
      cases ns with
      | nil => simp at z
      | cons n r => simp at z)]
    exact q
  · refine .inl (.inr ⟨u, ?_⟩)
    rw [upd_ne (hne q fun xs e => by cases e)]
    exact q
  · exact .inr q
theorem fmod_in {k m : Int} (h : 1 ≤ m) : 0 ≤ k.fmod m ∧ k.fmod m < m := by
  rw [Int.fmod_eq_emod_of_nonneg _ (by omega)]
  exact ⟨Int.emod_nonneg _ (by omega), Int.emod_lt_of_pos _ (by omega)⟩
section
variable {P : Program} {w : World} {K : PySem.W.Frag} {mg : Str → Option Value} {base : Heap}
theorem scTk : FnScope ["_law_row", "_law_many", "_law_found", "_law_cell"] ["_law_row", "_law_many"] (defScope sLawTaken) := ⟨rfl, rfl, rfl, by decide +kernel, rfl, by decide +kernel, by decide +kernel⟩
def spTk (K : PySem.W.Frag) (a : Addr) (ns : List Int) : Sp := fun vs H Q _ => ∃ (r : Addr) (m : Int), vs = [.ref r, .int m] ∧ RowAt K a ns H r ∧ 1 ≤ m ∧ m ≤ 1000000000 ∧ ∀ H' (k : Nat), (k : Int) < m → RowAt K a ns H' r → But r H H' → Q (.int k) H'
theorem ok_tk {a : Addr} {ns : List Int} {f : Addr} {fd : FuncData} (F : Fun K "_law_taken" "_law_taken" sLawTaken f fd) (T : TxtW K mg) (L : TxtL K mg) : FnOk P w K mg base CX0 1 f fd ["_law_row", "_law_many"] (spTk K a ns) := by
  refine F.ok scTk (fun vs H Q E h => ?_) (fun cdv A outer s H vs Q E hr h => ?_)
  · obtain ⟨r, m, rfl, _⟩ := h
    rfl
  · obtain ⟨r, m, rfl, ⟨i, d, e, hR, hi, hS⟩, m1, m2, k⟩ := h
    have nd := scTk.nd
    refine ⟨_, pss_cons (ps_if (pt_cmpR op_gt (pe_ix ix_list (pv 0) pe_int (fun _ _ => rfl)) pe_int (nomark _))
        (pss_cons (ps_set (i := 2) nd rfl (.inl rfl) (pe_op op_modN (pe_callTy call_int1 (by rfl) L.int (by decide +kernel) (pa_cons (pe_ix ix_list (pv 0) pe_int (fun _ _ => rfl)) pa_nil)) (pv 1)))
        (pss_cons (ps_asg (pe_op op_fdivN (pe_ix ix_list (pv 0) pe_int (fun _ _ => rfl)) (pv 1)) (pg_sub (pv 0) pe_int set_list))
        (pss_one (ps_ret (pv 2))))) pss_nil)
      (C8.pss_cut (ps_asg (pe_op op_add (pe_ix ix_list (pv 0) pe_int (fun _ _ => rfl)) pe_int) (pg_sub (pv 0) pe_int set_list))
      (pss_cons (ps_if (pt_cmpR op_gt (pe_ix ix_list (pv 0) pe_int (fun _ _ => rfl)) (pe_callB call_len_seq (by rfl) T.len PySem.boot_len (pa_cons (pe_ix ix_list (pv 0) pe_int (fun _ _ => rfl)) pa_nil)) (nomark _))
        (pss_cons (ps_asg (pe_op op_modN (pe_callTy call_int1 (by rfl) L.int (by decide +kernel) (pa_cons (pe_op op_add (pe_op op_mul (pe_ix ix_list (pv 0) pe_int (fun _ _ => rfl)) pe_int) pe_int) pa_nil)) pe_int) (pg_sub (pv 0) pe_int set_list))
        (pss_one (ps_ret (pe_op op_modN (pe_callTy call_int1 (by rfl) L.int (by decide +kernel) (pa_cons (pe_op op_fdivN (pe_ix ix_list (pv 0) pe_int (fun _ _ => rfl)) pe_int) pa_nil)) (pv 1))))) pss_nil)
      (pss_cons (ps_set (i := 3) nd rfl (.inl rfl) (pe_ix ix_list (pe_ix ix_list (pv 0) pe_int (fun _ _ => rfl)) (pe_op op_sub (pe_ix ix_list (pv 0) pe_int (fun _ _ => rfl)) pe_int) (fun _ _ => rfl)))
      (C8.pss_cut (ps_asg (pe_op op_modN (pe_callTy call_int1 (by rfl) L.int (by decide +kernel) (pa_cons (pe_op op_add (pe_op op_add (pe_op op_mul (pe_ix ix_list (pv 0) pe_int (fun _ _ => rfl)) pe_int) (pv 3)) pe_int) pa_nil)) pe_int) (pg_sub (pv 0) pe_int set_list))
      (C8.pss_cut (ps_if (pt_cmpR op_ge (pv 3) (pe_op op_pow pe_int pe_int) (nomark _)) (pss_one (ps_asg (pe_op op_fdivN (pv 3) (pv 1)) (pg_sub (pv 0) pe_int set_list))) pss_nil)
      (pss_one (ps_ret (pe_op op_modN (pe_callTy call_int1 (by rfl) L.int (by decide +kernel) (pa_cons (pv 3) pa_nil)) (pv 1))))))))), ?_⟩
    have m0 : m ≠ 0 := by omega
    have mb : m ≠ 0 ∧ m.natAbs < 1073741824 := ⟨m0, by omega⟩
    have row : ∀ {H1 : Hp} {i d e : Int}, H1 r = some (.lst [.ref a, .int i, .int d, .int e]) → 0 ≤ i → SqL K H1 a (ns.map V.int) → RowAt K a ns H1 r := fun h1 h2 h3 => ⟨_, _, _, h1, h2, h3⟩
    have but : ∀ {H1 : Hp} {o : HO}, But r H H1 → But r H (upd H1 r o) := fun b c o h n => by rw [upd_ne n]; exact b c o h n
    refine ⟨_, rfl, r, _, _, _, rfl, rfl, SqL.of hR, rfl, _, _, rfl, rfl, _, rfl, ?_⟩
    by_cases he : e > 0
    · rw [decide_eq_true he]
      refine iteT ⟨_, rfl, r, _, _, _, rfl, rfl, SqL.of hR, rfl, .inl ⟨_, rfl, _, rfl, _, _, rfl, rfl, m0, ?_⟩⟩
      refine ⟨_, rfl, r, _, _, _, rfl, rfl, SqL.of hR, rfl, _, rfl, _, _, rfl, rfl, mb, _, rfl, r, _, _, 3, rfl, rfl, hR, rfl, ?_⟩
      refine ⟨_, rfl, ?_⟩
      have hk := fmod_in (k := e) m1
      have := k (upd H r (.lst [.ref a, .int i, .int d, .int (e.fdiv m)])) (e.fmod m).toNat (by omega) (row upd_same hi (row_seq hR hS)) (but (But.refl r H))
      rw [Int.toNat_of_nonneg hk.1] at this
      exact this
    · rw [decide_eq_false he]
      refine iteF ?_
      refine ⟨fun σ H1 => σ = [some (.ref r), some (.int m), none, none] ∧ H1 r = some (.lst [.ref a, .int (i + 1), .int d, .int e]) ∧ SqL K H1 a (ns.map V.int) ∧ But r H H1, ?_, ?_⟩
      · refine ⟨_, rfl, r, _, _, _, rfl, rfl, SqL.of hR, rfl, _, _, rfl, rfl, _, rfl, r, _, _, 1, rfl, rfl, hR, rfl, ?_⟩
        exact ⟨rfl, upd_same, row_seq hR hS, but (But.refl r H)⟩
      rintro σ H1 ⟨rfl, hR1, hS1, b1⟩
      refine ⟨_, rfl, r, _, _, _, rfl, rfl, SqL.of hR1, rfl, _, rfl, r, _, _, _, rfl, rfl, SqL.of hR1, rfl, a, _, rfl, .inl hS1, _, _, rfl, rfl, _, rfl, ?_⟩
      rw [List.length_map]
      by_cases hl : i + 1 > (ns.length : Int)
      · rw [decide_eq_true hl]
        refine iteT ⟨_, rfl, r, _, _, _, rfl, rfl, SqL.of hR1, rfl, _, _, rfl, rfl, .inr (by decide), _, _, rfl, rfl, .inl ⟨_, rfl, _, _, rfl, rfl, (by show (2147483647 : Int) ≠ 0; decide), _, rfl, r, _, _, 2, rfl, rfl, hR1, rfl, ?_⟩⟩
        refine ⟨_, rfl, r, _, _, _, rfl, rfl, SqL.of upd_same, rfl, _, _, rfl, rfl, (by show (7 : Int) ≠ 0 ∧ (7 : Int).natAbs < 1073741824; decide), .inl ⟨_, rfl, _, rfl, _, _, rfl, rfl, m0, ?_⟩⟩
        have hk := fmod_in (k := ((d * 48271 + 11).fmod 2147483647).fdiv 7) m1
        have := k (upd H1 r (.lst [.ref a, .int (i + 1), .int ((d * 48271 + 11).fmod 2147483647), .int e])) (((d * 48271 + 11).fmod 2147483647).fdiv 7 |>.fmod m).toNat (by omega) (row upd_same (by omega) (row_seq hR1 hS1)) (but b1)
        rw [Int.toNat_of_nonneg hk.1] at this
        exact this
      · rw [decide_eq_false hl]
        refine iteF ?_
        obtain ⟨c, hc⟩ : ∃ c, ns[i.toNat]? = some c := ⟨_, List.getElem?_eq_getElem (by omega)⟩
        refine ⟨_, rfl, r, _, _, _, rfl, rfl, SqL.of hR1, rfl, _, rfl, r, _, _, _, rfl, rfl, SqL.of hR1, rfl, _, _, rfl, rfl, a, _, _, .int c, rfl, rfl, hS1, ?_, ?_⟩
        · rw [show i + 1 - 1 = ((i.toNat : Nat) : Int) by omega]
          exact atI_nat (by rw [List.getElem?_map, hc]; all_goals rfl)
        refine ⟨fun σ H2 => ∃ d' : Int, σ = [some (.ref r), some (.int m), none, some (.int c)] ∧ H2 r = some (.lst [.ref a, .int (i + 1), .int d', .int e]) ∧ SqL K H2 a (ns.map V.int) ∧ But r H H2, ?_, ?_⟩
        · refine ⟨_, rfl, r, _, _, _, rfl, rfl, SqL.of hR1, rfl, _, _, rfl, rfl, .inr (by decide), _, rfl, _, _, rfl, rfl, _, _, rfl, rfl, .inl ⟨_, rfl, _, _, rfl, rfl, (by show (2147483647 : Int) ≠ 0; decide), _, rfl, r, _, _, 2, rfl, rfl, hR1, rfl, ?_⟩⟩
          exact ⟨_, rfl, upd_same, row_seq hR1 hS1, but b1⟩
        rintro σ H2 ⟨d', rfl, hR2, hS2, b2⟩
        refine ⟨fun σ H3 => ∃ e' : Int, σ = [some (.ref r), some (.int m), none, some (.int c)] ∧ H3 r = some (.lst [.ref a, .int (i + 1), .int d', .int e']) ∧ SqL K H3 a (ns.map V.int) ∧ But r H H3, ?_, ?_⟩
        · refine ⟨_, rfl, _, _, rfl, rfl, ⟨by decide, by decide, by decide⟩, _, _, rfl, rfl, _, rfl, ?_⟩
          refine ite2 (fun _ => ?_) fun _ => ?_
          · refine ⟨_, rfl, _, rfl, _, _, rfl, rfl, mb, _, rfl, r, _, _, 3, rfl, rfl, hR2, rfl, ?_⟩
            exact ⟨_, rfl, upd_same, row_seq hR2 hS2, but b2⟩
          · exact ⟨e, rfl, hR2, hS2, b2⟩
        rintro σ H3 ⟨e', rfl, hR3, hS3, b3⟩
        refine ⟨_, rfl, .inl ⟨_, rfl, _, rfl, _, _, rfl, rfl, m0, ?_⟩⟩
        have hk := fmod_in (k := c) m1
        have := k H3 (c.fmod m).toNat (by omega) (row hR3 (by omega) hS3) b3
        rw [Int.toNat_of_nonneg hk.1] at this
        exact this
end
end TK
end
section
set_option Elab.async false
set_option maxRecDepth 100000
set_option linter.all false
namespace TK
open PySem L2 TM
/-- the letters of a way -/
def lets (k : Nat) : List Nat := match k with
  | 0 => [108, 114, 117, 100]
  | 1 => [108, 117]
  | 2 => [114, 100, 108, 117]
  | _ => [108, 114]
theorem lets_ok : ∀ k, ∀ c ∈ lets k, isT c = true
  | 0 => by decide
  | 1 => by decide
  | 2 => by decide
  | _ + 3 => by show ∀ c ∈ [108, 114], isT c = true; decide
theorem lets_1 : ∀ k, 1 ≤ (lets k).length ∧ (lets k).length ≤ 4
  | 0 => by decide
  | 1 => by decide
  | 2 => by decide
  | _ + 3 => ⟨(by show 1 ≤ 2; decide), (by show 2 ≤ 4; decide)⟩
theorem way_text {k : Nat} (h : k < 4) : ([V.str (S [108, 114, 117, 100]), V.str (S [108, 117]), V.str (S [114, 100, 108, 117]), V.str (S [108, 114])] : List V)[k]? = some (.str (S (lets k))) := by
  match k, h with
  | 0, _ => rfl
  | 1, _ => rfl
  | 2, _ => rfl
  | 3, _ => rfl
theorem way_len {k : Nat} (h : k < 4) : ([V.int 4, V.int 2, V.int 4, V.int 2] : List V)[k]? = some (.int ((lets k).length : Nat)) := by
  match k, h with
  | 0, _ => rfl
  | 1, _ => rfl
  | 2, _ => rfl
  | 3, _ => rfl
section
variable {P : Program} {w : World} {K : PySem.W.Frag} {mg : Str → Option Value} {base : Heap} {a : Addr} {ns : List Int} {fT : Addr} {fdT : FuncData}
abbrev NTx : List Str := ["_law_row", "_law_most", "_law_text_here", "_law_way", "_law_k"]
theorem scTx : FnScope NTx ["_law_row", "_law_most"] (defScope sLawText) := ⟨rfl, rfl, rfl, by decide +kernel, rfl, by decide +kernel, by decide +kernel⟩
def spTx (K : PySem.W.Frag) (a : Addr) (ns : List Int) : Sp := fun vs H Q _ => ∃ (r : Addr) (m : Nat), vs = [.ref r, .int m] ∧ RowAt K a ns H r ∧ m ≤ 60 ∧ ∀ H' t, Good t → t.length ≤ m → RowAt K a ns H' r → But r H H' → Q (.str (S t)) H'
theorem ok_tx {f : Addr} {fd : FuncData} (F : Fun K "_law_text" "_law_text" sLawText f fd) (L : TxtL K mg) (GT : FnOk P w K mg base CX0 1 fT fdT ["_law_row", "_law_many"] (spTk K a ns)) (kT : PySem.W.keepIn K (.ref fT) = true) (bT : Binds K fdT ["_law_row", "_law_many"] []) (mT : mg "_law_taken" = some (.ref fT)) :
    FnOk P w K mg base CX0 2 f fd ["_law_row", "_law_most"] (spTx K a ns) := by
  refine F.ok scTx (fun vs H Q E h => ?_) (fun cdv A outer s H vs Q E hr h => ?_)
  · obtain ⟨r, m, rfl, _⟩ := h
    rfl
  · obtain ⟨r, m, rfl, hR, hm, k⟩ := h
    have nd := scTx.nd
    refine ⟨_, pss_cons (ps_par (i := 2) (j := 3) rfl nd rfl rfl (by decide) rfl rfl (pa_cons pe_str (pa_cons (pe_call GT hr rfl mT kT bT .nil pass0 (pa_cons (pv 0) (pa_cons pe_int pa_nil))) pa_nil)) (by rfl))
      (pss_cons (ps_for PassesOwn.never rfl (pi_range1 (by rfl) L.range (pa_cons (pe_call GT hr rfl mT kT bT .nil pass0 (pa_cons (pv 0) (pa_cons (pe_op op_add (pv 1) pe_int) pa_nil))) pa_nil)) (pg_name (i := 4) nd rfl (.inl rfl))
        (pss_one (ps_set (i := 2) nd rfl (.inl rfl) (pe_op op_add_str (pv 2)
          (pe_ix ix_str (pe_ix ix_list (pe_lst (pa_cons pe_str (pa_cons pe_str (pa_cons pe_str (pa_cons pe_str pa_nil))))) (pv 3) (fun _ _ => rfl))
            (pe_call GT hr rfl mT kT bT .nil pass0 (pa_cons (pv 0) (pa_cons (pe_ix ix_list (pe_lst (pa_cons pe_int (pa_cons pe_int (pa_cons pe_int (pa_cons pe_int pa_nil))))) (pv 3) (fun _ _ => rfl)) pa_nil))) (fun _ _ => rfl))))))
      (pss_one (ps_ret (pv 2)))), ?_⟩
    refine ⟨_, rfl, r, 4, rfl, hR, by decide, by decide, fun H1 way hw R1 b1 => ?_⟩
    refine ⟨_, _, rfl, ?_⟩
    refine ⟨_, rfl, _, rfl, _, _, rfl, rfl, r, (m : Int) + 1, rfl, R1, by omega, by omega, fun H2 j hj R2 b2 => ?_⟩
    refine ⟨(j : Int), rfl, by omega, by omega, for_range (lo := 0) (n := (j : Int).toNat) (fun i σ H3 => ∃ t v, σ = [some (.ref r), some (.int m), some (.str (S t)), some (.int way), v] ∧ t.length = i ∧ (∀ c ∈ t, isT c = true) ∧ RowAt K a ns H3 r ∧ But r H H3)
      ⟨[], none, rfl, rfl, by simp, R2, b1.trans b2⟩ ?_ ?_⟩
    · rintro i σ H3 hi ⟨t, v, rfl, ht, hg, R3, b3⟩
      have hw4 : way < 4 := by omega
      refine ⟨_, rfl, (by show 4 ≤ sizeLine; decide), fun p hp => ?_⟩
      have sm : Same H3 (upd H3 p (.lst [V.str (S [108, 114, 117, 100]), V.str (S [108, 117]), V.str (S [114, 100, 108, 117]), V.str (S [108, 114])])) := same_new hp
      refine ⟨_, rfl, p, _, _, _, rfl, rfl, SqL.of upd_same, atI_nat (way_text hw4), ?_⟩
      refine ⟨_, rfl, (by show 4 ≤ sizeLine; decide), fun q hq => ?_⟩
      refine ⟨_, rfl, q, _, _, _, rfl, rfl, SqL.of upd_same, atI_nat (way_len hw4), ?_⟩
      have R4 := (R3.same sm).same (same_new (o := .lst [V.int 4, V.int 2, V.int 4, V.int 2]) hq)
      refine ⟨r, _, rfl, R4, ?_, ?_, fun H5 d hd R5 b5 => ?_⟩
      · have := (lets_1 way).1; omega
      · have := (lets_1 way).2; omega
      have hd' : d < (lets way).length := by omega
      obtain ⟨c, hc⟩ : ∃ c, (lets way)[d]? = some c := ⟨_, List.getElem?_eq_getElem hd'⟩
      have h4 := (lets_1 way).2
      refine ⟨S (lets way), (d : Int), c, rfl, rfl, ?_, ?_, ?_⟩
      · rw [S_len]
        show _ ≤ 16777216
        omega
      · rw [S_list]
        exact atI_nat hc
      refine ⟨_, _, rfl, rfl, ?_, ?_⟩
      · rw [S_len, ht]
        show i + 1 ≤ 16777216
        omega
      refine ⟨t ++ [c], some (.int (0 + (i : Int))), ?_, ?_, ?_, R5, ?_⟩
      · rw [← show S t ++ ⟨#[c]⟩ = S (t ++ [c]) from SX.S_cat t [c]]
        rfl
      · simp [ht]
      · intro x hx
        rcases List.mem_append.mp hx with hx | hx
        · exact hg x hx
        · rw [List.mem_singleton.mp hx]
          exact lets_ok way c (List.mem_of_getElem? hc)
      · exact ((b3.trans (.same sm)).trans (.same (same_new hq))).trans b5
    · rintro σ H3 ⟨t, v, rfl, ht, hg, R3, b3⟩
      exact ⟨_, rfl, k _ t ⟨by omega, hg⟩ (by omega) R3 b3⟩
end
end TK
end
section
set_option Elab.async false
set_option maxRecDepth 100000
set_option linter.all false
namespace TK
open PySem L2 TM
abbrev intV (l : List Nat) : List V := l.map fun j => V.int (j : Nat)
theorem range_snoc {p : Nat → Bool} (i : Nat) : (List.range (i + 1)).filter p = (List.range i).filter p ++ (if p i then [i] else []) := by
  rw [List.range_succ, List.filter_append]
  congr 1
  by_cases h : p i <;> simp [h]
section
variable {P : Program} {w : World} {K : PySem.W.Frag} {mg : Str → Option Value} {base : Heap}
end
end TK
end
section
set_option Elab.async false
set_option maxRecDepth 100000
set_option linter.all false
namespace TK
open PySem L2 TM
/-- the cells in rows of w -/
def chunk (h w : Nat) (cs : List Nat) : Grid := (List.range h).map fun i => (cs.drop (i * w)).take w
theorem chunk_flat (w : Nat) (cs : List Nat) : ∀ h, (chunk h w cs).flatten = cs.take (h * w)
  | 0 => by simp [chunk]
  | h + 1 => by
    have ih := chunk_flat w cs h
    unfold chunk at ih ⊢
    rw [List.range_succ, List.map_append, List.flatten_append, ih, List.map_singleton, List.flatten_cons, List.flatten_nil, List.append_nil, Nat.succ_mul]
    exact (List.take_add).symm
theorem chunk_rect {h w : Nat} {cs : List Nat} (hl : cs.length = h * w) : Rect h w (chunk h w cs) := by
  refine ⟨by simp [chunk], fun r hr => ?_⟩
  obtain ⟨i, hi, rfl⟩ := List.mem_map.mp hr
  have hi := List.mem_range.mp hi
  rw [List.length_take, List.length_drop, hl]
  have : (i + 1) * w ≤ h * w := Nat.mul_le_mul_right _ hi
  rw [Nat.succ_mul] at this
  omega
/-- k marbles lie, a, b, .. of them -/
structure Lay (k : Nat) (cs : List Nat) : Prop where
  len : (mb cs).length = k
  nd : (mb cs).Nodup
  ab : ∀ c ∈ mb cs, 97 ≤ c ∧ c < 97 + k
theorem Lay.none (n : Nat) : Lay 0 (List.replicate n 46) := by
  have e : mb (List.replicate n 46) = [] := mb_dots n
  exact ⟨by rw [e]; rfl, by rw [e]; exact List.nodup_nil, by rw [e]; intro c hc; cases hc⟩
theorem Lay.cell {k : Nat} {cs : List Nat} (L : Lay k cs) (hk : k ≤ 26) : ∀ c ∈ cs, Cell c := fun c hc => by
  by_cases h : c = 46
  · exact .inl h
  · have := L.ab c (List.mem_filter.mpr ⟨hc, by simp [h]⟩)
    exact .inr ⟨this.1, by omega⟩
theorem Lay.put {k p : Nat} {cs : List Nat} (L : Lay k cs) (hp : cs[p]? = some 46) : Lay (k + 1) (cs.set p (97 + k)) := by
  have hi := (List.getElem?_eq_some_iff.mp hp).1
  have e1 : cs = cs.take p ++ 46 :: cs.drop (p + 1) := by
    have := (List.getElem?_eq_some_iff.mp hp).2
    rw [← this]
    simp
  have e2 : cs.set p (97 + k) = cs.take p ++ (97 + k) :: cs.drop (p + 1) := List.set_eq_take_append_cons_drop ▸ by rw [if_pos hi]
  have m1 : mb cs = mb (cs.take p) ++ mb (cs.drop (p + 1)) := by
    conv => lhs; rw [e1, mb_app]
    simp [mb]
  have m2 : mb (cs.set p (97 + k)) = mb (cs.take p) ++ (97 + k) :: mb (cs.drop (p + 1)) := by
    rw [e2, mb_app]
    have : (97 + k != 46) = true := by simp; omega
    simp [mb, this]
  have pm : (mb (cs.set p (97 + k))).Perm ((97 + k) :: mb cs) := by
    rw [m1, m2]
    exact List.perm_middle
  have fresh : 97 + k ∉ mb cs := fun h => by
    have := L.ab _ h
    omega
  refine ⟨by rw [pm.length_eq, List.length_cons, L.len], pm.nodup_iff.mpr (List.nodup_cons.mpr ⟨fresh, L.nd⟩), fun c hc => ?_⟩
  rcases List.mem_cons.mp (pm.mem_iff.mp hc) with e | e
  · subst e; omega
  · have := L.ab c e
    omega
/-- the free places -/
def frees (cs : List Nat) (n : Nat) : List Nat := (List.range n).filter fun j => cs.getD j 0 == 46
theorem frees_le (cs : List Nat) (n : Nat) : (frees cs n).length ≤ n := by
  have := List.length_filter_le (fun j => cs.getD j 0 == 46) (List.range n)
  rw [List.length_range] at this
  exact this
theorem frees_at {cs : List Nat} {d p : Nat} (h : (frees cs cs.length)[d]? = some p) : cs[p]? = some 46 := by
  have hm := List.mem_filter.mp (List.mem_of_getElem? h)
  have hp := List.mem_range.mp hm.1
  have h2 := hm.2
  rw [List.getD_eq_getElem?_getD, List.getElem?_eq_getElem hp] at h2
  rw [List.getElem?_eq_getElem hp]
  simpa using h2
theorem frees_pos {k : Nat} {cs : List Nat} (L : Lay k cs) (hk : k < cs.length) : 0 < (frees cs cs.length).length := by
  refine Nat.pos_of_ne_zero fun h0 => ?_
  have e : frees cs cs.length = [] := List.length_eq_zero_iff.mp h0
  have all : ∀ c ∈ cs, (c != 46) = true := fun c hc => by
    obtain ⟨j, hj, rfl⟩ := List.mem_iff_getElem.mp hc
    by_cases q : cs[j] = 46
    · have : j ∈ frees cs cs.length := List.mem_filter.mpr ⟨List.mem_range.mpr hj, by rw [List.getD_eq_getElem?_getD, List.getElem?_eq_getElem hj]; simp [q]⟩
      rw [e] at this
      cases this
    · simp [q]
  have : mb cs = cs := List.filter_eq_self.mpr all
  have := L.len
  rw [‹mb cs = cs›] at this
  omega
theorem lay_VG {h w k : Nat} {cs : List Nat} (L : Lay k cs) (hk : k ≤ 26) (hl : cs.length = h * w) (h1 : 1 ≤ h) (h8 : h ≤ 8) (w1 : 1 ≤ w) (w8 : w ≤ 8) : VG h w (chunk h w cs) := by
  have ef : (chunk h w cs).flatten = cs := by rw [chunk_flat, ← hl, List.take_length]
  refine ⟨chunk_rect hl, h1, h8, w1, w8, fun r hr c hc => ?_, by rw [ef]; exact L.nd⟩
  exact L.cell hk c (by rw [← ef]; exact List.mem_flatten.mpr ⟨r, hr, hc⟩)
end TK
end
section
set_option Elab.async false
set_option maxRecDepth 100000
set_option linter.all false
namespace TK
open PySem L2 TM
theorem ix_listK {X : Cx} {K : PySem.W.Frag} (h : X.K = K) : IxR X (rIxL K) := by
  subst h
  exact ix_list
theorem sl_listK {X : Cx} {K : PySem.W.Frag} (h : X.K = K) : SlR X (rSlL K) := by
  subst h
  exact sl_list
theorem but_put {r l : Addr} {H0 H : Hp} {o : HO} (b : But r H0 H) (h : H0 l = none) : But r H0 (upd H l o) := fun c u e n => by
  rw [upd_ne (ne_of_none e h)]
  exact b c u e n
theorem but_none {r l : Addr} {H0 H : Hp} {x : HO} (b : But r H0 H) (hr : H r = some x) (h : H l = none) : H0 l = none := by
  cases e : H0 l with
  | none => rfl
  | some o =>
    have := b l o e (fun q => by subst q; rw [hr] at h; cases h)
    rw [h] at this
    cases this
theorem RowAt.ne {K : PySem.W.Frag} {a r l : Addr} {ns : List Int} {H : Hp} (R : RowAt K a ns H r) (h : H l = none) : l ≠ r := by
  obtain ⟨_, _, _, e, _⟩ := R
  exact (ne_of_none e h).symm
theorem RowAt.none {K : PySem.W.Frag} {a r l : Addr} {ns : List Int} {H0 H : Hp} (R : RowAt K a ns H r) (b : But r H0 H) (h : H l = none) : H0 l = none := by
  obtain ⟨_, _, _, e, _⟩ := R
  exact but_none b e h
/-- a store at a list that is not the drawing's -/
theorem RowAt.put {K : PySem.W.Frag} {a r l : Addr} {ns : List Int} {H : Hp} {xs ys : List V} (R : RowAt K a ns H r) (hl : H l = some (.lst xs)) (hn : l ≠ r) (hs : ∃ c t, xs = sg c :: t) : RowAt K a ns (upd H l (.lst ys)) r := by
  obtain ⟨i, d, e, h, hi, q⟩ := R
  refine ⟨i, d, e, by rw [upd_ne hn.symm]; exact h, hi, ?_⟩
  obtain ⟨c, t, rfl⟩ := hs
  rcases q with (q | ⟨u, q⟩) | q
  · refine .inl (.inl ?_)
    rw [upd_ne (fun e' => by
      subst e'
      have := Option.some.inj (q.symm.trans hl)
      cases ns with
      | nil => cases this
      | cons n r => cases this)]
    exact q
  · refine .inl (.inr ⟨u, ?_⟩)
    rw [upd_ne (fun e' => by
      subst e'
      have := Option.some.inj (q.symm.trans hl)
      cases this)]
    exact q
  · exact .inr q
def side (k : Nat) : Nat := match k with
  | 0 => 3
  | 1 => 5
  | _ => 8
theorem side_at {k : Nat} (h : k < 3) : ([V.int 3, V.int 5, V.int 8] : List V)[k]? = some (.int (side k : Nat)) := by
  match k, h with
  | 0, _ => rfl
  | 1, _ => rfl
  | 2, _ => rfl
theorem side_1 : ∀ k, 1 ≤ side k ∧ side k ≤ 8
  | 0 => by decide
  | 1 => by decide
  | _ + 2 => by show 1 ≤ 8 ∧ 8 ≤ 8; decide
theorem rep_dots (k : Nat) : (List.replicate k [V.str (S [46])]).flatten = (List.replicate k 46).map sg := by
  induction k with
  | zero => rfl
  | succ k ih =>
    rw [List.replicate_succ, List.flatten_cons, ih, List.replicate_succ, List.map_cons]
    rfl
section
variable {P : Program} {w : World} {K : PySem.W.Frag} {mg : Str → Option Value} {base : Heap} {a : Addr} {ns : List Int} {fT : Addr} {fdT : FuncData}
abbrev NRw : List Str := ["_law_row", "_law_most", "_law_height", "_law_width", "_law_cells", "_law_names", "_law_k", "_law_free", "_law_place"]
theorem scRw : FnScope NRw ["_law_row", "_law_most"] (defScope sLawRows) := ⟨rfl, rfl, rfl, by decide +kernel, rfl, by decide +kernel, by decide +kernel⟩
def spRw (K : PySem.W.Frag) (a : Addr) (ns : List Int) : Sp := fun vs H Q _ => ∃ (r : Addr) (m : Nat), vs = [.ref r, .int m] ∧ RowAt K a ns H r ∧ m ≤ 26 ∧ ∀ H' l h w g, VG h w g → H' l = some (.lst (rowV g)) → RowAt K a ns H' r → But r H H' → Q (.ref l) H'
/-- .. and the marbles are the first m at most -/
def spRwN (K : PySem.W.Frag) (a : Addr) (ns : List Int) : Sp := fun vs H Q _ => ∃ (r : Addr) (m : Nat), vs = [.ref r, .int m] ∧ RowAt K a ns H r ∧ m ≤ 26 ∧ ∀ H' l h w g, VG h w g → (∀ c ∈ mb g.flatten, c < 97 + m) → H' l = some (.lst (rowV g)) → RowAt K a ns H' r → But r H H' → Q (.ref l) H'
theorem ok_rwN {f : Addr} {fd : FuncData} (F : Fun K "_law_rows" "_law_rows" sLawRows f fd) (T : TxtW K mg) (L : TxtL K mg) (GT : FnOk P w K mg base CX0 1 fT fdT ["_law_row", "_law_many"] (spTk K a ns)) (kT : PySem.W.keepIn K (.ref fT) = true) (bT : Binds K fdT ["_law_row", "_law_many"] []) (mT : mg "_law_taken" = some (.ref fT)) :
    FnOk P w K mg base CX0 2 f fd ["_law_row", "_law_most"] (spRwN K a ns) := by
  refine F.ok scRw (fun vs H Q E h => ?_) (fun cdv A outer s H vs Q E hr h => ?_)
  · obtain ⟨r, m, rfl, _⟩ := h
    rfl
  · obtain ⟨r, m, rfl, hR, hm, k⟩ := h
    have nd := scRw.nd
    refine ⟨_, C8.pss_cut (ps_set (i := 2) nd rfl (.inl rfl) (pe_op op_add pe_int (pe_call GT hr rfl mT kT bT .nil pass0 (pa_cons (pv 0) (pa_cons (pe_ix ix_list (pe_lst (pa_cons pe_int (pa_cons pe_int (pa_cons pe_int pa_nil)))) (pe_call GT hr rfl mT kT bT .nil pass0 (pa_cons (pv 0) (pa_cons pe_int pa_nil))) (fun _ _ => rfl)) pa_nil)))))
      (C8.pss_cut (ps_set (i := 3) nd rfl (.inr rfl) (pe_op op_add pe_int (pe_call GT hr rfl mT kT bT .nil pass0 (pa_cons (pv 0) (pa_cons (pe_ix ix_list (pe_lst (pa_cons pe_int (pa_cons pe_int (pa_cons pe_int pa_nil)))) (pe_call GT hr rfl mT kT bT .nil pass0 (pa_cons (pv 0) (pa_cons pe_int pa_nil))) (fun _ _ => rfl)) pa_nil)))))
      (C8.pss_cut (ps_set (i := 4) nd rfl (.inr rfl) (pe_op op_rep (pe_lst (pa_cons pe_str pa_nil)) (pe_op op_mul (pv 2) (pv 3))))
      (pss_cons (ps_set (i := 5) nd rfl (.inl rfl) pe_str)
      (pss_cons (ps_for PassesOwn.never rfl (pi_range1 (by rfl) L.range (pa_cons (pe_callB (call_min2 rfl) (by rfl) L.min (by decide +kernel) (pa_cons (pe_op op_mul (pv 2) (pv 3)) (pa_cons (pe_call GT hr rfl mT kT bT .nil pass0 (pa_cons (pv 0) (pa_cons (pe_op op_add (pv 1) pe_int) pa_nil))) pa_nil))) pa_nil)) (pg_name (i := 6) nd rfl (.inl rfl))
        (C8.pss_cut (ps_setLc (i := 7) (own := [("_law_place", 8)]) (g := gName 8) rfl nd rfl rfl (sw_true rfl rfl rfl (by decide +kernel)) (pi_range1 (by rfl) L.range (pa_cons (pe_op op_mul (pv 2) (pv 3)) pa_nil)) (blkOk_by (N := NRw) (sc := defScope sLawRows) (by decide +kernel)) (fun _ _ _ _ _ => pg_name (i := 8) nd rfl (.inl rfl))
            (fun _ _ _ _ _ => pts_one (pt_cmpR op_eq (pe_ix (ix_listK (K := K) rfl) (pv 4) (pv 8) (fun _ _ => rfl)) pe_str (nomark _))) (fun _ _ _ _ _ => pv 8))
        (pss_one (ps_asg (pe_ix ix_str (pv 5) (pv 6) (fun _ _ => rfl)) (pg_sub (pv 4) (pe_ix ix_list (pv 7) (pe_call GT hr rfl mT kT bT .nil pass0 (pa_cons (pv 0) (pa_cons (pe_callB call_len_seq (by rfl) T.len PySem.boot_len (pa_cons (pv 7) pa_nil)) pa_nil))) (fun _ _ => rfl)) set_list)))))
      (pss_one (ps_ret (pe_lc (own := [("_law_k", 6)]) (g := gName 6) (tt := tYes) rfl nd (pi_range1 (by rfl) L.range (pa_cons (pv 2) pa_nil)) (blkOk_by (N := NRw) (sc := defScope sLawRows) (by decide +kernel)) (fun _ _ _ _ _ => pg_name (i := 6) nd rfl (.inl rfl)) (fun _ _ _ _ _ => pts_nil)
        (fun _ _ _ _ _ => pe_joinK (K := K) rfl pe_str (pe_slice (sl_listK (K := K) rfl) (pv 4) (po_some (pe_op op_mul (pv 6) (pv 3))) (po_some (pe_op op_add (pe_op op_mul (pv 6) (pv 3)) (pv 3)))))))))))), ?_⟩
    refine ⟨fun σ H1 => ∃ h : Nat, σ = [some (.ref r), some (.int m), some (.int h), none, none, none, none, none, none] ∧ 1 ≤ h ∧ h ≤ 8 ∧ RowAt K a ns H1 r ∧ But r H H1, ?_, ?_⟩
    · refine ⟨_, rfl, (by show 3 ≤ sizeLine; decide), fun p hp => ⟨_, rfl, r, 3, rfl, hR.same (same_new hp), by decide, by decide, fun HA d hd RA bA => ?_⟩⟩
      have hd3 : d < 3 := by omega
      have s1 := side_1 d
      refine ⟨p, _, _, _, rfl, rfl, SqL.of (bA p _ upd_same (hR.ne hp)), atI_nat (side_at hd3), r, _, rfl, RA, by omega, by omega, fun HB e he RB bB => ?_⟩
      exact ⟨_, _, rfl, rfl, e + 1, by rw [show ((e + 1 : Nat) : Int) = 1 + (e : Int) by omega]; rfl, by omega, by omega, RB, (((But.refl r H).trans (.same (same_new hp))).trans bA).trans bB⟩
    rintro σ H1 ⟨h, rfl, h1, h8, R1, b1⟩
    refine ⟨fun σ H2 => ∃ w : Nat, σ = [some (.ref r), some (.int m), some (.int h), some (.int w), none, none, none, none, none] ∧ 1 ≤ w ∧ w ≤ 8 ∧ RowAt K a ns H2 r ∧ But r H H2, ?_, ?_⟩
    · refine ⟨_, rfl, (by show 3 ≤ sizeLine; decide), fun p hp => ⟨_, rfl, r, 3, rfl, R1.same (same_new hp), by decide, by decide, fun HA d hd RA bA => ?_⟩⟩
      have hd3 : d < 3 := by omega
      have s1 := side_1 d
      refine ⟨p, _, _, _, rfl, rfl, SqL.of (bA p _ upd_same (R1.ne hp)), atI_nat (side_at hd3), r, _, rfl, RA, by omega, by omega, fun HB e he RB bB => ?_⟩
      exact ⟨_, _, rfl, rfl, e + 1, by rw [show ((e + 1 : Nat) : Int) = 1 + (e : Int) by omega]; rfl, by omega, by omega, RB, ((b1.trans (.same (same_new hp))).trans bA).trans bB⟩
    rintro σ H2 ⟨w, rfl, w1, w8, R2, b2⟩
    have hw : h * w ≤ 64 := Nat.mul_le_mul h8 w8
    have hw1 : 1 ≤ h * w := Nat.mul_le_mul h1 w1
    have ehw : (h : Int) * (w : Int) = ((h * w : Nat) : Int) := by simp
    have bh : ((-(2 ^ 64) < (h : Int) ∧ (h : Int) < 2 ^ 64) ∨ (-(2 ^ 64) < (w : Int) ∧ (w : Int) < 2 ^ 64)) := .inl ⟨by omega, by omega⟩
    refine ⟨fun σ H3 => ∃ l, σ = [some (.ref r), some (.int m), some (.int h), some (.int w), some (.ref l), none, none, none, none] ∧ H l = none ∧ l ≠ r ∧ H3 l = some (.lst ((List.replicate (h * w) 46).map sg)) ∧ RowAt K a ns H3 r ∧ But r H H3, ?_, ?_⟩
    · refine ⟨(by show 1 ≤ sizeLine; decide), fun p hp => ⟨_, rfl, _, rfl, _, _, rfl, rfl, bh, ?_⟩⟩
      refine ⟨p, ((h * w : Nat) : Int), _, rfl, congrArg V.int ehw, upd_same, by omega, by omega, ?_, fun q hq => ?_⟩
      · show 1 * ((h * w : Nat) : Int).toNat ≤ 16777216
        rw [Int.toNat_natCast]
        omega
      · rw [Int.toNat_natCast]
        have R3 := R2.same (same_new (o := .lst [V.str (S [46])]) hp)
        have b3 := b2.trans (.same (same_new (o := .lst [V.str (S [46])]) hp))
        refine ⟨q, rfl, R3.none b3 hq, R3.ne hq, ?_, R3.same (same_new hq), b3.trans (.same (same_new hq))⟩
        rw [upd_same, ← rep_dots]
        rfl
    rintro σ H3 ⟨l, rfl, hl0, hlr, hL, R3, b3⟩
    refine ⟨_, rfl, _, rfl, _, _, rfl, rfl, bh, _, rfl, _, rfl, _, _, rfl, rfl, r, (m : Int) + 1, rfl, R3, by omega, by omega, fun H4 kk hkk R4 b4 => ?_⟩
    have hmin : ∃ N : Nat, (if (kk : Int) < (h : Int) * (w : Int) then (kk : Int) else (h : Int) * (w : Int)) = (N : Int) ∧ N ≤ 26 ∧ N ≤ h * w ∧ N ≤ m := by
      rw [ehw]
      by_cases hc : (kk : Int) < ((h * w : Nat) : Int)
      · rw [if_pos hc]
        exact ⟨kk, rfl, by omega, by omega, by omega⟩
      · rw [if_neg hc]
        exact ⟨h * w, rfl, by omega, Nat.le_refl _, by omega⟩
    obtain ⟨N, eN, N26, Nhw, Nm⟩ := hmin
    refine ⟨_, _, rfl, ?_⟩
    refine ⟨(N : Int), congrArg (fun z => [V.int z]) eN, by omega, by omega, for_range (lo := 0) (n := ((N : Nat) : Int).toNat) (fun i σ H5 => ∃ cs v6 v7 v8, σ = [some (.ref r), some (.int m), some (.int h), some (.int w), some (.ref l), some (.str (S letters)), v6, v7, v8] ∧ Lay i cs ∧ cs.length = h * w ∧ H5 l = some (.lst (cs.map sg)) ∧ RowAt K a ns H5 r ∧ But r H H5)
      ⟨_, none, none, none, rfl, Lay.none (h * w), List.length_replicate, b4 _ _ hL hlr, R4, b3.trans b4⟩ ?_ ?_⟩
    · rintro i σ H5 hi ⟨cs, v6, v7, v8, rfl, La, hcs, hL5, R5, b5⟩
      rw [Int.toNat_natCast] at hi
      rw [Int.zero_add]
      refine ⟨fun σ H6 => ∃ D v8, σ = [some (.ref r), some (.int m), some (.int h), some (.int w), some (.ref l), some (.str (S letters)), some (.int (i : Nat)), some (.ref D), v8] ∧ D ≠ r ∧ D ≠ l ∧ H6 D = some (.lst (intV (frees cs cs.length))) ∧ H6 l = some (.lst (cs.map sg)) ∧ RowAt K a ns H6 r ∧ But r H H6, ?_, ?_⟩
      · refine ⟨_, rfl, _, rfl, _, _, rfl, rfl, bh, ?_⟩
        refine ⟨((h * w : Nat) : Int), congrArg (fun z => [V.int z]) ehw, by omega, by omega, fun D hD => lc_range (lo := 0) (n := (((h * w : Nat) : Int)).toNat) (fun j H6 => Same H5 H6 ∧ H6 D = some (.lst (intV ((List.range j).filter fun x => cs.getD x 0 == 46))))
          ⟨same_new hD, upd_same⟩ ?_ ?_⟩
        · rintro j H6 hj ⟨sm, hD6⟩
          rw [Int.toNat_natCast] at hj
          rw [Int.zero_add]
          obtain ⟨d, hd⟩ : ∃ d, cs[j]? = some d := ⟨_, List.getElem?_eq_getElem (by omega)⟩
          refine ⟨rfl, _, rfl, _, rfl, l, _, _, sg d, rfl, rfl, SqL.of (sm _ _ hL5), atI_nat (by rw [List.getElem?_map, hd]; all_goals rfl), rfl, _, rfl, ?_⟩
          rw [show decide (sg d = V.str (Str.ofString ".")) = (d == 46) from dL d 46]
          have eg : cs.getD j 0 = d := by rw [List.getD_eq_getElem?_getD, hd]; rfl
          have es := range_snoc (p := fun x => cs.getD x 0 == 46) j
          by_cases hx : (d == 46) = true
          · rw [hx]
            refine iteT ⟨_, rfl, _, hD6, ?_, same_put sm hD, ?_⟩
            · rw [List.length_map]
              have := List.length_filter_le (fun x => cs.getD x 0 == 46) (List.range j)
              rw [List.length_range] at this
              show _ < 16777216
              omega
            · rw [upd_same, es, if_pos (by rw [eg]; exact hx)]
              simp [intV]
          · rw [Bool.not_eq_true] at hx
            rw [hx]
            refine iteF ⟨sm, ?_⟩
            rw [hD6, es, if_neg (by rw [eg, hx]; exact Bool.false_ne_true), List.append_nil]
        · rintro H6 ⟨sm, hD6⟩
          rw [Int.toNat_natCast, ← hcs] at hD6
          exact ⟨D, _, rfl, R5.ne hD, (ne_of_none hL5 hD).symm, hD6, sm _ _ hL5, R5.same sm, b5.trans (.same sm)⟩
      rintro σ H6 ⟨D, v8', rfl, hDr, hDl, hD6, hL6, R6, b6⟩
      have hpos := frees_pos La (by omega)
      have hfl := frees_le cs cs.length
      have hle : letters[i]? = some (97 + i) := by
        have : i < 26 := by omega
        have all : ∀ i : Fin 26, letters[i.1]? = some (97 + i.1) := by decide
        exact all ⟨i, this⟩
      refine ⟨_, rfl, _, rfl, S letters, (i : Int), 97 + i, rfl, rfl, (by show 26 ≤ sizeLine; decide), by rw [S_list]; exact atI_nat hle, ?_⟩
      refine ⟨_, rfl, _, rfl, _, rfl, _, rfl, D, _, rfl, .inl (SqL.of hD6), ?_⟩
      refine ⟨r, _, rfl, R6, ?_, ?_, fun H7 d hd R7 b7 => ?_⟩
      · rw [List.length_map]; omega
      · rw [List.length_map]; omega
      rw [List.length_map] at hd
      obtain ⟨p, hp⟩ : ∃ p, (frees cs cs.length)[d]? = some p := ⟨_, List.getElem?_eq_getElem (by omega)⟩
      have hcp := frees_at hp
      have hpl : p < cs.length := (List.getElem?_eq_some_iff.mp hcp).1
      have hL7 := b7 _ _ hL6 hlr
      refine ⟨D, _, _, .int (p : Nat), rfl, rfl, SqL.of (b7 _ _ hD6 hDr), atI_nat (by rw [List.getElem?_map, hp]; all_goals rfl), l, _, _, p, rfl, rfl, hL7, ?_, ?_⟩
      · rw [List.length_map]
        unfold ixN
        rw [if_pos (by omega), if_pos (by omega), Int.toNat_natCast]
      · have hs : ∃ c t, cs.map sg = sg c :: t := by
          cases cs with
          | nil => simp at hpl
          | cons c t => exact ⟨c, t.map sg, rfl⟩
        refine ⟨cs.set p (97 + i), _, _, _, rfl, La.put hcp, by rw [List.length_set]; exact hcs, ?_, R7.put hL7 hlr hs, but_put (b6.trans b7) hl0⟩
        rw [upd_same, List.map_set]
    · rintro σ H5 ⟨cs, v6, v7, v8, rfl, La, hcs, hL5, R5, b5⟩
      rw [Int.toNat_natCast] at La
      have La' := La
      have goal := lay_VG La' N26 hcs h1 h8 w1 w8
      refine ⟨_, rfl, (h : Int), rfl, by omega, by omega, fun D hD => lc_range (lo := 0) (n := ((h : Nat) : Int).toNat) (fun i H6 => Same H5 H6 ∧ H6 D = some (.lst ((List.range i).map fun j => V.str (S ((cs.drop (j * w)).take w)))))
          ⟨same_new hD, upd_same⟩ ?_ ?_⟩
      · rintro i H6 hi ⟨sm, hD6⟩
        rw [Int.toNat_natCast] at hi
        rw [Int.zero_add]
        have hiw : i * w + w ≤ h * w := by
          have : (i + 1) * w ≤ h * w := Nat.mul_le_mul_right _ hi
          rw [Nat.succ_mul] at this
          exact this
        have eiw : (i : Int) * (w : Int) = ((i * w : Nat) : Int) := by simp
        have bi : ((-(2 ^ 64) < (i : Int) ∧ (i : Int) < 2 ^ 64) ∨ (-(2 ^ 64) < (w : Int) ∧ (w : Int) < 2 ^ 64)) := .inr ⟨by omega, by omega⟩
        have ecut : cutV (cs.map sg) (some ((i : Int) * (w : Int))) (some ((i : Int) * (w : Int) + (w : Int))) = ((cs.drop (i * w)).take w).map sg := by
          rw [eiw, show ((i * w : Nat) : Int) + (w : Int) = ((i * w + w : Nat) : Int) by omega]
          unfold cutV
          rw [HT.sIx_nat, HT.sIx_nat, List.length_map, hcs, Nat.min_eq_left hiw, Nat.min_eq_left (by omega : i * w ≤ h * w), show i * w + w - i * w = w by omega, List.map_take, List.map_drop]
        refine ⟨rfl, ⟨_, rfl⟩, _, rfl, _, rfl, _, rfl, _, _, rfl, rfl, bi, _, rfl, _, rfl, _, rfl, _, _, rfl, rfl, bi, _, rfl, _, _, rfl, rfl, _, rfl, l, _, rfl, SqL.of (sm _ _ hL5), fun q hq => ?_⟩
        rw [ecut]
        have hD7 : (upd H6 q (.lst (((cs.drop (i * w)).take w).map sg))) D = some (.lst ((List.range i).map fun j => V.str (S ((cs.drop (j * w)).take w)))) := by
          rw [upd_ne (ne_of_none hD6 hq)]
          exact hD6
        refine ⟨_, q, ((cs.drop (i * w)).take w).map fun c => S [c], rfl, rfl, .inl ?_, ?_, _, hD7, ?_, ?_⟩
        · rw [List.map_map]
          exact SqL.of upd_same
        · rw [sum_ones, List.length_map, List.length_take, List.length_drop]
          show _ + _ * 0 ≤ _
          omega
        · rw [List.length_map, List.length_range]
          show _ < 16777216
          omega
        · refine ⟨same_put (sm.trans (same_new hq)) hD, ?_⟩
          rw [upd_same, join_signs, List.range_succ, List.map_append]
          rfl
      · rintro H6 ⟨sm, hD6⟩
        rw [Int.toNat_natCast] at hD6
        refine k _ D h w _ goal (fun c hc => ?_) ?_ (R5.same sm) (b5.trans (.same sm))
        · rw [show (chunk h w cs).flatten = cs by rw [chunk_flat, ← hcs, List.take_length]] at hc
          have := La'.ab c hc
          omega
        rw [hD6]
        unfold rowV chunk
        rw [List.map_map]
        rfl
theorem ok_rw {f : Addr} {fd : FuncData} (F : Fun K "_law_rows" "_law_rows" sLawRows f fd) (T : TxtW K mg) (L : TxtL K mg) (GT : FnOk P w K mg base CX0 1 fT fdT ["_law_row", "_law_many"] (spTk K a ns)) (kT : PySem.W.keepIn K (.ref fT) = true) (bT : Binds K fdT ["_law_row", "_law_many"] []) (mT : mg "_law_taken" = some (.ref fT)) :
    FnOk P w K mg base CX0 2 f fd ["_law_row", "_law_most"] (spRw K a ns) := (ok_rwN F T L GT kT bT mT).imp fun vs H Q E ⟨r, m, e, hR, hm, k⟩ => ⟨r, m, e, hR, hm, fun H' l h w g hV _ => k H' l h w g hV⟩
end
end TK
end
section
set_option Elab.async false
set_option maxRecDepth 100000
set_option linter.all false
namespace TK
open PySem L2 TM
open PySem.Spec PyProof.Rows TH
theorem op_twoN {X : Cx} {CX : CXT} {j n : Nat} {C D g : Addr} {sp : Sp} {E : XK} {op : Operator} (hCD : C ≠ D) (hc : PySem.W.selfFirst X.K C = true) (N : NoOp X.K D op.info.2) (hs : PySem.W.findIn X.K (.ref C) (PySem.dunder op.info.2) = some (some (.ref g))) (hf : PySem.W.isFn X.K (.ref g) = true)
    (F : FnRn n X.prog X.w X.K X.mg X.base CX j g sp) (hr : Room j X.A) (hx : Passes CX X E) : OpRn n X (binaryOp op) (rTwo C D sp E) := by
  intro pins s σ H x y v u Q hn I rx ry h
  obtain ⟨a, dx, fs, b, dy, gs, rfl, rfl, ha, hb, q⟩ := h
  cases (show v = Value.ref a from rx)
  cases (show u = Value.ref b from ry)
  obtain ⟨mA, O, _⟩ := ins_get I.hok ha
  obtain ⟨od, J, _⟩ := O.look
  obtain ⟨mB, O', _⟩ := ins_get I.hok hb
  obtain ⟨od', J', _⟩ := O'.look
  refine binop_two I.kIn J J'.type hCD hc N hs hf ?_
  refine wpAny_mono (wpAny_call (run_fnRn (us := [.ref a, .ref b]) (vs := [.ref a, .ref b]) hn F hr hx I (.cons rfl (.cons rfl .nil)) q)) (fun w s' z => ?_) fun _ _ x => x
  obtain ⟨z', H', I', rz, qz⟩ := z
  exact SlX.cmpback rz ⟨z', H', I', rz, qz⟩
abbrev rowD (g : Grid) : List PyData := g.map fun r => PyData.str (S r)
theorem row_all {K : PySem.W.Frag} {H : Hp} : ∀ g : Grid, DpAll K H (rowV g) (rowD g)
  | [] => .nil
  | _ :: g => .cons (.str _) (row_all g)
theorem row_depth : ∀ g : Grid, PyData.depthAll (rowD g) = 0
  | [] => rfl
  | x :: g => by
    show max (PyData.depth (.str _)) (PyData.depthAll (rowD g)) = 0
    rw [row_depth g]
    rfl
theorem row_lay : ∀ g : Grid, (∀ r ∈ g, ∀ c ∈ r, Cell c) → PyData.canLayAll0 (rowD g) = true
  | [], _ => rfl
  | x :: g, h => by
    show (PyData.canLay0 (.str (S x)) && PyData.canLayAll0 (rowD g)) = true
    rw [row_lay g fun r hr => h r (List.mem_cons_of_mem _ hr), Bool.and_true]
    show (S x).cps.all (· < 0x110000) = true
    rw [← Array.all_toList]
    refine List.all_eq_true.mpr fun c hc => ?_
    have := h x List.mem_cons_self c hc
    unfold Cell at this
    exact decide_eq_true (by omega)
theorem row_shaped {n m : Nat} {g : Grid} (G : VG n m g) : SeqAt.shaped (.tuple (rowD g)) = true := by
  show (PyData.canLayAll0 (rowD g) && decide (PyData.depthAll (rowD g) + 1 ≤ 64)) = true
  rw [row_lay g G.ok, row_depth]
  rfl
theorem row_sum (k : Nat) : ∀ g : Grid, (∀ r ∈ g, r.length ≤ k) → ((g.map S).map (·.length)).sum ≤ g.length * k
  | [], _ => by simp
  | x :: g, h => by
    have h1 := row_sum k g fun r hr => h r (List.mem_cons_of_mem _ hr)
    have h2 := h x List.mem_cons_self
    rw [List.map_cons, List.map_cons, List.sum_cons, S_len, List.length_cons, Nat.succ_mul]
    omega
end TK
end
section
set_option Elab.async false
set_option maxRecDepth 100000
set_option linter.all false
namespace TP
open PySem L2 TM TK TH
open PySem.Spec PyProof.Rows
def srt (l : List Nat) : List Nat := l.mergeSort (fun a b => decide (a ≤ b))
theorem srt_perm (l : List Nat) : (srt l).Perm l := List.mergeSort_perm _ _
theorem srt_up (l : List Nat) : (srt l).Pairwise (· ≤ ·) := by
  have := List.pairwise_mergeSort (le := fun a b : Nat => decide (a ≤ b)) (fun a b c h1 h2 => by simp at *; omega) (fun a b => by simp; omega) l
  exact this.imp fun h => by simpa using h
theorem rise : ∀ (zs : List Nat) (p : Nat), risingS (S [p]) (zs.map fun c => S [c]) = true → (p :: zs).Pairwise (· ≤ ·)
  | [], p, _ => by simp
  | x :: r, p, h => by
    have h' : (!ltCps [x] [p] && risingS (S [x]) (r.map fun c => S [c])) = true := h
    rw [Bool.and_eq_true] at h'
    have hpx : p ≤ x := by
      have := h'.1
      simp [ltCps] at this
      omega
    have ih := rise r x h'.2
    refine List.pairwise_cons.mpr ⟨fun y hy => ?_, ih⟩
    rcases List.mem_cons.mp hy with e | e
    · omega
    · have := (List.pairwise_cons.mp ih).1 y e
      omega
theorem sort_uniq {ys : List Str} {l : List Nat} (p : ys.Perm (l.map fun c => S [c])) (s : sortedS ys = true) : ys = (srt l).map fun c => S [c] := by
  obtain ⟨zs, rfl⟩ : ∃ zs : List Nat, ys = zs.map fun c => S [c] := by
    have : ∀ y ∈ ys, ∃ c, y = S [c] := fun y hy => by
      obtain ⟨c, _, rfl⟩ := List.mem_map.mp (p.mem_iff.mp hy)
      exact ⟨c, rfl⟩
    clear p s
    induction ys with
    | nil => exact ⟨[], rfl⟩
    | cons y ys ih =>
      obtain ⟨c, rfl⟩ := this y List.mem_cons_self
      obtain ⟨zs, rfl⟩ := ih fun y hy => this y (List.mem_cons_of_mem _ hy)
      exact ⟨c :: zs, rfl⟩
  have pz : zs.Perm l := by
    have := p.map fun y : Str => y.cps.getD 0 0
    have e : ((fun y : Str => y.cps.getD 0 0) ∘ fun c : Nat => S [c]) = id := funext fun c => rfl
    rw [List.map_map, List.map_map, e, List.map_id, List.map_id] at this
    exact this
  have up : zs.Pairwise (· ≤ ·) := by
    cases zs with
    | nil => exact List.Pairwise.nil
    | cons z zs => exact rise zs z s
  have : zs = srt l := List.Perm.eq_of_pairwise (le := (· ≤ ·)) (fun a b _ _ h1 h2 => by omega) up (srt_up l) (pz.trans (srt_perm l).symm)
  rw [this]
section
variable {P : Program} {w : World} {K : PySem.W.Frag} {mg : Str → Option Value} {base : Heap} {D : Addr} {t0 : Tok}
structure TxtM (K : PySem.W.Frag) (mg : Str → Option Value) : Prop where
  em : ∃ u, mg "EMPTY" = some u ∧ RelV (.str (S [46])) u
  srt : mg "sorted" = none
  len : mg "len" = none
abbrev NMb : List Str := ["self", "row", "cell"]
theorem scMb : FnScope NMb ["self"] (defScope sTrayMarbles) := ⟨rfl, rfl, rfl, by decide +kernel, rfl, by decide +kernel, by decide +kernel⟩
def spMb (K : PySem.W.Frag) (D : Addr) : Sp := fun vs H Q _ => ∃ (p : Addr) (h w : Nat) (g : Grid), vs = [.ref p] ∧ TrayAt K D H p g ∧ VG h w g ∧ ∀ H', Same H H' → Q (.str (S (srt (mb g.flatten)))) H'
theorem nodup_le : ∀ (n : Nat) (l : List Nat), l.Nodup → (∀ c ∈ l, 97 ≤ c ∧ c < 97 + n) → l.length ≤ n
  | 0, l, _, h => by
    cases l with
    | nil => exact Nat.le_refl _
    | cons c l =>
      have := h c List.mem_cons_self
      omega
  | n + 1, l, nd, h => by
    by_cases q : (97 + n) ∈ l
    · have e := List.length_erase_of_mem q
      have ih := nodup_le n (l.erase (97 + n)) (nd.erase _) fun c hc => by
        have := (List.Nodup.mem_erase_iff nd).mp hc
        have h2 := h c this.2
        have := this.1
        omega
      omega
    · have ih := nodup_le n l nd fun c hc => by
        have h2 := h c hc
        have : c ≠ 97 + n := fun z => q (by rw [← z]; exact hc)
        omega
      omega
theorem mb_26 {h w : Nat} {g : Grid} (V : VG h w g) : (mb g.flatten).length ≤ 26 := by
  have sub : ∀ c ∈ mb g.flatten, 97 ≤ c ∧ c < 123 := fun c hc => by
    have := List.mem_filter.mp hc
    obtain ⟨r, hr, hcr⟩ := List.mem_flatten.mp this.1
    have h2 := V.ok r hr c hcr
    rcases h2 with h2 | h2
    · subst h2; simp at this
    · exact ⟨by omega, by omega⟩
  exact nodup_le 26 _ V.nd sub
theorem ok_mb {f : Addr} {fd : FuncData} (F : Fun K "marbles" "Tray.marbles" sTrayMarbles f fd) (T : TxtM K mg) (CT : ClsT K mg D) : FnOk P w K mg base CX0 1 f fd ["self"] (spMb K D) := by
  refine F.ok scMb (fun vs H Q E h => ?_) (fun cdv A outer s H vs Q E hr h => ?_)
  · obtain ⟨p, h, w, g, rfl, _⟩ := h
    rfl
  · obtain ⟨p, h, w, g, rfl, ⟨dx, a, hp, hS⟩, hV, k⟩ := h
    have nd := scMb.nd
    refine ⟨_, pss_one (ps_ret (pe_join pe_str (pe_callB cr_sortedS (by rfl) T.srt (by decide +kernel) (pa_cons (pe_lc2 (own := [("row", 1), ("cell", 2)]) (vs1 := [2]) (g := gName 1) (g1 := gName 2) (tt := tYes) rfl nd (pi_tup (pe_fld (pv 0) rfl)) (blkOk_by (N := NMb) (sc := defScope sTrayMarbles) (by decide +kernel)) (by decide)
      (fun _ _ _ _ _ => pg_name (i := 1) nd rfl (.inl rfl)) (fun _ _ _ _ _ => pts_nil) (fun _ _ _ _ _ => pi_str (pv 1)) (fun _ _ _ _ _ => pg_name (i := 2) nd rfl (.inl rfl)) (fun _ _ _ _ _ => pts_one (pt_cmpR op_ne (pv 2) (C8.pe_gc rfl T.em) (nomark _))) (fun _ _ _ _ _ => pv 2)) pa_nil)))), ?_⟩
    refine ⟨⟨_, rfl⟩, _, rfl, p, D, dx, _, _, rfl, hp, CT.cl, CT.nR, rfl, a, rfl, ⟨_, hS⟩, fun E2 hE2 => lc2_it walk_tup (fun i H1 => Same H H1 ∧ H1 E2 = some (.lst ((mb (g.take i).flatten).map sg)))
      ⟨same_new hE2, upd_same⟩ (fun i H1 _ ⟨sm, _⟩ => sm.tup hS) ?_ ?_⟩
    · rintro i x Hz H1 hi ⟨sm, hL⟩ ⟨rfl, hx⟩
      obtain ⟨r, hri, rfl⟩ := at_map hx
      have et : ((g.take (i + 1)).flatten) = (g.take i).flatten ++ r := by
        rw [List.take_add_one, hri, List.flatten_append]
        simp
      refine ⟨rfl, _, rfl, S r, rfl, in_it (walk_str (z := S r)) (fun j H2 => Same H H2 ∧ H2 E2 = some (.lst ((mb (g.take i).flatten ++ mb (r.take j)).map sg))) ⟨sm, by rw [hL]; simp [mb]⟩ (fun _ _ _ _ => True.intro) ?_ ?_⟩
      · rintro j x Hz H2 hj ⟨sm2, hL2⟩ ⟨rfl, c, hc, rfl⟩
        rw [S_at] at hc
        have et2 : mb (r.take (j + 1)) = mb (r.take j) ++ if c = 46 then [] else [c] := by
          rw [List.take_add_one, hc]
          show mb (r.take j ++ [c]) = _
          rw [mb_app]
          by_cases q : c = 46
          · subst q; rfl
          · rw [if_neg q]; simp [mb, q]
        have hlen : (mb (g.take i).flatten ++ mb (r.take j)).length ≤ 1000 := by
          have h1 := mb_le (g.take i).flatten
          have h2 := mb_le (r.take j)
          have h3 : (g.take i).flatten.length ≤ g.flatten.length := by
            have : (g.take i).flatten ++ (g.drop i).flatten = g.flatten := by rw [← List.flatten_append, List.take_append_drop]
            rw [← this, List.length_append]
            omega
          have h4 : g.flatten.length = h * w := by
            rw [List.length_flatten]
            have : g.map List.length = List.replicate h w := List.eq_replicate_iff.mpr ⟨by rw [List.length_map]; exact hV.rc.1, fun x hx => by
              obtain ⟨l, hl, rfl⟩ := List.mem_map.mp hx
              exact hV.rc.2 l hl⟩
            rw [this]
            simp
          have h5 : h * w ≤ 64 := Nat.mul_le_mul hV.n8 hV.m8
          have h6 := hV.row (List.mem_of_getElem? hri)
          rw [List.length_take] at h2
          rw [List.length_append]
          omega
        refine ⟨rfl, _, rfl, rfl, _, rfl, ?_⟩
        rw [show (!decide (V.str (⟨#[c]⟩ : Str) = V.str (S [46]))) = !(c == 46) from congrArg _ (dL c 46)]
        by_cases q : c = 46
        · rw [beq_iff_eq.mpr q]
          refine iteF ⟨sm2, ?_⟩
          rw [hL2, et2, if_pos q, List.append_nil]
        · rw [beq_eq_false_iff_ne.mpr q]
          refine iteT ⟨_, rfl, _, hL2, ?_, same_put sm2 hE2, ?_⟩
          · rw [List.length_map]
            show _ < 16777216
            omega
          · rw [upd_same, et2, if_neg q, ← List.append_assoc, List.map_append (l₂ := [c])]
            rfl
      · rintro H2 ⟨sm2, hL2⟩
        rw [S_size, List.take_length] at hL2
        refine ⟨sm2, ?_⟩
        rw [hL2, et, mb_app]
    · rintro H1 ⟨sm, hL⟩
      rw [List.length_map, List.take_length] at hL
      have h26 := mb_26 hV
      refine ⟨E2, (mb g.flatten).map fun c => S [c], rfl, ?_, ?_, fun ys z pm st hz => ?_⟩
      · rw [List.map_map]
        exact SqL.of hL
      · rw [List.length_map]
        omega
      · have e := sort_uniq pm st
        subst e
        have l26 : (srt (mb g.flatten)).length ≤ 26 := by rw [(srt_perm _).length_eq]; exact h26
        refine ⟨_, z, (srt (mb g.flatten)).map fun c => S [c], rfl, rfl, .inl (SqL.of upd_same), ?_, ?_⟩
        · rw [sum_ones, List.length_map]
          show _ + _ * 0 ≤ _
          omega
        · rw [join_signs]
          exact k _ (sm.trans (same_new hz))
theorem scHt : FnScope ["self"] ["self"] (defScope sTrayHeight) := ⟨rfl, rfl, rfl, by decide +kernel, rfl, by decide +kernel, by decide +kernel⟩
theorem scWd : FnScope ["self"] ["self"] (defScope sTrayWidth) := ⟨rfl, rfl, rfl, by decide +kernel, rfl, by decide +kernel, by decide +kernel⟩
def spHt (K : PySem.W.Frag) (D : Addr) : Sp := fun vs H Q _ => ∃ (p : Addr) (h w : Nat) (g : Grid), vs = [.ref p] ∧ TrayAt K D H p g ∧ VG h w g ∧ Q (.int (h : Nat)) H
def spWd (K : PySem.W.Frag) (D : Addr) : Sp := fun vs H Q _ => ∃ (p : Addr) (h w : Nat) (g : Grid), vs = [.ref p] ∧ TrayAt K D H p g ∧ VG h w g ∧ Q (.int (w : Nat)) H
theorem row0 {h w : Nat} {g : Grid} (G : VG h w g) : ∃ r0, atI (rowV g) ((0 : Nat) : Int) = some (V.str (S r0)) ∧ r0.length = w ∧ r0 ∈ g := by
  have hg : 0 < g.length := by rw [G.rc.1]; exact G.n1
  have e : g[0]? = some g[0] := List.getElem?_eq_getElem hg
  exact ⟨g[0], atI_nat (by rw [List.getElem?_map, e]; all_goals rfl), G.rc.2 _ (List.getElem_mem hg), List.getElem_mem hg⟩
theorem ok_ht {f : Addr} {fd : FuncData} (F : Fun K "height" "Tray.height" sTrayHeight f fd) (T : TxtM K mg) (CT : ClsT K mg D) : FnOk P w K mg base CX0 1 f fd ["self"] (spHt K D) := by
  refine F.ok scHt (fun vs H Q E h => ?_) (fun cdv A outer s H vs Q E hr h => ?_)
  · obtain ⟨p, h, w, g, rfl, _⟩ := h
    rfl
  · obtain ⟨p, h, w, g, rfl, ⟨dx, a, hp, hS⟩, hV, k⟩ := h
    refine ⟨_, pss_one (ps_ret (pe_callB call_len_seq (by rfl) T.len PySem.boot_len (pa_cons (pe_fld (pv 0) rfl) pa_nil))), ?_⟩
    refine ⟨_, rfl, p, D, dx, _, _, rfl, hp, CT.cl, CT.nR, rfl, a, _, rfl, .inr hS, ?_⟩
    rw [List.length_map, hV.rc.1]
    exact k
theorem ok_wd {f : Addr} {fd : FuncData} (F : Fun K "width" "Tray.width" sTrayWidth f fd) (T : TxtM K mg) (CT : ClsT K mg D) : FnOk P w K mg base CX0 1 f fd ["self"] (spWd K D) := by
  refine F.ok scWd (fun vs H Q E h => ?_) (fun cdv A outer s H vs Q E hr h => ?_)
  · obtain ⟨p, h, w, g, rfl, _⟩ := h
    rfl
  · obtain ⟨p, h, w, g, rfl, ⟨dx, a, hp, hS⟩, hV, k⟩ := h
    obtain ⟨r0, e0, l0, m0⟩ := row0 hV
    refine ⟨_, pss_one (ps_ret (pe_callB call_len_str (by rfl) T.len PySem.boot_len (pa_cons (pe_ix ix_tup (pe_fld (pv 0) rfl) pe_int (fun _ _ => rfl)) pa_nil))), ?_⟩
    have := hV.row m0
    refine ⟨_, rfl, p, D, dx, _, _, rfl, hp, CT.cl, CT.nR, rfl, a, _, _, _, rfl, rfl, hS, e0, _, rfl, by rw [S_len]; show _ ≤ 16777216; omega, ?_⟩
    rw [S_len, l0]
    exact k
end
end TP
end
section
set_option Elab.async false
set_option maxRecDepth 100000
set_option linter.all false
namespace TX
open PySem PySem.Spec PyProof.Rows L2
section
variable {X : Cx} {pins : List (Addr × Obj)} {σ : L2.St} {H : Hp} {s : Shared} {A : Around} {E : Value → Shared → Prop}
/-- the bound ValueError.__init__ is called -/
theorem mw_call {u a C : Addr} {us : List Value} {Q : Value → Shared → Prop} (T : OexC X.K C) (I : Inv X pins σ H s) (e : H a = some (exo a C none)) (hu : s.heap.get? u = some (PySem.W.kxs_mw "ValueError.__init__" a)) (hl : us.length ≤ sizeLine)
    (h : ∀ s', Inv X pins σ H s' → Q .none s') : wpAny (model X.prog X.w) A (call (.ref u) us) Q E s := by
  obtain ⟨nm, q, N, bs, bm, sn, sub, ab, col, dd, k0, k1, k2, k3, k5, hC, hbm⟩ := T.cls
  obtain ⟨t1, ho⟩ := exo_at I.hok e
  have hC := I.kIn _ _ hC
  obtain ⟨hp, g, d, t, os⟩ := s
  refine wpAny_call (codeAny_of_tree ?_)
  show wpAny _ A.in1 (callAny (.ref u) ⟨us, []⟩) _ _ _
  simp only [callAny]
  refine wpAny_bind (wpAny_load hu ?_)
  simp only [PySem.W.kxs_mw, show (Value.type "method-wrapper" == Value.type "method" || Value.type "method-wrapper" == Value.type "builtin_function_or_method" || Value.type "method-wrapper" == Value.type "method-wrapper") = true from by decide, if_true]
  refine PySem.W.KFB.if_so (by decide) ?_
  refine wpAny_bind (PySem.W.check_bound_init F.excBase_ValueError.toExcCallFacts hC ho rfl ?_)
  refine wpAny_bind (wpAny_pure (wpAny_pure ?_))
  refine ⟨plainId_quiet F.excBase_ValueError.init.plain _, ?_⟩
  refine codeAny_builtin F.excBase_ValueError.initEntry ?_
  refine PySem.W.exc_init_tree (cls := .ref C) (t0 := t1) (dv := none) (c2 := .none) (c3 := .none) (b4 := .bool false) ho hl fun h' k hx _ => ?_
  have J := I.write (t' := t) (x := a) (e := a) (o := exo a C none) (by rw [e]; exact True.intro) (.inl rfl) k ⟨_, hx⟩ (exo_ok hx)
  have eu : upd H a (exo a C none) = H := by
    funext b
    by_cases hb : b = a
    · rw [hb, upd_same, e]
    · rw [upd_ne hb]
  rw [eu] at J
  exact h _ J
end
/-- what is written of an __init__ at f that says super().__init__(..): its class at C, its cell at cc, its code at cda -/
structure SupI (P : Program) (K : PySem.W.Frag) (C f cc cda : Addr) (fd : FuncData) (ar : Arg) : Prop where
  fn : ∃ oc od osl, K.lookup f = some ⟨oc, od, .func fd, osl⟩
  hd : (fd.params.posonlyargs ++ fd.params.args).head? = some ar
  code : ∃ ccl cdd vs ccs file tf, K.lookup cda = some ⟨ccl, cdd, .fields vs, ccs⟩ ∧ vs[2]? = some (.str file tf) ∧ ((P.main.file : Str) == file) = true
  cell : ∃ cl cld csl, K.lookup cc = some ⟨cl, cld, .cell (some (.ref C)), csl⟩
  sub : PySem.W.mroIn K C (.ref C) = some true
  sup : PySem.W.ks_superIn K C C "__init__" = some (some (.builtin "ValueError.__init__"))
  ve : PySem.W.subIn K (.ref C) (.type "ValueError") = some true
  op : PySem.W.nsIn K cStatics "thirdparty.any" = some none
  top : (P.main.scope.names.lookup ("super" : Str)).isSome = false
section
variable {X : Cx} {pins : List (Addr × Obj)} {σ : L2.St} {H : Hp} {s : Shared}
theorem super_stmt {a C f cc cda : Addr} {fd : FuncData} {ar : Arg} {arg : Expr} {body : List Stmt} {t : TA} {p0 p1 apos pos spos : Pos} {Qn : Hp → Prop} {pl : Sem Bool} (S : SupI X.prog X.K C f cc cda fd ar) (T : OexC X.K C) (hm : X.mg "super" = none)
    (hfu : X.env.func = some f) (hco : X.env.code = .ref cda) (hce : X.env.cells.lookup ("__class__" : Str) = some cc) (hks : X.env.scope.names.lookup ("super" : Str) = some .globalImplicit) (hkc : X.env.scope.names.lookup ("__class__" : Str) = some .free) (hka : X.env.scope.names.lookup ar.arg = some .local) (hN : X.N[0]? = some ar.arg)
    (hc : eval (.Call (.Attribute (.Call (.Name "super" p0) [] [] p1) "__init__" apos) [arg] [] pos) X.env = (do
      let ov ← attributeBase (.Call (.Name "super" p0) [] [] p1) "__init__" X.env (eval (.Call (.Name "super" p0) [] [] p1) X.env)
      standAt apos.atName
      let (f, first) ← holding [ov] (getMethod ov "__init__" pl)
      callWith pos f first (backTo pos (starEach [arg] X.env)) []))
    (hsw : swapsWith (.Call (.Attribute (.Call (.Name "super" p0) [] [] p1) "__init__" apos) [arg] [] pos) none spos.line X.env = pure false)
    (hi : interactive X.env = false) (I : Inv X pins σ H s) (hσ : σ[0]? = some (some (.ref a))) (e : H a = some (exo a C none)) (ha : PA X [arg] t) (hstar : starEach [arg] X.env = [(false, eval arg X.env)])
    (ht : t σ H fun vs H1 => vs.length ≤ 1000 ∧ H1 a = some (exo a C none) ∧ Qn H1) :
    PySem.wpAt (model X.prog X.w) X.A (.func body X.env) (exec (.Expr (.Call (.Attribute (.Call (.Name "super" p0) [] [] p1) "__init__" apos) [arg] [] pos) spos) X.env) (fun fl s' => fl = .next ∧ ∃ H1, Inv X pins σ H1 s' ∧ Qn H1) X.xe s := by
  obtain ⟨oc, od, osl, hf⟩ := S.fn
  obtain ⟨ccl, cdd, vs, ccs, file, tf, hcode, hvs, hfile⟩ := S.code
  obtain ⟨cl, cld, csl, hcell⟩ := S.cell
  have hsup := S.sup
  unfold PySem.W.ks_superIn at hsup
  cases hcd : PySem.W.clsIn X.K C with
  | none => rw [hcd] at hsup; cases hsup
  | some cd =>
  rw [hcd] at hsup
  obtain ⟨t1, ho⟩ := exo_at I.hok e
  obtain ⟨mb, hb1, hb2⟩ := I.ok.mod.blt
  obtain ⟨m, hns, hloc⟩ := I.loc
  obtain ⟨u0, ru, hlook⟩ := hloc 0 ar.arg (.ref a) hN hσ (.inl hka)
  obtain rfl : u0 = Value.ref a := ru
  refine ks_wpAt_Expr_any (ks_wpAt_MethodCall ?_ hc) hi hsw
  obtain ⟨hp, g, d, tk, os⟩ := s
  have hD := hcd
  unfold PySem.W.clsIn at hD
  split at hD
  · rename_i c0 d0 cd0 sl0 hCl
    cases hD
    have hCo := I.kIn _ _ hCl
    refine ks_wpAt_super_base (f := f) (cc := cda) (ar := ar) (vs := vs) (file := file) (tf := tf) (fd := fd) hks hkc (by decide) hfu (I.kIn _ _ hf) rfl S.hd hco (I.kIn _ _ hcode) rfl hvs hfile S.top ?_
    refine PySem.W.ks_loadName_global I.ok.kind hks (Calls.loadGlobal_builtin (by rw [I.ok.glob]; exact I.ok.mod.glob.keeps I.bk) hm (by rw [I.ok.blt]; exact hb1.keeps I.bk) ((hb2 "super" (by decide)).trans (by decide +kernel)) ⟨rfl, ?_⟩)
    refine wpAny_loadName_free I.ok.kind hkc hce ⟨_, I.kIn _ _ hcell, rfl⟩ ?_
    rcases hlook with ⟨_, hv⟩ | ⟨hk, _⟩
    · refine wpAny_loadName_local I.ok.kind hka hns hv ?_
      refine ks_wpAny_isType_cls hCo rfl ⟨rfl, ?_⟩
      refine ks_wpAny_call_super hCo rfl ho rfl (fun c z => nomatch z) (PySem.W.looks_mroIn I.kIn S.sub) fun h' e1 k1 => ?_
      have I1 : Inv X pins σ H ⟨h', g, d, tk, os⟩ := I.kept (t' := tk) k1
      obtain ⟨t2, ho1⟩ := exo_at I1.hok e
      have hne : a ≠ C := fun z => by
        subst z
        rw [ho] at hCo
        cases hCo
      refine PySem.W.kxs_getMethod PySem.W.kxs_ValueError e1 (PySem.W.looks_opaque I1.kIn S.op) (l₀ := _) (fun A Q E s k q => wpAny_bind ((PySem.W.looks_clsIn I1.kIn hcd) A _ E s k (wpAny_pure q))) rfl I1.kIn hsup ((show PySem.W.InstAt h' a _ C none from ⟨ho1, rfl, rfl, True.intro⟩).type.andThen (PySem.W.looks_subIn I1.kIn S.ve)) hne (by decide) ?_
      have I2 := ClX.pin_new (a := h'.objs.size) (o := PySem.W.kxs_mw "ValueError.__init__" a) (t' := tk + 1) I1 (fun _ _ z => Heap.get?_push_of_some _ z) (Nat.le_refl _) (Heap.get?_push_size h' rfl) (fun v z => nomatch z)
      have hrun := ha.run pos _ _ σ H _ I2 ht
      rw [hstar] at hrun ⊢
      refine PySem.W.kxs_callWith (i := "ValueError.__init__") (x := a) rfl (Calls.evalArgs_plain (thn hrun fun us s3 ⟨ws, H3, I3, rv, hl, e3, q⟩ => ⟨ClX.pin_at I3, ?_⟩))
      refine mw_call T I3 e3 (ClX.pin_at I3) ?_ fun s4 I4 => ⟨rfl, H3, ClX.unpin I4, q⟩
      show us.length ≤ sizeLine
      rw [← rv.length]
      exact Nat.le_trans hl (by decide)
    · have hk' : X.env.scope.names.lookup ar.arg = some .cell ∨ X.env.scope.names.lookup ar.arg = some .free := hk
      rw [hka] at hk'
      rcases hk' with z | z <;> cases z
  · cases hD
end
end TX
end
section
set_option Elab.async false
set_option maxRecDepth 100000
set_option linter.all false
namespace TX
open PySem PySem.Spec PyProof.Rows L2 NdefX
theorem super_fn {CX : CXT} {P : Program} {w : World} {K : PySem.W.Frag} {mg : Str → Option Value} {base : Heap} {k : Nat} {f C cc cda : Addr} {name qual : Str} {params : Arguments} {body rest : List Stmt} {scope : Scope} {kV doc pm ct oc : Value} {an od : Option Addr} {osl : Array (Option Value)}
    {N ps : List Str} {sp : Sp} {ar : Arg} {arg : Expr} {p0 p1 apos pos spos : Pos}
    (lk : K.lookup f = some ⟨oc, od, .func (PySem.W.fnX name qual params body scope [("__class__", cc)] .none kV doc pm an (.ref cda) ct), osl⟩) (hcd : PySem.W.codeIn K (.ref cda) qual = true) (S : NScope N ps ["__class__"] scope)
    (U : SupI P K C f cc cda (PySem.W.fnX name qual params body scope [("__class__", cc)] .none kV doc pm an (.ref cda) ct) ar) (T : OexC K C) (hm : mg "super" = none)
    (hbd : body = .Expr (.Call (.Attribute (.Call (.Name "super" p0) [] [] p1) "__init__" apos) [arg] [] pos) spos :: rest)
    (hks : scope.names.lookup ("super" : Str) = some .globalImplicit) (hka : scope.names.lookup ar.arg = some .local) (hN : N[0]? = some ar.arg) (len : ∀ vs H Q E, sp vs H Q E → vs.length = ps.length)
    (hst : ∀ env : Env, ∀ L : Addr, env = envF ⟨name, qual, params, body, scope, [("__class__", cc)], cda⟩ f L → ∃ pl : Sem Bool, eval (.Call (.Attribute (.Call (.Name "super" p0) [] [] p1) "__init__" apos) [arg] [] pos) env = (do
      let ov ← attributeBase (.Call (.Name "super" p0) [] [] p1) "__init__" env (eval (.Call (.Name "super" p0) [] [] p1) env)
      standAt apos.atName
      let (f, first) ← holding [ov] (getMethod ov "__init__" pl)
      callWith pos f first (backTo pos (starEach [arg] env)) []) ∧ swapsWith (.Call (.Attribute (.Call (.Name "super" p0) [] [] p1) "__init__" apos) [arg] [] pos) none spos.line env = pure false ∧ interactive env = false ∧ starEach [arg] env = [(false, eval arg env)])
    (hbody : ∀ (A : Around) (outer : List Env) (s : Shared) (H : Hp) (vs : List V) (Q : VK) (E : XK), sp vs H Q E → ∃ (a : Addr) (Mid : Hp → Prop) (ta : TA) (t : TS),
      PA (ncx CX P w K mg base N ⟨name, qual, params, body, scope, [("__class__", cc)], cda⟩ f A outer s H E) [arg] ta ∧ PSs (ncx CX P w K mg base N ⟨name, qual, params, body, scope, [("__class__", cc)], cda⟩ f A outer s H E) rest t ∧
      (startF N vs [some (.ref C)])[0]? = some (some (.ref a)) ∧ H a = some (exo a C none) ∧ ta (startF N vs [some (.ref C)]) H (fun vs H1 => vs.length ≤ 1000 ∧ H1 a = some (exo a C none) ∧ Mid H1) ∧
      ∀ H1, Mid H1 → t { nx := fun _ H' => Q .non H', rt := Q } (startF N vs [some (.ref C)]) H1) :
    FnOk P w K mg base CX (k + 1) f (PySem.W.fnX name qual params body scope [("__class__", cc)] .none kV doc pm an (.ref cda) ct) ps sp := by
  refine ⟨len, fun A outer s H args us vs Q E hr e0 hb r hsp => ?_⟩
  have hl := len _ _ _ _ hsp
  have KX : K.In s.heap := e0.mod.kin.keeps fun b o e => (e0.bs b o e).1
  have lim : s.heap.NoLimit := e0.mod.nolimit.keeps fun b o e => (e0.bs b o e).1
  obtain ⟨cl, cld, csl, hcell⟩ := U.cell
  have one : ∀ {y : Str} {c : Addr}, ([("__class__", cc)] : List (Str × Addr)).lookup y = some c → y = "__class__" ∧ c = cc := fun {y c} h => by
    rw [List.lookup_cons] at h
    cases e : (y == ("__class__" : Str)) with
    | true => rw [e] at h; exact ⟨eq_of_beq e, (Option.some.inj h).symm⟩
    | false => rw [e] at h; cases h
  have cells : CellsAt [("__class__", cc)] ["__class__"] [some (.ref C)] s.heap H := by
    refine ⟨rfl, fun y c h => ?_, fun x y c h1 h2 => (one h1).1.trans (one h2).1.symm, fun i y h => ?_⟩
    · obtain ⟨rfl, rfl⟩ := one h
      exact ⟨(e0.bs _ _ (e0.mod.kin _ _ hcell)).2, _, _, KX _ _ hcell, rfl⟩
    · match i, h with
      | 0, h =>
        obtain rfl : ("__class__" : Str) = y := Option.some.inj h
        exact ⟨cc, rfl, fun v e => ⟨.ref C, by cases e; rfl, _, KX _ _ hcell, rfl⟩⟩
      | i + 1, h => cases h
  obtain ⟨a, Mid, ta, t, hA, hS, h0, ea, hta, ht⟩ := hbody A outer s H vs Q E hsp
  refine ks_codeAny_call_defAt (body := body) (binds := ps.zip us) hr.depth (KX _ _ lk) rfl lim (PySem.W.codeRec_of KX hcd) rfl hb S.nocell (fun ⟨n, _⟩ hy => S.par n (List.of_mem_zip hy).1) (fun h₁ hns kp => ?_) S.co S.gen S.kind
  have I : Inv (ncx CX P w K mg base N ⟨name, qual, params, body, scope, [("__class__", cc)], cda⟩ f A outer s H E) [] (startF N vs [some (.ref C)]) H { s with heap := h₁, toks := s.toks + (ps.zip us).length } := inv_startN S hr.hd e0 hl r cells hns kp
  obtain ⟨pl, hc, hsw, hi, hstar⟩ := hst (envF ⟨name, qual, params, body, scope, [("__class__", cc)], cda⟩ f s.heap.objs.size) _ rfl
  have fin : ∀ {σ' : L2.St} {H' : Hp} {v : V} {u : Value} {s' : Shared}, Inv (ncx CX P w K mg base N ⟨name, qual, params, body, scope, [("__class__", cc)], cda⟩ f A outer s H E) [] σ' H' s' → L2.RelV v u → Q v H' → CE outer P w H s Q u s' :=
    fun {σ' H' v u s'} J rv q => ⟨v, H', J.os, J.bare, J.base, J.hok, rv, q⟩
  have first := super_stmt (X := ncx CX P w K mg base N ⟨name, qual, params, body, scope, [("__class__", cc)], cda⟩ f A outer s H E) (body := body) (Qn := Mid) U T hm rfl rfl rfl hks (S.frk _ (by simp)) hka hN hc hsw hi I h0 ea hA hstar hta
  subst hbd
  refine ks_wpAt_execs_cons (ks_wpAt_mono first (fun fl s1 ⟨e, H1, I1, q1⟩ => ?_) fun _ _ z => z)
  subst e
  refine wpAt_of_wpAny (wpAny_mono (hS.run [] s1 _ H1 _ I1 (ht H1 q1)) (fun fl s' hs => ?_) fun _ _ z => z)
  cases fl with
  | ret u =>
    obtain ⟨v, σ', H', J, rv, q⟩ := hs
    exact fin J rv q
  | next =>
    obtain ⟨σ', H', J, q⟩ := hs
    exact fin (v := V.non) (u := Value.none) J rfl q
  | brk =>
    obtain ⟨_, _, _, q⟩ := hs
    exact False.elim q
  | cont =>
    obtain ⟨_, _, _, q⟩ := hs
    exact False.elim q
end TX
end
section
set_option Elab.async false
set_option maxRecDepth 100000
set_option linter.all false
namespace TX
open PySem PySem.Spec PyProof.Rows L2 NdefX TK
section
variable {CX : CXT} {P : Program} {w : World} {K : PySem.W.Frag} {mg : Str → Option Value} {base : Heap} {f C cc cda : Addr} {kV doc pm ct oc : Value} {an od : Option Addr} {osl : Array (Option Value)} {ar : Arg}
def spUm (C : Addr) : Sp := fun vs H Q _ => ∃ (a : Addr) (v : V), vs = [.ref a, v] ∧ H a = some (exo a C none) ∧ ∀ dx, H dx = none → dx ≠ a → Q .non (upd (upd H dx (exd dx [("marble", v)])) a (exo a C (some dx)))
theorem scUm : NScope ["self", "marble", "__class__"] ["self", "marble"] ["__class__"] (defScope sUnknownMarbleInit) := nscope_by (by decide +kernel)
theorem ok_um (lk : K.lookup f = some ⟨oc, od, .func (PySem.W.fnX "__init__" "UnknownMarble.__init__" (defArgs sUnknownMarbleInit) (defBody sUnknownMarbleInit) (defScope sUnknownMarbleInit) [("__class__", cc)] .none kV doc pm an (.ref cda) ct), osl⟩) (hcd : PySem.W.codeIn K (.ref cda) "UnknownMarble.__init__" = true)
    (U : SupI P K C f cc cda (PySem.W.fnX "__init__" "UnknownMarble.__init__" (defArgs sUnknownMarbleInit) (defBody sUnknownMarbleInit) (defScope sUnknownMarbleInit) [("__class__", cc)] .none kV doc pm an (.ref cda) ct) ar) (har : ar.arg = "self") (T : OexC K C) (hm : mg "super" = none) (hno : PySem.W.findIn K (.ref C) "marble" = some none) :
    FnOk P w K mg base CX 1 f (PySem.W.fnX "__init__" "UnknownMarble.__init__" (defArgs sUnknownMarbleInit) (defBody sUnknownMarbleInit) (defScope sUnknownMarbleInit) [("__class__", cc)] .none kV doc pm an (.ref cda) ct) ["self", "marble"] (spUm C) := by
  refine super_fn (N := ["self", "marble", "__class__"]) (k := 0) lk hcd scUm U T hm rfl (by decide +kernel) (by rw [har]; decide +kernel) (by rw [har]; rfl) (fun vs H Q E h => ?_) (fun env L he => ?_) fun A outer s H vs Q E h => ?_
  · obtain ⟨a, v, rfl, _⟩ := h
    rfl
  · subst he
    exact ⟨_, rfl, rfl, rfl, rfl⟩
  · obtain ⟨a, v, rfl, e, k⟩ := h
    refine ⟨a, fun H1 => H1 = H, _, _, pa_cons pe_str pa_nil, pss_one (ps_ost (pv 0) (pv 1)), rfl, e, ?_, ?_⟩
    · exact ⟨by show 1 ≤ 1000; decide, e, rfl⟩
    · rintro H1 rfl
      exact ⟨_, rfl, _, rfl, a, C, rfl, T, hno, .inl ⟨e, k⟩⟩
end
end TX
end
section
set_option Elab.async false
set_option maxRecDepth 100000
set_option linter.all false
namespace TK
open PySem L2 TM
open TX
section
variable {P : Program} {w : World} {K : PySem.W.Frag} {mg : Str → Option Value} {base : Heap} {C fT : Addr} {fdT : FuncData}
/-- a value that is no text -/
def NoText (K : PySem.W.Frag) (H : Hp) (x : V) : Prop := ∃ ty, TyX K H x (.type ty) ∧ kitB ty "str" = some false
/-- what is written of an exception class of the program -/
structure ExcT (K : PySem.W.Frag) (mg : Str → Option Value) (x : Str) (CE fE : Addr) : Prop where
  ox : OexC K CE
  mgE : mg x = some (.ref CE)
  iE : PySem.W.findIn K (.ref CE) "__init__" = some (some (.ref fE))
  tE : PySem.W.typeIn K (.ref fE) = some (.type "function")
end
end TK
end
namespace TX
end TX
namespace TA
end TA
section
set_option Elab.async false
set_option maxRecDepth 100000
set_option linter.all false
namespace TA
open TK
open PySem PySem.Spec PyProof.Rows L2
/-- a sequence at a: a list, a tuple -/
inductive Sq (K : PySem.W.Frag) (H : Hp) (a : Addr) (xs : List V) : Bool → Prop where
  | lst (h : SqL K H a xs) : Sq K H a xs false
  | tup (h : SqT K H a xs) : Sq K H a xs true
def tyN (t : Bool) : String := if t then "tuple" else "list"
theorem sq_ty {K : PySem.W.Frag} {H : Hp} {a : Addr} {xs : List V} {t : Bool} (h : Sq K H a xs t) : TyX K H (.ref a) (.type (tyN t)) := by
  cases h with
  | lst h =>
    rcases h with (h | ⟨o, h⟩) | ⟨o, its, n, h, c, _⟩
    · exact .base (.lst h)
    · exact .base (.frz h)
    · exact .kList h c
  | tup h =>
    rcases h with (h | ⟨o, h⟩) | ⟨o, its, n, h, c, _⟩
    · exact .base (.tup h)
    · exact .fTuple h
    · exact .kTuple h c
theorem tup_kit (t : Bool) : kitB (tyN t) "tuple" = some t := by
  cases t <;> decide +kernel
section
variable {P : Program} {w : World} {K : PySem.W.Frag} {mg : Str → Option Value} {base : Heap}
end
end TA
end
section
set_option Elab.async false
set_option maxRecDepth 100000
set_option maxHeartbeats 4000000
set_option linter.all false
namespace TB
open PySem PySem.Spec PyProof.Rows L2
section
variable {X : Cx} {CX : CXT} {n : Nat} {C g : Addr} {sp : Sp} {E : XK}
/-- y in x -/
def rInOwn (C : Addr) (sp : Sp) (E : XK) : R2 := fun y x H Q => ∃ a dx fs, x = .ref a ∧ H a = some (.ins C dx fs) ∧ sp [.ref a, y] H (fun z H' => ∃ b, z = .bl b ∧ Q z H') E
theorem op_inOwn (hs : PySem.W.findIn X.K (.ref C) "__contains__" = some (some (.ref g))) (hf : PySem.W.isFn X.K (.ref g) = true) (F : FnR X.prog X.w X.K X.mg X.base CX n g sp) (hr : Room n X.A) (hx : Passes CX X E) : OpR X (compareOp .In) (rInOwn C sp E) := by
  intro pins s σ H y x u v Q I ry rx h
  obtain ⟨a, dx, fs, rfl, ha, q⟩ := h
  cases (show v = Value.ref a from rx)
  obtain ⟨mA, O, _⟩ := ins_get I.hok ha
  obtain ⟨od, J, _⟩ := O.look
  obtain ⟨m, hF⟩ := I.fr
  refine PySem.W.in_K hF I.ok.mod.kin J hs hf (wpAny_mono (wpAny_call (SlX.run_at (us := [.ref a, u]) (ws := [.ref a, y]) F hr I.env0 hx I (.cons rfl (.cons ry .nil)) q)) (fun w s' z => ?_) fun _ _ x => x)
  obtain ⟨z', H', I', rz, b, rfl, qz⟩ := z
  obtain rfl : w = Value.bool b := rz
  exact wpAny_truthy_bool ⟨.bl b, H', I', rfl, qz⟩
/-- a op y, y an instance of the class at C or a value of the built-in type T -/
def rCmpOwn (K : PySem.W.Frag) (C : Addr) (sp : Sp) (E : XK) : R2 := fun x y H Q => ∃ a dx fs, x = .ref a ∧ H a = some (.ins C dx fs) ∧
  ((∃ b dy gs, y = .ref b ∧ H b = some (.ins C dy gs)) ∨ ∃ T, (∀ u, RelV y u → typeOf u = pure (.type T)) ∧ PySem.W.notFirst K C (.type T) = true) ∧ sp [x, y] H Q E
theorem op_cmpOwn {op : CmpOp} (hop : ∀ a b, compareOp op a b = richCompare op a b) (hs : PySem.W.findIn X.K (.ref C) (cmpInfo op).2.1 = some (some (.ref g))) (hf : PySem.W.isFn X.K (.ref g) = true) (F : FnR X.prog X.w X.K X.mg X.base CX n g sp)
    (hr : Room n X.A) (hx : Passes CX X E) : OpR X (compareOp op) (rCmpOwn X.K C sp E) := by
  intro pins s σ H x y v u Q I rx ry h
  obtain ⟨a, dx, fs, rfl, ha, hy, q⟩ := h
  cases (show v = Value.ref a from rx)
  obtain ⟨mA, O, _⟩ := ins_get I.hok ha
  obtain ⟨od, J, _⟩ := O.look
  obtain ⟨m, hF⟩ := I.fr
  obtain ⟨tb, hb, hn⟩ : ∃ tb, PySem.W.Looks (model X.prog X.w) s.heap (typeOf u) tb ∧ PySem.W.notFirst X.K C tb = true := by
    rcases hy with ⟨b, dy, gs, rfl, hb⟩ | ⟨T, ht, hn⟩
    · cases (show u = Value.ref b from ry)
      obtain ⟨mB, O', _⟩ := ins_get I.hok hb
      obtain ⟨od', J', _⟩ := O'.look
      exact ⟨.ref C, J'.type, by simp [PySem.W.notFirst]⟩
    · exact ⟨.type T, PySem.W.Looks.of_pure (ht _ ry), hn⟩
  rw [hop]
  refine PySem.W.cmp_K (op := op) (tb := tb) hr.units0 hF I.ok.mod.kin J hb hn hs hf ?_
  refine wpAny_mono (wpAny_call (run_fnR (us := [.ref a, u]) (vs := [.ref a, y]) F hr hx I (.cons rfl (.cons ry .nil)) q)) (fun w s' z => ?_) fun _ _ x => x
  obtain ⟨z', H', I', rz, qz⟩ := z
  exact SlX.cmpback rz ⟨z', H', I', rz, qz⟩
end
end TB
end
namespace TB
end TB
namespace TA
end TA
section
set_option Elab.async false
set_option maxRecDepth 100000
set_option linter.all false
namespace TA
open TK
open PySem PySem.Spec PyProof.Rows L2 LamX TX TK TM TB
def isN : V → Int → Bool
  | .int i, l => decide (0 ≤ i) && decide (i ≤ l)
  | _, _ => false
/-- what isinstance says of a value -/
structure Kn (K : PySem.W.Frag) (H : Hp) (x : V) (ty : String) (bb bi : Bool) : Prop where
  t : TyX K H x (.type ty)
  b : kitB ty "bool" = some bb
  i : kitB ty "int" = some bi
  yes : bb = false → bi = true → ∃ i, x = .int i
  no : bb = true ∨ bi = false → ∀ i, x ≠ .int i
theorem kn_int {K : PySem.W.Frag} {H : Hp} (i : Int) : Kn K H (.int i) "int" false true := ⟨.base (.int i), by decide +kernel, by decide +kernel, fun _ _ => ⟨i, rfl⟩, fun h => by rcases h with h | h <;> cases h⟩
structure TxtN (K : PySem.W.Frag) (mg : Str → Option Value) : Prop where
  isi : mg "isinstance" = none
  bool : mg "bool" = none
  int : mg "int" = none
section
variable {P : Program} {w : World} {K : PySem.W.Frag} {mg : Str → Option Value} {base : Heap} {C fT : Addr} {fdT : FuncData}
theorem scNu : FnScope ["value", "limit"] ["value", "limit"] (defScope sIsNumber) := ⟨rfl, rfl, rfl, by decide +kernel, rfl, by decide +kernel, by decide +kernel⟩
def spNum (K : PySem.W.Frag) : Sp := fun vs H Q _ => ∃ (x : V) (l : Int) (ty : String) (bb bi : Bool), vs = [x, .int l] ∧ Kn K H x ty bb bi ∧ Q (.bl (isN x l)) H
theorem ok_num {f : Addr} {fd : FuncData} (F : Fun K "is_number" "is_number" sIsNumber f fd) (T : TxtN K mg) : FnOk P w K mg base CX0 1 f fd ["value", "limit"] (spNum K) := by
  refine F.ok scNu (fun vs H Q E h => ?_) (fun cdv A outer s H vs Q E hr h => ?_)
  · obtain ⟨x, l, ty, bb, bi, rfl, _⟩ := h
    rfl
  · obtain ⟨x, l, ty, bb, bi, rfl, N, k⟩ := h
    refine ⟨_, pss_cons (ps_if (PW.pt (pw_or (pt_val (pe_callB call_isi (by rfl) T.isi (by decide +kernel) (pa_cons (pv 0) (pa_cons (pe_bltn (v := .ty "bool") (by rfl) T.bool (by decide +kernel) rfl) pa_nil))))
        (pw_or1 (pt_not (pt_val (pe_callB call_isi (by rfl) T.isi (by decide +kernel) (pa_cons (pv 0) (pa_cons (pe_bltn (v := .ty "int") (by rfl) T.int (by decide +kernel) rfl) pa_nil)))))))) (pss_one (ps_ret pe_bl)) pss_nil)
      (pss_one (ps_ret (pe_chain op_le op_le pe_int (pv 0) (pv 1)))), ?_⟩
    refine ⟨_, rfl, _, _, _, _, bb, rfl, .ty _, N.t, kit_ty N.b, bb, rfl, ?_⟩
    cases bb with
    | true =>
      refine iteT ?_
      have e : isN x l = false := by
        have h := N.no (.inl rfl)
        cases x with
        | int i => exact absurd rfl (h i)
        | _ => rfl
      rw [e] at k
      exact k
    | false =>
      refine iteF ⟨_, rfl, _, _, _, _, bi, rfl, .ty _, N.t, kit_ty N.i, bi, rfl, ?_⟩
      cases bi with
      | false =>
        refine iteT ?_
        have e : isN x l = false := by
          have h := N.no (.inr rfl)
          cases x with
          | int i => exact absurd rfl (h i)
          | _ => rfl
        rw [e] at k
        exact k
      | true =>
        obtain ⟨i, rfl⟩ := N.yes rfl rfl
        refine iteF ?_
        refine ⟨_, rfl, _, _, rfl, rfl, _, rfl, ?_⟩
        by_cases h0 : (0 : Int) ≤ i
        · rw [decide_eq_true h0]
          refine iteT ⟨_, rfl, _, _, rfl, rfl, ?_⟩
          have e : isN (.int i) l = decide (i ≤ l) := by
            show (decide (0 ≤ i) && decide (i ≤ l)) = _
            rw [decide_eq_true h0, Bool.true_and]
          rw [e] at k
          exact k
        · rw [decide_eq_false h0]
          refine iteF ?_
          have e : isN (.int i) l = false := by
            show (decide (0 ≤ i) && decide (i ≤ l)) = _
            rw [decide_eq_false h0, Bool.false_and]
          rw [e] at k
          exact k
end
end TA
end
section
set_option Elab.async false
set_option maxRecDepth 100000
set_option linter.all false
namespace TP
open PySem L2 TM TK TH TB TX
open PySem.Spec PyProof.Rows
def rNotOwn (C : Addr) (sp : Sp) (E : XK) : R2 := fun y x H Q => ∃ a dx fs, x = .ref a ∧ H a = some (.ins C dx fs) ∧ sp [.ref a, y] H (fun z H' => ∃ c, z = .bl c ∧ Q (.bl (!c)) H') E
theorem one_of {u : List Nat} (h : u.length = 1) : ∃ c, u = [c] := by
  match u, h with
  | [c], _ => exact ⟨c, rfl⟩
theorem op_notOwn {X : Cx} {CX : CXT} {n : Nat} {C g : Addr} {sp : Sp} {E : XK} (hs : PySem.W.findIn X.K (.ref C) "__contains__" = some (some (.ref g))) (hf : PySem.W.isFn X.K (.ref g) = true) (F : FnR X.prog X.w X.K X.mg X.base CX n g sp) (hr : Room n X.A) (hx : Passes CX X E) : OpR X (compareOp .NotIn) (rNotOwn C sp E) := by
  intro pins s σ H y x u v Q I ry rx h
  obtain ⟨a, dx, fs, rfl, ha, q⟩ := h
  cases (show v = Value.ref a from rx)
  obtain ⟨mA, O, _⟩ := ins_get I.hok ha
  obtain ⟨od, J, _⟩ := O.look
  obtain ⟨m, hF⟩ := I.fr
  refine PySem.W.notIn_K hF I.ok.mod.kin J hs hf (wpAny_mono (wpAny_call (SlX.run_at (us := [.ref a, u]) (ws := [.ref a, y]) F hr I.env0 hx I (.cons rfl (.cons ry .nil)) q)) (fun w s' z => ?_) fun _ _ x => x)
  obtain ⟨z', H', I', rz, b, rfl, qz⟩ := z
  obtain rfl : w = Value.bool b := rz
  exact wpAny_truthy_bool ⟨.bl (!b), H', I', rfl, qz⟩
theorem occ_at {t : List Nat} {c : Nat} (h : c ∈ t) : ∃ i rest, Builtin.Str.occurrences (S t) (S [c]) 0 (S t).length 1 = i :: rest ∧ t[i]? = some c := by
  have h1 := StrLaws.found_one (S t) c
  rw [S_list] at h1
  change (!(Builtin.Str.occurrences (S t) (S [c]) 0 (S t).length 1).isEmpty) = _ at h1
  rw [decide_eq_true h] at h1
  obtain ⟨f, hc⟩ := StrLaws.occ_chain (S t) (S [c]) 1
  cases e : Builtin.Str.occurrences (S t) (S [c]) 0 (S t).length 1 with
  | nil =>
    rw [e] at h1
    cases h1
  | cons i rest =>
    rw [e] at hc
    obtain ⟨_, ⟨h2, h3⟩, _⟩ := hc
    refine ⟨i, rest, rfl, ?_⟩
    rw [S_len, S_len] at h2
    have hi : i < t.length := by
      have : i + 1 ≤ t.length := h2
      omega
    have h4 := beq_iff_eq.mp h3
    have h5 := congrArg (fun a : Array Nat => a[0]?) h4
    simp only [Array.getElem?_extract] at h5
    rw [List.getElem?_eq_getElem hi]
    simp [S] at h5
    rw [← h5.2, List.getElem?_eq_getElem hi]
section
variable {P : Program} {w : World} {K : PySem.W.Frag} {mg : Str → Option Value} {base : Heap} {D CU fU pM gM pW gW fC : Addr} {fdM fdW fdU : FuncData}
theorem scTc : FnScope ["self", "x"] ["self", "x"] (defScope sTrayContains) := ⟨rfl, rfl, rfl, by decide +kernel, rfl, by decide +kernel, by decide +kernel⟩
def has (g : Grid) (u : List Nat) : Bool := decide (u.length = 1) && decide (u.getD 0 0 ∈ mb g.flatten)
def spTc (K : PySem.W.Frag) (D : Addr) : Sp := fun vs H Q _ => ∃ (p : Addr) (x : V) (h w : Nat) (g : Grid), vs = [.ref p, x] ∧ TrayAt K D H p g ∧ VG h w g ∧
  ((∃ u : List Nat, x = .str (S u) ∧ u.length ≤ 1000 ∧ ∀ H', Same H H' → Q (.bl (has g u)) H') ∨ (NoText K H x ∧ ∀ H', Same H H' → Q (.bl false) H'))
theorem ok_tc {f : Addr} {fd : FuncData} (F : Fun K "__contains__" "Tray.__contains__" sTrayContains f fd) (T : TxtW K mg) (CT : ClsT K mg D) (PM : PropOf K D "marbles" pM gM) (GM : FnOk P w K mg base CX0 1 gM fdM ["self"] (spMb K D)) (bM : Binds K fdM ["self"] []) :
    FnOk P w K mg base CX0 3 f fd ["self", "x"] (spTc K D) := by
  refine F.ok scTc (fun vs H Q E h => ?_) (fun cdv A outer s H vs Q E hr h => ?_)
  · obtain ⟨p, x, h, w, g, rfl, _⟩ := h
    rfl
  · obtain ⟨p, x, h, w, g, rfl, T0, hV, hx⟩ := h
    obtain ⟨dx, a, hp, hS⟩ := id T0
    refine ⟨_, pss_one (ps_ret (pe_and (pe_callB call_isi (by rfl) T.isi (by decide +kernel) (pa_cons (pv 1) (pa_cons (pe_bltn (v := .ty "str") (by rfl) T.str (by decide +kernel) rfl) pa_nil)))
      (pe_and (pe_cmpR op_eq (pe_callB call_len_str (by rfl) T.len PySem.boot_len (pa_cons (pv 1) pa_nil)) pe_int (nomark _))
        (pe_one (pe_cmpR op_in_sign (pv 1) (pe_prop (pv 0) CT.cl PM GM (hr.mono (by decide)) bM .nil pass0 rfl) (by rfl)))))), ?_⟩
    rcases hx with ⟨u, rfl, hl, k⟩ | ⟨⟨ty, hty, hk⟩, k⟩
    · refine ⟨_, rfl, _, _, _, _, true, rfl, .ty _, .base (.str _), kit_ty (by decide +kernel), true, rfl, iteT ?_⟩
      have hs : (S u).length ≤ sizeLine := by
        rw [S_len]
        show _ ≤ 16777216
        omega
      refine ⟨_, rfl, _, rfl, hs, rfl, _, rfl, ?_⟩
      by_cases h1 : u.length = 1
      · obtain ⟨c, rfl⟩ := one_of h1
        have e : decide (V.int ((S [c]).length : Nat) = V.int 1) = true := decide_eq_true (by rw [S_len]; rfl)
        rw [e]
        refine iteT ⟨_, rfl, _, rfl, p, dx, _, rfl, hp, p, h, w, g, rfl, T0, hV, fun H1 sm => ?_⟩
        refine ⟨c, _, rfl, rfl, ?_⟩
        rw [S_list]
        have k1 := k H1 sm
        have e2 : has g [c] = decide (c ∈ mb g.flatten) := rfl
        rw [e2] at k1
        rw [show decide (c ∈ srt (mb g.flatten)) = decide (c ∈ mb g.flatten) from decide_eq_decide.mpr (srt_perm _).mem_iff]
        exact k1
      · have e : decide (V.int ((S u).length : Nat) = V.int 1) = false := decide_eq_false (by
          rw [S_len]
          intro z
          injection z with z
          omega)
        rw [e]
        refine iteF ?_
        have k1 := k H (Same.refl H)
        unfold has at k1
        rw [decide_eq_false h1, Bool.false_and] at k1
        exact k1
    · exact ⟨_, rfl, _, _, _, _, false, rfl, .ty _, hty, kit_ty hk, false, rfl, iteF (k _ (Same.refl H))⟩
theorem scCl : FnScope ["self", "marble", "cells"] ["self", "marble"] (defScope sTrayCall) := ⟨rfl, rfl, rfl, by decide +kernel, rfl, by decide +kernel, by decide +kernel⟩
def spCl (K : PySem.W.Frag) (D CU : Addr) : Sp := fun vs H Q E => ∃ (p : Addr) (x : V) (h w : Nat) (g : Grid), vs = [.ref p, x] ∧ TrayAt K D H p g ∧ VG h w g ∧
  ((∃ c k : Nat, x = sg c ∧ c ≠ 46 ∧ g.flatten[k]? = some c ∧ ∀ H' q, Same H H' → H q = none → H' q = some (.tup [.int ((k : Int) / w), .int ((k : Int) % w)]) → Q (.ref q) H') ∨
    (((∃ u : List Nat, x = .str (S u) ∧ u.length ≤ 1000 ∧ has g u = false) ∨ NoText K H x) ∧ ∀ H' d, Same H H' → H d = none → H' d = some (.xd [("marble", x)]) → E (.ref CU) (some d) H'))
theorem mb_uniq {l : List Nat} (nd : (mb l).Nodup) {c i j : Nat} (hc : c ≠ 46) (hi : l[i]? = some c) (hj : l[j]? = some c) : i = j := by
  induction l generalizing i j with
  | nil => simp at hi
  | cons x l ih =>
    by_cases hx : x = 46
    · subst hx
      have e : mb (46 :: l) = mb l := by simp [mb]
      rw [e] at nd
      cases i with
      | zero => simp at hi; exact absurd hi.symm hc
      | succ i =>
        cases j with
        | zero => simp at hj; exact absurd hj.symm hc
        | succ j => rw [ih nd (i := i) (j := j) (by simpa using hi) (by simpa using hj)]
    · have e : mb (x :: l) = x :: mb l := by simp [mb, hx]
      rw [e] at nd
      have nd' := List.nodup_cons.mp nd
      have no : ∀ {k : Nat}, l[k]? = some x → False := fun {k} hk => nd'.1 (List.mem_filter.mpr ⟨List.mem_of_getElem? hk, by simp [hx]⟩)
      cases i with
      | zero =>
        simp at hi
        subst hi
        cases j with
        | zero => rfl
        | succ j => exact (no (by simpa using hj)).elim
      | succ i =>
        cases j with
        | zero =>
          simp at hj
          subst hj
          exact (no (by simpa using hi)).elim
        | succ j => rw [ih nd'.2 (i := i) (j := j) (by simpa using hi) (by simpa using hj)]
theorem flat_len {h w : Nat} {g : Grid} (R : Rect h w g) : g.flatten.length = h * w := by
  rw [List.length_flatten]
  have : g.map List.length = List.replicate h w := List.eq_replicate_iff.mpr ⟨by rw [List.length_map]; exact R.1, fun x hx => by
    obtain ⟨l, hl, rfl⟩ := List.mem_map.mp hx
    exact R.2 l hl⟩
  rw [this]
  simp
theorem join0 : ∀ g : Grid, Txt.join (S []) (g.map S) = S g.flatten := fun g => by
  rw [join_S, joinL_nil]
theorem ok_cl {f : Addr} {fd : FuncData} (F : Fun K "__call__" "Tray.__call__" sTrayCall f fd) (CT : ClsT K mg D) (dm : mg "divmod" = none)
    (hs : PySem.W.findIn K (.ref D) "__contains__" = some (some (.ref fC))) (hf : PySem.W.isFn K (.ref fC) = true) (FC : FnR P w K mg base CX0 3 fC (spTc K D))
    (PW_ : PropOf K D "width" pW gW) (GW : FnOk P w K mg base CX0 1 gW fdW ["self"] (spWd K D)) (bW : Binds K fdW ["self"] [])
    (X : ExcT K mg "UnknownMarble" CU fU) (GU : FnOk P w K mg base CX0 1 fU fdU ["self", "marble"] (spUm CU)) (bU : Binds K fdU ["self", "marble"] []) :
    FnOk P w K mg base (L2.CX P w) 4 f fd ["self", "marble"] (spCl K D CU) := by
  refine F.okX scCl (fun vs H Q E h => ?_) (fun cdv A outer s H vs Q E hr h => ?_)
  · obtain ⟨p, x, h, w, g, rfl, _⟩ := h
    rfl
  · obtain ⟨p, x, h, w, g, rfl, T0, hV, hx⟩ := h
    obtain ⟨dx, a, hp, hS⟩ := id T0
    refine ⟨_, pss_cons (ps_if (pt_cmpR (op_notOwn hs hf FC hr pass0) (pv 1) (pv 0) (by rfl)) (pss_one (ps_raise rfl (takes_of rfl rfl rfl rfl) (pmk_oex X.ox X.iE X.tE GU (hr.mono (by decide)) bU .nil pass0 rfl X.mgE (pa_cons (pv 1) pa_nil)))) pss_nil)
      (pss_cons (ps_set (i := 2) scCl.nd rfl (.inl rfl) (pe_join pe_str (pe_fld (pv 0) rfl)))
      (pss_one (ps_ret (pe_callB call_divmod (by rfl) dm (by decide +kernel) (pa_cons (pe_bm PySem.F.plainAttrs_str PySem.F.slot_str_index PySem.F.type_str_index mt_sindex (pv 2) (pa_cons (pv 1) pa_nil)) (pa_cons (pe_prop (pv 0) CT.cl PW_ GW (hr.mono (by decide)) bW .nil pass0 rfl) pa_nil)))))), ?_⟩
    rcases hx with ⟨c, kk, rfl, hc, hk, k⟩ | ⟨hn, k⟩
    · have hm : c ∈ mb g.flatten := List.mem_filter.mpr ⟨List.mem_of_getElem? hk, by simp [hc]⟩
      have hh : has g [c] = true := by
        show (true && decide (c ∈ mb g.flatten)) = true
        rw [decide_eq_true hm]
        rfl
      refine ⟨_, rfl, _, rfl, p, dx, _, rfl, hp, p, _, h, w, g, rfl, T0, hV, .inl ⟨[c], rfl, by show 1 ≤ 1000; decide, fun H1 sm => ?_⟩⟩
      rw [hh]
      refine ⟨true, rfl, _, rfl, iteF ?_⟩
      have hf64 := flat_len hV.rc
      have h64 : h * w ≤ 64 := Nat.mul_le_mul hV.n8 hV.m8
      refine ⟨⟨_, rfl⟩, _, rfl, p, D, dx, _, _, rfl, sm _ _ hp, CT.cl, CT.nR, rfl, _, a, g.map S, rfl, rfl, .inr ?_, ?_, ?_⟩
      · rw [List.map_map]
        exact sm.tup hS
      · have h1 := row_sum 8 g fun r hr => hV.row hr
        have h2 := hV.len
        rw [List.length_map]
        show _ + _ * 0 ≤ _
        omega
      rw [show Str.ofString "" = S [] from rfl, join0]
      have hcf : c ∈ g.flatten := List.mem_of_getElem? hk
      obtain ⟨i, rest, e1, e2⟩ := occ_at hcf
      have ei := mb_uniq hV.nd hc e2 hk
      subst ei
      refine ⟨_, rfl, rfl, _, rfl, _, _, i, rest, rfl, rfl, e1, ?_⟩
      refine ⟨_, rfl, p, dx, _, rfl, sm _ _ hp, p, h, w, g, rfl, T0.same sm, hV, _, _, rfl, ⟨by have := hV.m1; omega, by have := hV.m8; omega⟩, fun q hq => ?_⟩
      exact k _ q (sm.trans (same_new hq)) (sm.free hq) upd_same
    · have raised : ∀ {H1 : Hp}, Same H H1 → ∀ a, H1 a = none → spUm CU [.ref a, x] (upd H1 a (exo a CU none)) (fun v H2 => v = .non ∧ ∃ (d : Addr) (fs : List (Str × V)), H2 a = some (exo a CU (some d)) ∧ H2 d = some (exd d fs) ∧ H1 d = none ∧ E (.ref CU) (some d) (upd (del H2 a) d (.xd fs))) (fun _ _ _ => False) := by
        intro H1 sm a ha
        refine ⟨a, x, rfl, upd_same, fun d hd hne => ⟨rfl, d, _, upd_same, by rw [upd_ne hne, upd_same], ?_, ?_⟩⟩
        · rw [upd_ne hne] at hd
          exact hd
        · rw [upd_ne hne] at hd
          refine k _ _ (fun b o e => ?_) (sm.free hd) upd_same
          have e1 := sm b o e
          have nd := ne_of_none e1 hd
          have na := ne_of_none e1 ha
          rw [upd_ne nd, del_ne na, upd_ne na, upd_ne nd, upd_ne na]
          exact e1
      refine ⟨_, rfl, _, rfl, p, dx, _, rfl, hp, p, _, h, w, g, rfl, T0, hV, ?_⟩
      rcases hn with ⟨u, rfl, hu, hh⟩ | hn
      · refine .inl ⟨u, rfl, hu, fun H1 sm => ?_⟩
        rw [hh]
        exact ⟨false, rfl, _, rfl, iteT ⟨_, rfl, by show 1 ≤ 1000; decide, raised sm⟩⟩
      · exact .inr ⟨hn, fun H1 sm => ⟨false, rfl, _, rfl, iteT ⟨_, rfl, by show 1 ≤ 1000; decide, raised sm⟩⟩⟩
end
end TP
end
namespace TA
end TA
section
set_option Elab.async false
set_option maxRecDepth 100000
set_option linter.all false
namespace TA
open TK
open PySem PySem.Spec PyProof.Rows L2 LamX TX TK TM TB
/-- an own exception class that is made with a text -/
structure ExN (K : PySem.W.Frag) (mg : Str → Option Value) (x : Str) (CE : Addr) : Prop where
  q : PySem.W.excIn K CE [.type "ValueError", .type "Exception", .type "BaseException", .type "object"] "ValueError.__new__" = true
  g : mg x = some (.ref CE)
  k : PySem.W.keepIn K (.ref CE) = true
  s : PySem.W.subIn K (.ref CE) (.type "BaseException") = some true
  t : PySem.W.typeIn K (.ref CE) = some (.type "type")
section
variable {P : Program} {w : World} {K : PySem.W.Frag} {mg : Str → Option Value} {base : Heap} {C CN fU : Addr} {fdU : FuncData}
end
end TA
end
section
set_option Elab.async false
set_option maxRecDepth 100000
set_option linter.all false
namespace TP
open PySem L2 TM TK TH TB TX
open PySem.Spec PyProof.Rows
theorem passX {X : Cx} {E : XK} (tk : Takes X (fun cls d _ H => E cls d H)) : Passes (L2.CX X.prog X.w) X E := passes_call tk fun _ _ _ _ h => h
/-- what is_place says of a value -/
inductive Plc (K : PySem.W.Frag) (H : Hp) (h w : Nat) : V → Bool → Prop where
  | two {q : Addr} {a b : V} {ta tb : String} {xa ya xb yb : Bool} (hq : SqT K H q [a, b]) (ka : TA.Kn K H a ta xa ya) (kb : TA.Kn K H b tb xb yb) : Plc K H h w (.ref q) (TA.isN a ((h : Int) - 1) && TA.isN b ((w : Int) - 1))
  | tup {q : Addr} {xs : List V} (hq : SqT K H q xs) (hl : xs.length ≠ 2) : Plc K H h w (.ref q) false
  | other {x : V} {ty : String} (ht : TyX K H x (.type ty)) (hk : kitB ty "tuple" = some false) : Plc K H h w x false
section
variable {P : Program} {w : World} {K : PySem.W.Frag} {mg : Str → Option Value} {base : Heap} {D CP fN fL pH gH pW gW : Addr} {fdN fdL fdH fdW : FuncData}
structure TxtP (K : PySem.W.Frag) (mg : Str → Option Value) : Prop where
  isi : mg "isinstance" = none
  tup : mg "tuple" = none
  len : mg "len" = none
theorem scPl : FnScope ["value", "height", "width"] ["value", "height", "width"] (defScope sIsPlace) := ⟨rfl, rfl, rfl, by decide +kernel, rfl, by decide +kernel, by decide +kernel⟩
def spPl (K : PySem.W.Frag) : Sp := fun vs H Q _ => ∃ (x : V) (h w : Nat) (b : Bool), vs = [x, .int (h : Nat), .int (w : Nat)] ∧ Plc K H h w x b ∧ Q (.bl b) H
theorem ok_pl {f : Addr} {fd : FuncData} (F : Fun K "is_place" "is_place" sIsPlace f fd) (T : TxtP K mg) (GN : FnOk P w K mg base CX0 1 fN fdN ["value", "limit"] (TA.spNum K)) (kN : PySem.W.keepIn K (.ref fN) = true) (bN : Binds K fdN ["value", "limit"] []) (mN : mg "is_number" = some (.ref fN)) :
    FnOk P w K mg base CX0 2 f fd ["value", "height", "width"] (spPl K) := by
  refine F.ok scPl (fun vs H Q E h => ?_) (fun cdv A outer s H vs Q E hr h => ?_)
  · obtain ⟨x, h, w, b, rfl, _⟩ := h
    rfl
  · obtain ⟨x, h, w, b, rfl, hx, k⟩ := h
    refine ⟨_, pss_cons (ps_if (PW.pt (pw_or (pt_not (pt_val (pe_callB call_isi (by rfl) T.isi (by decide +kernel) (pa_cons (pv 0) (pa_cons (pe_bltn (v := .ty "tuple") (by rfl) T.tup (by decide +kernel) rfl) pa_nil)))))
        (pw_or1 (pt_cmpR op_ne (pe_callB call_len_seq (by rfl) T.len PySem.boot_len (pa_cons (pv 0) pa_nil)) pe_int (nomark _))))) (pss_one (ps_ret pe_bl)) pss_nil)
      (pss_one (ps_ret (pe_and (pe_call GN hr rfl mN kN bN .nil pass0 (pa_cons (pe_ix ix_tup (pv 0) pe_int (fun _ _ => rfl)) (pa_cons (pe_op op_sub (pv 1) pe_int) pa_nil)))
        (pe_one (pe_call GN hr rfl mN kN bN .nil pass0 (pa_cons (pe_ix ix_tup (pv 0) pe_int (fun _ _ => rfl)) (pa_cons (pe_op op_sub (pv 2) pe_int) pa_nil))))))), ?_⟩
    cases hx with
    | two hq ka kb =>
      rename_i q a b ta tb xa ya xb yb
      refine ⟨_, rfl, _, _, _, _, true, rfl, .ty _, TA.sq_ty (.tup hq), kit_ty (TA.tup_kit true), true, rfl, iteF ?_⟩
      refine ⟨_, rfl, q, _, rfl, .inr hq, rfl, _, rfl, iteF ?_⟩
      refine ⟨_, rfl, q, _, _, _, rfl, rfl, hq, rfl, _, rfl, _, _, rfl, rfl, a, _, _, _, _, rfl, ka, _, rfl, ?_⟩
      by_cases ha : TA.isN a ((h : Int) - 1) = true
      · rw [ha] at k ⊢
        refine iteT ⟨_, rfl, q, _, _, _, rfl, rfl, hq, rfl, _, rfl, _, _, rfl, rfl, b, _, _, _, _, rfl, kb, ?_⟩
        rw [Bool.true_and] at k
        exact k
      · rw [Bool.not_eq_true] at ha
        rw [ha] at k ⊢
        exact iteF k
    | tup hq hl =>
      rename_i q xs
      refine ⟨_, rfl, _, _, _, _, true, rfl, .ty _, TA.sq_ty (.tup hq), kit_ty (TA.tup_kit true), true, rfl, iteF ?_⟩
      refine ⟨_, rfl, q, _, rfl, .inr hq, rfl, _, rfl, ?_⟩
      rw [show (!decide (V.int (xs.length : Nat) = V.int 2)) = true by
        rw [decide_eq_false]
        · rfl
        · intro z
          injection z with z
          omega]
      exact iteT k
    | other ht hk =>
      refine ⟨_, rfl, _, _, _, _, false, rfl, .ty _, ht, kit_ty hk, false, rfl, iteT (iteT k)⟩
theorem scCp : FnScope ["tray", "place"] ["tray", "place"] (defScope sCheckPlace) := ⟨rfl, rfl, rfl, by decide +kernel, rfl, by decide +kernel, by decide +kernel⟩
def spCp (K : PySem.W.Frag) (D CP : Addr) : Sp := fun vs H Q E => ∃ (p : Addr) (x : V) (h w : Nat) (g : Grid), vs = [.ref p, x] ∧ TrayAt K D H p g ∧ VG h w g ∧
  ((∃ (q : Addr) (r c : Nat), x = .ref q ∧ SqT K H q [.int r, .int c] ∧ r < h ∧ c < w ∧ Q .non H) ∨ (Plc K H h w x false ∧ E (.ref CP) none H))
theorem ok_cp {f : Addr} {fd : FuncData} (F : Fun K "check_place" "check_place" sCheckPlace f fd) (CT : ClsT K mg D) (GL : FnOk P w K mg base CX0 2 fL fdL ["value", "height", "width"] (spPl K)) (kL : PySem.W.keepIn K (.ref fL) = true) (bL : Binds K fdL ["value", "height", "width"] []) (mL : mg "is_place" = some (.ref fL))
    (PH : PropOf K D "height" pH gH) (GH : FnOk P w K mg base CX0 1 gH fdH ["self"] (spHt K D)) (bH : Binds K fdH ["self"] [])
    (PW_ : PropOf K D "width" pW gW) (GW : FnOk P w K mg base CX0 1 gW fdW ["self"] (spWd K D)) (bW : Binds K fdW ["self"] []) (X : TA.ExN K mg "InvalidPlace" CP) :
    FnOk P w K mg base (L2.CX P w) 3 f fd ["tray", "place"] (spCp K D CP) := by
  refine F.okX scCp (fun vs H Q E h => ?_) (fun cdv A outer s H vs Q E hr h => ?_)
  · obtain ⟨p, x, h, w, g, rfl, _⟩ := h
    rfl
  · obtain ⟨p, x, h, w, g, rfl, T0, hV, hx⟩ := h
    obtain ⟨dx, a, hp, hS⟩ := id T0
    refine ⟨_, pss_one (ps_if (pt_not (pt_val (pe_call GL hr rfl mL kL bL .nil pass0 (pa_cons (pv 1) (pa_cons (pe_prop (pv 0) CT.cl PH GH (hr.mono (by decide)) bH .nil pass0 rfl) (pa_cons (pe_prop (pv 0) CT.cl PW_ GW (hr.mono (by decide)) bW .nil pass0 rfl) pa_nil))))))
        (pss_one (ps_raise rfl (takes_of rfl rfl rfl rfl) (pmk_own PySem.F.excBase_ValueError X.q X.g X.k (raises_own X.s X.t) rfl))) pss_nil), ?_⟩
    refine ⟨_, rfl, _, rfl, p, dx, _, rfl, hp, p, h, w, g, rfl, T0, hV, _, rfl, p, dx, _, rfl, hp, p, h, w, g, rfl, T0, hV, x, h, w, ?_⟩
    rcases hx with ⟨q, r, c, rfl, hq, hr', hc', k⟩ | ⟨hb, k⟩
    · refine ⟨_, rfl, .two hq (TA.kn_int _) (TA.kn_int _), ?_⟩
      have e1 : TA.isN (.int r) ((h : Int) - 1) = true := by
        show (decide ((0 : Int) ≤ r) && decide ((r : Int) ≤ (h : Int) - 1)) = true
        rw [decide_eq_true (by omega), decide_eq_true (by omega)]
        rfl
      have e2 : TA.isN (.int c) ((w : Int) - 1) = true := by
        show (decide ((0 : Int) ≤ c) && decide ((c : Int) ≤ (w : Int) - 1)) = true
        rw [decide_eq_true (by omega), decide_eq_true (by omega)]
        rfl
      rw [e1, e2]
      exact ⟨true, rfl, iteF k⟩
    · exact ⟨false, rfl, hb, false, rfl, iteT k⟩
abbrev NAt : List Str := ["self", "place", "row", "column", "cell"]
theorem scAt : FnScope NAt ["self", "place"] (defScope sTrayAt) := ⟨rfl, rfl, rfl, by decide +kernel, rfl, by decide +kernel, by decide +kernel⟩
def atV (g : Grid) (r c : Nat) : V := if (g.getD r []).getD c 46 = 46 then .non else sg ((g.getD r []).getD c 46)
def spAt (K : PySem.W.Frag) (D CP : Addr) : Sp := fun vs H Q E => ∃ (p : Addr) (x : V) (h w : Nat) (g : Grid), vs = [.ref p, x] ∧ TrayAt K D H p g ∧ VG h w g ∧
  ((∃ (q : Addr) (r c : Nat), x = .ref q ∧ SqT K H q [.int r, .int c] ∧ r < h ∧ c < w ∧ Q (atV g r c) H) ∨ (Plc K H h w x false ∧ E (.ref CP) none H))
theorem ok_at {fV : Addr} {fdV : FuncData} {f : Addr} {fd : FuncData} (F : Fun K "at" "Tray.at" sTrayAt f fd) (T : TxtM K mg) (CT : ClsT K mg D)
    (GV : FnOk P w K mg base (L2.CX P w) 3 fV fdV ["tray", "place"] (spCp K D CP)) (kV : PySem.W.keepIn K (.ref fV) = true) (bV : Binds K fdV ["tray", "place"] []) (mV : mg "check_place" = some (.ref fV)) :
    FnOk P w K mg base (L2.CX P w) 4 f fd ["self", "place"] (spAt K D CP) := by
  refine F.okX scAt (fun vs H Q E h => ?_) (fun cdv A outer s H vs Q E hr h => ?_)
  · obtain ⟨p, x, h, w, g, rfl, _⟩ := h
    rfl
  · obtain ⟨p, x, h, w, g, rfl, T0, hV, hx⟩ := h
    obtain ⟨dx, a, hp, hS⟩ := id T0
    have nd := scAt.nd
    refine ⟨_, pss_cons (ps_expr (pe_call GV hr rfl mV kV bV .nil (passX (takes_of rfl rfl rfl rfl)) (pa_cons (pv 0) (pa_cons (pv 1) pa_nil))))
      (pss_cons (ps_asg (pv 1) (pg_tup (by rfl) (pgs_cons (pg_name (i := 2) nd rfl (.inl rfl)) (pgs_cons (pg_name (i := 3) nd rfl (.inl rfl)) pgs_nil))))
      (pss_cons (ps_set (i := 4) nd rfl (.inl rfl) (pe_ix ix_str (pe_ix ix_tup (pe_fld (pv 0) rfl) (pv 2) (fun _ _ => rfl)) (pv 3) (fun _ _ => rfl)))
      (pss_one (ps_ret (pe_ifExp (pt_cmpR op_eq (pv 4) (C8.pe_gc rfl T.em) (nomark _)) pe_non (pv 4)))))), ?_⟩
    refine ⟨_, rfl, _, rfl, p, x, h, w, g, rfl, T0, hV, ?_⟩
    rcases hx with ⟨q, r, c, rfl, hq, hr', hc', k⟩ | ⟨hb, k⟩
    · refine .inl ⟨q, r, c, rfl, hq, hr', hc', ?_⟩
      refine ⟨_, rfl, q, _, rfl, hq, rfl, _, _, rfl, _, _, rfl, rfl, ?_⟩
      have hrg : r < g.length := by rw [hV.rc.1]; exact hr'
      have er : g[r]? = some (g.getD r []) := by
        rw [List.getD_eq_getElem?_getD, List.getElem?_eq_getElem hrg]
        rfl
      have lr : (g.getD r []).length = w := hV.rc.2 _ (List.mem_of_getElem? er)
      have h8 := hV.m8
      unfold atV at k
      generalize g.getD r [] = row at er lr k
      have ec : row[c]? = some (row.getD c 46) := by
        rw [List.getD_eq_getElem?_getD, List.getElem?_eq_getElem (by omega)]
        rfl
      refine ⟨_, rfl, p, D, dx, _, _, rfl, hp, CT.cl, CT.nR, rfl, _, rfl, a, _, _, _, rfl, rfl, hS, atI_nat (by rw [List.getElem?_map, er]; all_goals rfl), _, rfl, S row, (c : Int), row.getD c 46, rfl, rfl, by rw [S_len]; show _ ≤ 16777216; omega, by rw [S_list]; exact atI_nat ec, ?_⟩
      generalize row.getD c 46 = z at k
      refine ⟨_, rfl, rfl, _, rfl, ?_⟩
      rw [show decide (V.str (⟨#[z]⟩ : Str) = V.str (S [46])) = (z == 46) from dL z 46]
      by_cases q46 : z = 46
      · rw [beq_iff_eq.mpr q46]
        rw [if_pos q46] at k
        exact iteT k
      · rw [beq_eq_false_iff_ne.mpr q46]
        rw [if_neg q46] at k
        exact iteF ⟨_, rfl, k⟩
    · exact .inr ⟨hb, k⟩
end
end TP
end
namespace TR
end TR
namespace TM
end TM
section
set_option maxHeartbeats 4000000
set_option linter.all false
namespace TM
def cell (G : Grid) (i j : Nat) : Nat := (G.getD i []).getD j 0
end TM
end
namespace TM
end TM
namespace TM
end TM
section
set_option maxHeartbeats 4000000
set_option linter.all false
namespace TM
theorem mem_mb {l : List Nat} {c : Nat} : c ∈ mb l ↔ c ∈ l ∧ c ≠ 46 := by
  unfold mb
  rw [List.mem_filter]
  simp
theorem idx_at {l : List Nat} {c : Nat} (h : c ∈ l) : l.idxOf c < l.length ∧ l[l.idxOf c]? = some c := by
  have h1 := List.idxOf_lt_length_of_mem h
  exact ⟨h1, by rw [List.getElem?_eq_getElem h1, List.getElem_idxOf]⟩
section
variable {f : Nat → Nat} {A B : List Nat}
end
/-- the sign at a place of the flat list -/
theorem flat_at {w j : Nat} : ∀ {g : Grid} {h i : Nat}, Rect h w g → i < h → j < w → g.flatten[i * w + j]? = some (cell g i j)
  | [], h, i, R, hi, _ => by
    have := R.1
    simp at this
    omega
  | r :: g, h, i, R, hi, hj => by
    have hr : r.length = w := R.2 r List.mem_cons_self
    have R' : Rect (h - 1) w g := ⟨by have := R.1; simp at this; omega, fun x hx => R.2 x (List.mem_cons_of_mem _ hx)⟩
    rw [List.flatten_cons]
    match i with
    | 0 =>
      rw [Nat.zero_mul, Nat.zero_add, List.getElem?_append_left (by omega)]
      show _ = some (r.getD j 0)
      rw [List.getD_eq_getElem?_getD, List.getElem?_eq_getElem (by omega)]
      rfl
    | i + 1 =>
      rw [List.getElem?_append_right (by rw [hr, Nat.succ_mul]; omega)]
      have : (i + 1) * w + j - r.length = i * w + j := by rw [hr, Nat.succ_mul]; omega
      rw [this, flat_at (i := i) R' (by omega) hj]
      rfl
end TM
end
section
set_option Elab.async false
set_option maxRecDepth 100000
set_option linter.all false
namespace TB
open PySem PySem.Spec PyProof.Rows L2 TK
def rep (n : Nat) (t : List Nat) : List Nat := (List.replicate n t).flatten
theorem foldl_app (n : Nat) (t : List Nat) : ∀ a : List Nat, (List.replicate n t.toArray).foldl (· ++ ·) a.toArray = (a ++ rep n t).toArray := by
  induction n with
  | zero => intro a; simp [rep]
  | succ n ih =>
    intro a
    rw [List.replicate_succ, List.foldl_cons]
    have e : a.toArray ++ t.toArray = (a ++ t).toArray := by simp
    rw [e, ih]
    simp [rep, List.replicate_succ]
theorem mul_S (t : List Nat) (n : Nat) : Txt.mul (S t) (n : Int) = S (rep n t) := by
  unfold Txt.mul
  by_cases h : (n : Int) < 1
  · have e : n = 0 := by omega
    subst e
    rw [if_pos h]
    rfl
  · rw [if_neg h]
    by_cases h2 : ((n : Int) == 1 || (S t).length == 0) = true
    · rw [if_pos h2]
      rcases Bool.or_eq_true_iff.mp h2 with e | e
      · have e : n = 1 := by have := beq_iff_eq.mp e; omega
        subst e
        simp [rep]
      · have e := beq_iff_eq.mp e
        rw [S_len] at e
        have e := List.length_eq_zero_iff.mp e
        subst e
        have : rep n [] = [] := by simp [rep]
        rw [this]
    · rw [if_neg h2]
      have e := foldl_app n t []
      rw [Int.toNat_natCast]
      show Str.mk ((List.replicate n t.toArray).foldl (· ++ ·) #[]) = _
      have e2 : (#[] : Array Nat) = ([] : List Nat).toArray := rfl
      rw [e2, e, List.nil_append]
def rRepS : R2 := fun x y H Q => ∃ (t : List Nat) (n : Nat), x = .str (S t) ∧ y = .int n ∧ t.length ≤ 1000 ∧ n ≤ 1000 ∧ Q (.str (S (rep n t))) H
theorem op_repS {X : Cx} : OpR X (binaryOp .Mult) rRepS := by
  intro pins s σ H x y v u Q I rx ry h
  obtain ⟨t, n, rfl, rfl, ht, hn, q⟩ := h
  obtain ⟨a, rfl⟩ := (show ∃ a, v = Value.str (S t) a from rx)
  obtain ⟨b, rfl⟩ := (show ∃ b, u = Value.int n b from ry)
  refine SB.mul (mulOk_of 1000 1000 (by rw [S_len]; exact ht) (by omega) (by omega) (by decide) (by decide)) fun t' k => ?_
  rw [mul_S]
  exact ⟨.str (S (rep n t)), H, I.tok k, ⟨_, rfl⟩, q⟩
end TB
end
namespace TA
end TA
namespace TA
end TA
namespace TA
end TA
namespace TA
end TA
section
set_option Elab.async false
set_option maxRecDepth 100000
set_option linter.all false
namespace TB
open PySem PySem.Spec PyProof.Rows L2 TK
theorem call_list_txt {X : Cx} (hc : X.calm = true) : CallR X (.type "list") (fun xs H Q => ∃ t : List Nat, xs = [.str (S t)] ∧ t.length ≤ 1000 ∧ ∀ l, H l = none → Q (.ref l) (upd H l (.lst (t.map sg)))) := by
  intro pins s σ H xs us Q I r h
  obtain ⟨t, rfl, ht, q⟩ := h
  obtain ⟨u, rfl, rx⟩ := r.one
  obtain ⟨a, rfl⟩ := (show ∃ a, u = Value.str (S t) a from rx)
  refine call_list_str (I.ok.hd hc) (S t) a (fun h' tk acc c' kp e it => ?_) (by rw [S_size]; show _ ≤ 16777216; omega)
  have hsz : acc.toList.length = t.length := by
    have := it.1
    rw [S_size] at this
    simpa using this
  have rv : Vals (t.map sg) acc.toList := TH.sgn_vals _ _ hsz fun k c hk => by
    have hlt : k < acc.size := by
      have := (List.getElem?_eq_some_iff.mp hk).1
      have e2 : acc.toList.length = acc.size := by simp
      omega
    obtain ⟨c2, u2, h1, h2⟩ := it.2 k acc[k] (by simp [hlt])
    rw [S_at, hk] at h1
    cases h1
    exact ⟨u2, by rw [← h2]; simp [hlt]⟩
  exact ⟨.ref s.heap.objs.size, _, I.laid (t' := tk) kp (Nat.le_refl _) (show ObjOk X.prog X.w _ h' _ (.lst (t.map sg)) from ⟨by rw [List.length_map]; show _ ≤ 16777216; omega, acc.toList, c', rv, by simpa using e⟩), rfl, q _ (I.hok.fresh (Nat.le_refl _))⟩
end TB
end
namespace TU
end TU
namespace TU
end TU
section
set_option Elab.async false
set_option maxRecDepth 100000
set_option linter.all false
namespace TW
open PySem L2 TM TK TB TU
open PySem.Spec PyProof.Rows TH
section
variable {X : Cx} {n : Nat}
theorem psn_par {i j : Nat} {x y : Str} {a b : Expr} {ta : TA} {px py pt pos : Pos} {kt k2 pt2} (hc : X.calm = true) (hN : X.N.Nodup) (hi : X.N[i]? = some x) (hj : X.N[j]? = some y) (hij : i ≠ j)
    (hx : X.env.scope.names.lookup x = some .local) (hy : X.env.scope.names.lookup y = some .local) (ha : PAn n X [a, b] ta)
    (hw : swappedStores [.Tuple [.Name x px, .Name y py] kt pt] (.Tuple [a, b] k2 pt2) X.env = pure (some [x, y]))
    (hs : swapsWithSole [.Tuple [.Name x px, .Name y py] kt pt] (.Tuple [a, b] k2 pt2) pos.line X.env = pure false := by rfl) :
    PSn n X (.Assign [.Tuple [.Name x px, .Name y py] kt pt] (.Tuple [a, b] k2 pt2) pos) (tPar i j ta) := by
  intro pins s σ H D hn I h
  rw [exec_Assign_arm]
  refine wpAny_bind (wpAny_standAt ?_)
  rw [hs]
  refine wpAny_bind (wpAny_pure ?_)
  rw [if_neg (by decide)]
  refine wpAny_bind (Tuple_ (thn (ha _ pins s σ H _ hn I h) fun us s1 ⟨vs, H1, I1, r1, q1⟩ => ?_))
  obtain ⟨v, w, e1, q1⟩ := q1
  subst e1
  obtain ⟨u1, u2, rfl, rv, rw'⟩ : ∃ u1 u2, us = [u1, u2] ∧ RelV v u1 ∧ RelV w u2 := by
    cases r1 with
    | cons p q =>
      cases q with
      | cons p' q' =>
        cases q'
        exact ⟨_, _, rfl, p, p'⟩
  refine wpAny_newObj_type ?_ (by show 2 ≤ sizeLine; decide)
  have I2 : Inv X pins σ H1 { s1 with heap := s1.heap.push { cls := .type "tuple", data := .seq [u1, u2].toArray } } := I1.kept (t' := s1.toks) fun b o e => Heap.get?_push_of_some _ e
  rw [hw]
  refine wpAny_bind (wpAny_pure ?_)
  show wpAny (model X.prog X.w) X.A (do rule "assign.swapped-stores"; let items ← unpackItems (.ref s1.heap.objs.size) 2 none; assignInOrder [fun v => bindName X.env y v, fun v => bindName X.env x v] items.reverse; pure Flow.next) _ _ _
  refine wpAny_bind (wpAny_rule (wpAny_bind (unpackItems_tuple (items := #[u1, u2]) (I.ok.hd hc) (IsTup.new s1.heap _) fun h' hx' => ?_)))
  have I3 := I2.kept (h' := h') (t' := s1.toks) fun b o e => hx' b o (Nat.ne_of_lt (Heap.lt_size e)) e
  show wpAny _ _ (assignInOrder [fun v => bindName X.env y v, fun v => bindName X.env x v] [u2, u1] >>= fun _ => pure Flow.next) _ _ _
  refine wpAny_bind (assignInOrder_cons (wpAny_bindName (store_ok I3 hN hj (.inl hy) rw' (fun s2 I4 => ?_) (.inr hy))))
  refine assignInOrder_cons (wpAny_bindName (store_ok I4 hN hi (.inl hx) rv (fun s3 I5 => assignInOrder_nil (wpAny_pure ?_)) (.inr hx)))
  rw [List.set_comm _ _ (Ne.symm hij)] at I5
  exact ⟨_, _, I5, q1⟩
end
theorem eqv_rows : ∀ g g' : Grid, PyData.eqvAll (rowD g) (rowD g') = decide (g = g')
  | [], [] => rfl
  | [], _ :: _ => by simp [PyData.eqvAll]
  | _ :: _, [] => by simp [PyData.eqvAll]
  | x :: g, y :: g' => by
    have e : PyData.eqv (.str (S x)) (.str (S y)) = decide (x = y) := by
      show (S x == S y) = _
      rw [Bool.eq_iff_iff]
      simp [beq_iff_eq]
    show PyData.eqvAll (PyData.str (S x) :: rowD g) (PyData.str (S y) :: rowD g') = _
    rw [PyData.eqvAll, e, eqv_rows g g']
    rw [Bool.eq_iff_iff]
    simp
theorem eqv_tup (g g' : Grid) : PyData.eqv (.tuple (rowD g)) (.tuple (rowD g')) = decide (g = g') := eqv_rows g g'
theorem eqv_lst (g g' : Grid) : PyData.eqv (.list (rowD g)) (.list (rowD g')) = decide (g = g') := eqv_rows g g'
section
variable {P : Program} {w : World} {K : PySem.W.Frag} {mg : Str → Option Value} {base : Heap} {C D : Addr}
theorem scTe : FnScope ["self", "other"] ["self", "other"] (defScope sTrayEq) := ⟨rfl, rfl, rfl, by decide +kernel, rfl, by decide +kernel, by decide +kernel⟩
def spTe (K : PySem.W.Frag) (D : Addr) : Sp := fun vs H Q _ => ∃ (p q : Addr) (h w h' w' : Nat) (g g' : Grid), vs = [.ref p, .ref q] ∧ TrayAt K D H p g ∧ TrayAt K D H q g' ∧ VG h w g ∧ VG h' w' g' ∧ Q (.bl (decide (g = g'))) H
theorem ok_te {f : Addr} {fd : FuncData} (F : Fun K "__eq__" "Tray.__eq__" sTrayEq f fd) (T : TxtW K mg) (CT : ClsT K mg D) (IC : C8.InsC K D) : FnOk P w K mg base CX0 1 f fd ["self", "other"] (spTe K D) := by
  refine F.ok scTe (fun vs H Q E h => ?_) (fun cdv A outer s H vs Q E hr h => ?_)
  · obtain ⟨p, q, h, w, h', w', g, g', rfl, _⟩ := h
    rfl
  · obtain ⟨p, q, h, w, h', w', g, g', rfl, ⟨dp, ap, hp, hSp⟩, ⟨dq, aq, hq, hSq⟩, V1, V2, k⟩ := h
    refine ⟨_, pss_one (ps_ret (pe_and (pe_callB (C8.call_isC IC) (by rfl) T.isi (by decide +kernel) (pa_cons (pv 1) (pa_cons (pe_glob (v := .ref D) rfl CT.mgC rfl) pa_nil)))
      (pe_one (pe_cmpR (op_eqD hr.units) (pe_fld (pv 0) rfl) (pe_fld (pv 1) rfl) (nomark _))))), ?_⟩
    refine ⟨_, rfl, q, dq, _, rfl, hq, true, rfl, iteT ?_⟩
    refine ⟨_, rfl, p, D, dp, _, _, rfl, hp, CT.cl, CT.nR, rfl, ?_⟩
    refine ⟨_, rfl, q, D, dq, _, _, rfl, hq, CT.cl, CT.nR, rfl, ?_⟩
    refine ⟨_, _, .tup hSp (row_all _), .tup hSq (row_all _), row_shaped V1, row_shaped V2, ?_⟩
    rw [eqv_tup]
    exact k
end
end TW
end
namespace TW
end TW
section
set_option Elab.async false
set_option maxRecDepth 100000
set_option linter.all false
namespace TR
open PySem PySem.Spec PyProof.Rows L2 TM TK TB TP TH
theorem pssn_cut {X : Cx} {n : Nat} {st : Stmt} {rest : List Stmt} {t u : TS} (h1 : PSn n X st t) (h2 : PSsn n X rest u) : PSsn n X (st :: rest) (C8.tCut t u) := by
  intro pins s σ H D hn I h
  obtain ⟨Mid, hm, hu⟩ := h
  refine wpAny_execs_cons (thnN hn (h1 pins s σ H { D with nx := Mid } hn I hm) fun f s1 hn1 q => ?_)
  cases f with
  | next =>
    obtain ⟨σ', H', I', q⟩ := q
    exact h2 pins s1 σ' H' D hn1 I' (hu σ' H' q)
  | ret v => exact q
  | brk => exact q
  | cont => exact q
def tCallO (C : Addr) (sp : Sp) (E : XK) (tf : TE) (t : TA) : TE := fun σ H Q => tf σ H fun y H1 => ∃ a, y = V.ref a ∧ t σ H1 fun vs H2 => (∃ dx fs, H2 a = some (HO.ins C dx fs)) ∧ sp (V.ref a :: vs) H2 Q E
/-- f(e, ..), f an instance with its own __call__ -/
theorem pe_callO {X : Cx} {CX : CXT} {k : Nat} {C : Addr} {sp : Sp} {E : XK} {e fe : Expr} {es : List Expr} {tf : TE} {t : TA} {pos : Pos} {g : Addr} (hf : PE X fe tf) (c : StX.CallO X.K C g) (F : FnR X.prog X.w X.K X.mg X.base CX k g sp) (hr : Room k X.A) (hx : Passes CX X E) (ha : PA X (e :: es) t)
    (ht : eval (.Call fe (e :: es) [] pos) X.env = (do callWith pos (← eval fe X.env) [] (backTo pos (starEach (e :: es) X.env)) (backToKw pos (keywordEach [] X.env))) := by rfl)
    (he : starEach (e :: es) X.env = (false, eval e X.env) :: starEach es X.env := by rfl) (hpl : (backTo pos (starEach es X.env)).any (·.1) = false := by rfl) : PE X (.Call fe (e :: es) [] pos) (tCallO C sp E tf t) := by
  refine ⟨fun pins s σ H Q I h => ?_⟩
  refine Call_ (thn (hf.run pins s σ H _ I h) fun u s1 ⟨y, H1, I1, ry, a, ey, q⟩ => ?_) ht
  subst ey
  obtain rfl : u = Value.ref a := ry
  refine StX.callO_with (thn (ha.run pos pins s1 σ H1 _ I1 q) fun us s2 ⟨vs, H2, I2, r, hi, q2⟩ => ?_) he hpl
  obtain ⟨ox, od, J, hd⟩ := StX.insC_at I2 (.inr hi)
  exact ⟨⟨C, ox, od, J, hd⟩, StX.run_callO c F hr hx I2 (.inr hi) r q2⟩
def plV (w k : Nat) : List V := [.int ((k : Int) / w), .int ((k : Int) % w)]
def plK (w k : Nat) : List Key := [Sum.inl ((k : Int) / w), Sum.inl ((k : Int) % w)]
theorem plK_inj {w a b : Nat} (e : plK w a = plK w b) : a = b := by
  have h1 : (a : Int) / w = (b : Int) / w := by
    injection e with e1 e2
    exact Sum.inl.inj e1
  have h2 : (a : Int) % w = (b : Int) % w := by
    injection e with e1 e2
    injection e2 with e3 e4
    exact Sum.inl.inj e3
  have ha := Int.mul_ediv_add_emod (a : Int) w
  have hb := Int.mul_ediv_add_emod (b : Int) w
  rw [h1, h2] at ha
  have : (a : Int) = b := ha.symm.trans hb
  omega
theorem valV_no {κ : Type} [DecidableEq κ] {S : List Nat} {f : Nat → κ} {v : Nat → V} {k : κ} (h : ∀ m ∈ S, f m ≠ k) : valV (S.map fun m => (f m, v m)) k = none := by
  unfold valV
  rw [Option.map_eq_none_iff, List.find?_eq_none]
  intro x hx
  obtain ⟨m, hm, rfl⟩ := List.mem_map.mp hx
  simpa using h m hm
theorem valV_at {κ : Type} [DecidableEq κ] {f : Nat → κ} {v : Nat → V} : ∀ {S : List Nat} {m : Nat}, m ∈ S → (∀ a ∈ S, f a = f m → a = m) → valV (S.map fun m => (f m, v m)) (f m) = some (v m)
  | [], _, h, _ => by cases h
  | a :: S, m, h, hi => by
    unfold valV
    rw [List.map_cons, List.find?_cons]
    by_cases q : f a = f m
    · have e := hi a List.mem_cons_self q
      subst e
      simp
    · have : decide (f a = f m) = false := decide_eq_false q
      rw [this]
      have hm : m ∈ S := by
        rcases List.mem_cons.mp h with z | z
        · subst z
          exact absurd rfl q
        · exact z
      exact valV_at hm fun b hb => hi b (List.mem_cons_of_mem _ hb)
theorem like_tilts {n m : Nat} : ∀ (t : List Nat) {g : Grid}, Rect n m g → Like g (tilts n m t g)
  | [], _, _ => ⟨List.Perm.refl _, fun h => h⟩
  | c :: t, _, R => (like_tilt (c := c) R).trans (like_tilts t (tilt_rect R))
theorem mem_srt {l : List Nat} {c : Nat} : c ∈ srt l ↔ c ∈ l := (srt_perm l).mem_iff
section
variable {P : Program} {w_ : World} {K : PySem.W.Frag} {mg : Str → Option Value} {base : Heap} {C D CU fRs fCl pM gM : Addr} {n : Nat} {fdM : FuncData}
end
end TR
end
namespace TR
end TR
namespace TM
end TM
section
set_option Elab.async false
set_option maxRecDepth 100000
set_option linter.all false
namespace TR
open PySem PySem.Spec PyProof.Rows L2 TM TK TB TP TH TU
section
variable {P : Program} {w_ : World} {K : PySem.W.Frag} {mg : Str → Option Value} {base : Heap} {C D CU fRs fCl fI fEx fCf fCn fN pM gM pH gH pW gW : Addr} {n : Nat} {fdM fdH fdW fdCf fdCn fdN : FuncData}
theorem mb_let {h w : Nat} {g : Grid} (V : VG h w g) : ∀ c ∈ mb g.flatten, 97 ≤ c ∧ c < 123 := fun c hc => by
  have h1 := mem_mb.mp hc
  obtain ⟨r, hr, hcr⟩ := List.mem_flatten.mp h1.1
  rcases V.ok r hr c hcr with h2 | h2
  · exact absurd h2 h1.2
  · exact ⟨by omega, by omega⟩
def plD (w k : Nat) : PyData := .tuple [.int ((k : Int) / w), .int ((k : Int) % w)]
theorem pl_dp {H : Hp} {a : Addr} {w k : Nat} (h : H a = some (.tup (plV w k))) : Dp K H (.ref a) (plD w k) := .tup (SqT.of h) (.cons (.int _) (.cons (.int _) .nil))
theorem pl_shaped (w k : Nat) : SeqAt.shaped (plD w k) = true := rfl
theorem pl_eqv (w a b : Nat) : PyData.eqv (plD w a) (plD w b) = decide (a = b) := by
  have h1 : PyData.eqv (plD w a) (plD w b) = (decide ((a : Int) / w = (b : Int) / w) && (decide ((a : Int) % w = (b : Int) % w) && true)) := by
    unfold plD
    simp [PyData.eqv, PyData.eqvAll]
    rfl
  rw [h1]
  by_cases q : a = b
  · subst q
    simp
  · rw [decide_eq_false q]
    have : ¬ ((a : Int) / w = (b : Int) / w ∧ (a : Int) % w = (b : Int) % w) := fun z => q (plK_inj (w := w) (by unfold plK; rw [z.1, z.2]))
    by_cases q1 : (a : Int) / w = (b : Int) / w
    · rw [decide_eq_true q1, decide_eq_false (fun z => this ⟨q1, z⟩)]
      rfl
    · rw [decide_eq_false q1]
      rfl
end
end TR
end
namespace TM
end TM
namespace TR
end TR
namespace TM
end TM
namespace TR
end TR
section
set_option Elab.async false
set_option maxRecDepth 100000
set_option linter.all false
namespace TR
open PySem PySem.Spec PyProof.Rows L2 TM TK TB TP TH TU
section
variable {X : Cx}
def dWell (d : PyData) : Prop := PySem.W.alike d d = true ∧ d.depth ≤ 60 ∧ PyData.eqv d d = true
theorem hits_data {pins : List (Addr × Obj)} {σ : L2.St} {H : Hp} {s : Shared} (I : Inv X pins σ H s) {A : Around} (hu : A.units + 60 < cLine) {ls : List (Key × V)} {vb : List (Key × Value)} (rb : KV ls vb) {ks : List (Key × V)} {va : List (Key × Value)} (ra : KV ks va) :
    (∀ p ∈ ks, ∃ z d, valV ls p.1 = some z ∧ Dp X.K H p.2 d ∧ Dp X.K H z d ∧ dWell d) → PySem.W.KeqHits A s vb va true := by
  unfold KV at ra
  induction ra with
  | nil => intro _; exact .nil
  | @cons p q ps qs h t ih =>
    intro hp
    obtain ⟨h1, h2⟩ := h
    obtain ⟨z, d, e, d1, d2, w1, w2, w3⟩ := hp p List.mem_cons_self
    have rr : RelO (some z) (valueAt vb p.1) := by rw [← e]; exact rb.val p.1
    obtain ⟨y, hy, ry⟩ := rr.some_of
    obtain ⟨k, v⟩ := q
    have h1' : p.1 = k := h1
    rw [h1'] at hy
    obtain ⟨as, r1⟩ := Dp.reads I d _ _ d1 h2
    obtain ⟨bs, r2⟩ := Dp.reads I d _ _ d2 ry
    have E := PySem.W.eqAt_alike d d A s _ _ _ _ r1 r2 w1 (by rw [Nat.min_self]; omega)
    rw [w3] at E
    show PySem.W.KeqHits A s vb ((k, v) :: qs) (true && true)
    exact .hit hy E (ih fun p' hm => hp p' (List.mem_cons_of_mem _ hm))
def rNeDD (K : PySem.W.Frag) : R2 := fun x y H Q => ∃ a b ks ls, x = .ref a ∧ y = .ref b ∧ H a = some (.dK ks) ∧ H b = some (.dK ls) ∧ ks.length = ls.length ∧ (∀ p ∈ ks, ∃ z d, valV ls p.1 = some z ∧ Dp K H p.2 d ∧ Dp K H z d ∧ dWell d) ∧ Q (.bl false) H
theorem op_neDD (hu : X.A.units + 64 < cLine) : OpR X (compareOp .NotEq) (rNeDD X.K) := by
  intro pins s σ H x y v u Q I rx ry h
  obtain ⟨a, b, ks, ls, rfl, rfl, ea, eb, hlen, hp, q⟩ := h
  obtain rfl : v = Value.ref a := rx
  obtain rfl : u = Value.ref b := ry
  obtain ⟨_, ya, va, ra, da⟩ := (show ObjOk X.prog X.w H s.heap a (.dK ks) from I.hok a _ ea)
  obtain ⟨_, yb, vb, rb, db⟩ := (show ObjOk X.prog X.w H s.heap b (.dK ls) from I.hok b _ eb)
  have hl : va.length = vb.length := by rw [← ra.length, ← rb.length]; exact hlen
  exact PySem.W.keq_ne (knd := mixKind X.prog X.w) (r := true) ya yb da db (by omega) (fun _ => hits_data I (by show X.A.units + 1 + 60 < cLine; omega) rb ra hp) (fin_bl I q (by simp [hl]))
open SrtO in
end
end TR
end
namespace TR
end TR
namespace TR
end TR
namespace TU
end TU
namespace TR
end TR
namespace TR
end TR
section
set_option Elab.async false
set_option maxRecDepth 100000
set_option linter.all false
namespace TR
open PySem PySem.Spec PyProof.Rows L2 TM TK TB TP TH TU
section
variable {P : Program} {w_ : World} {K : PySem.W.Frag} {mg : Str → Option Value} {base : Heap} {C D fT pO gO : Addr} {mc : Value} {fdT : FuncData} {a : Addr} {ns : List Int}
theorem scTry : FnScope ["_law_rows_here"] ["_law_rows_here"] (defScope sLawTray) := ⟨rfl, rfl, rfl, by decide +kernel, rfl, by decide +kernel, by decide +kernel⟩
def spTry (K : PySem.W.Frag) (D : Addr) : Sp := fun vs H Q _ => ∃ (l : Addr) (h w : Nat) (g : Grid), vs = [.ref l] ∧ VG h w g ∧ H l = some (.lst (rowV g)) ∧ ∀ H' p, Same H H' → TrayAt K D H' p g → Q (.ref p) H'
theorem ok_try {f : Addr} {fd : FuncData} (F : Fun K "_law_tray" "_law_tray" sLawTray f fd) (CT : ClsT K mg D) (CR_ : ClX.CRead K D mc) (CM : ClX.CMet K D mc "of_text" pO gO) (GO : FnR P w_ K mg base CX0 5 gO (spOt K D)) :
    FnOk P w_ K mg base CX0 6 f fd ["_law_rows_here"] (spTry K D) := by
  refine F.ok scTry (fun vs H Q E h => ?_) (fun cdv A outer s H vs Q E hr h => ?_)
  · obtain ⟨l, h, w, g, rfl, _⟩ := h
    rfl
  · obtain ⟨l, h, w, g, rfl, hV, hl, k⟩ := h
    refine ⟨_, pss_one (ps_ret (ClX.pe_cmeth (pe_glob (v := .ref D) rfl CT.mgC rfl) CR_ CM GO hr pass0 (pa_cons (pe_join pe_str (pv 0)) pa_nil))), ?_⟩
    have h1 := row_sum 8 g fun r hr => hV.row hr
    have h2 := hV.len
    refine ⟨rfl, ⟨_, rfl⟩, _, rfl, _, l, g.map S, rfl, rfl, .inl ?_, ?_, h, w, g, ?_, hV, fun H' p sm ht => k H' p sm ht⟩
    · rw [List.map_map]
      exact SqL.of hl
    · rw [List.length_map]
      show _ + _ * 1 ≤ 16777216
      omega
    · show [V.ref D, V.str (Txt.join (S [10]) (g.map S))] = _
      rw [join_S]
end
end TR
end
section
set_option Elab.async false
set_option maxRecDepth 100000
set_option linter.all false
namespace TR
open PySem PySem.Spec PyProof.Rows L2 TM TK TB TP TH TU TW
section
variable {X : Cx} {n : Nat}
end
section
variable {P : Program} {w_ : World} {K : PySem.W.Frag} {mg : Str → Option Value} {base : Heap} {C D CU fCl fTc fCm fAr fBk fTe : Addr} {n : Nat} {fdCm : FuncData}
/-- where a marble stands, as a place's tuple -/
def PlcAt (H : Hp) (q : Addr) (w : Nat) (g : Grid) (c : Nat) : Prop := H q = some (.tup (plV w (g.flatten.idxOf c)))
theorem call_ok {H : Hp} {p : Addr} {c h w : Nat} {g : Grid} {Q : VK} {E : XK} (T0 : TrayAt K D H p g) (hV : VG h w g) (hm : c ∈ mb g.flatten) (k : ∀ H' q, Same H H' → H q = none → PlcAt H' q w g c → Q (.ref q) H') : spCl K D CU [.ref p, sg c] H Q E := by
  have hc := mem_mb.mp hm
  exact ⟨p, _, h, w, g, rfl, T0, hV, .inl ⟨c, g.flatten.idxOf c, rfl, hc.2, (idx_at hc.1).2, fun H' q s hq e => k H' q s hq e⟩⟩
end
end TR
end
section
set_option Elab.async false
set_option maxRecDepth 100000
set_option linter.all false
namespace TR
open PySem PySem.Spec PyProof.Rows L2 TM TX TK TB TP TH TU TW
theorem pi_orI {X : Cx} {tg iter : Expr} {a b : TI} (ha : PI X tg iter a) (hb : PI X tg iter b) : PI X tg iter (fun σ H R => a σ H R ∨ b σ H R) :=
  ⟨fun pins s σ H R I h => h.elim (ha.run pins s σ H R I) (hb.run pins s σ H R I)⟩
def ckS (c v : Int) : Int := (2 * c + v).emod 239
def cks (ns : List Int) : Int := ns.foldl ckS 6
theorem ck_in {c v : Int} (h0 : 0 ≤ c) (hv : 0 ≤ v) : 0 ≤ ckS c v ∧ ckS c v < 239 := ⟨Int.emod_nonneg _ (by omega), Int.emod_lt_of_pos _ (by omega)⟩
theorem cks_in {ns : List Int} (h : ∀ n ∈ ns, 0 ≤ n) : 0 ≤ cks ns ∧ cks ns < 239 := by
  have : ∀ (ns : List Int) (c : Int), (∀ n ∈ ns, 0 ≤ n) → 0 ≤ c → c < 239 → 0 ≤ ns.foldl ckS c ∧ ns.foldl ckS c < 239 := fun ns => by
    induction ns with
    | nil => intro c _ h0 h1; exact ⟨h0, h1⟩
    | cons a r ih =>
      intro c h h0 h1
      have := ck_in h0 (h a List.mem_cons_self)
      exact ih _ (fun n hn => h n (List.mem_cons_of_mem _ hn)) this.1 this.2
  exact this ns 6 h (by decide) (by decide)
theorem bi_arr {ns : List Int} (h : B8 ns) : PySem.W.KBw.bInts (byteArr ns) = ns := PySem.W.KBa.ints_make h
structure CodF (K : PySem.W.Frag) (mg : Str → Option Value) : Prop where
  int : mg "int" = none
  isi : mg "isinstance" = none
  list : mg "list" = none
  bytes : mg "bytes" = none
  all_ : mg "all" = none
  len : mg "len" = none
  rng : mg "range" = none
  min_ : mg "min" = none
  mx : ∃ u, mg "MAX_BYTE" = some u ∧ RelV (.int ((255 : Nat) : Int)) u
  fb : ∃ u, mg "FIRST_BYTE" = some u ∧ RelV (.int 84) u
  hs : ∃ u, mg "HEAD_SIZE" = some u ∧ RelV (.int 4) u
  fc : ∃ u, mg "FIRST_CHECKSUM" = some u ∧ RelV (.int 6) u
  cm : ∃ u, mg "CHECKSUM_MODULUS" = some u ∧ RelV (.int 239) u
section
variable {P : Program} {w_ : World} {K : PySem.W.Frag} {mg : Str → Option Value} {base : Heap} {gNu : Addr} {fdNu : FuncData}
abbrev NCk : List Str := ["values", "checksum", "value"]
theorem scCk : FnScope NCk ["values"] (defScope sChecksum) := ⟨rfl, rfl, rfl, by decide +kernel, rfl, by decide +kernel, by decide +kernel⟩
/-- a list of numbers or bytes -/
def NumsAt (K : PySem.W.Frag) (H : Hp) (x : V) (ns : List Int) : Prop := (∃ l, x = .ref l ∧ SqL K H l (ns.map V.int)) ∨ (x = .byt (byteArr ns) ∧ B8 ns)
def spCk (K : PySem.W.Frag) : Sp := fun vs H Q _ => ∃ (x : V) (ns : List Int), vs = [x] ∧ NumsAt K H x ns ∧ (∀ n ∈ ns, 0 ≤ n ∧ n < 256) ∧ Q (.int (cks ns)) H
theorem ok_ck {f : Addr} {fd : FuncData} (F : Fun K "_checksum" "_checksum" sChecksum f fd) (T : CodF K mg) : FnOk P w_ K mg base CX0 1 f fd ["values"] (spCk K) := by
  refine F.ok scCk (fun vs H Q E h => ?_) (fun cdv A outer s H vs Q E hr h => ?_)
  · obtain ⟨x, ns, rfl, _⟩ := h
    rfl
  · obtain ⟨x, ns, rfl, hx, hb, k⟩ := h
    have nd := scCk.nd
    refine ⟨_, C8.pss_cut (ps_set (i := 1) nd rfl (.inl rfl) (C8.pe_gc rfl T.fc))
      (C8.pss_cut (ps_for PassesOwn.never rfl (pi_orI (pi_list (pv 0)) (pi_byt (pv 0))) (pg_name (i := 2) nd rfl (.inl rfl))
        (pss_one (ps_set (i := 1) nd rfl (.inl rfl) (pe_op op_mod (pe_callTy call_int1 (by rfl) T.int (by decide +kernel) (pa_cons (pe_op op_add (pe_op op_mul pe_int (pv 1)) (pv 2)) pa_nil)) (C8.pe_gc rfl T.cm)))))
      (pss_one (ps_ret (pv 1)))), ?_⟩
    have nxt : ∀ {i : Nat} {n : Int}, ns[i]? = some n → cks (ns.take (i + 1)) = (2 * cks (ns.take i) + n) % 239 ∧ 0 ≤ cks (ns.take i) ∧ cks (ns.take i) < 239 := fun {i n} hn => by
      refine ⟨?_, cks_in fun n hn => (hb n (List.mem_of_mem_take hn)).1⟩
      unfold cks
      rw [List.take_succ, hn, List.foldl_append]
      rfl
    refine ⟨fun σ H1 => σ = [some x, some (.int 6), none] ∧ H1 = H, ⟨rfl, rfl⟩, ?_⟩
    rintro σ H1 ⟨rfl, rfl⟩
    refine ⟨fun σ H2 => ∃ v2, σ = [some x, some (.int (cks ns)), v2] ∧ H2 = H1, ?_, ?_⟩
    · rcases hx with ⟨l, rfl, hl⟩ | ⟨rfl, b8⟩
      · refine .inl ⟨_, rfl, l, rfl, ⟨_, hl⟩, for_list (K := K) (a := l) (xs := ns.map V.int) (fun i σ H2 => ∃ v2, σ = [some (.ref l), some (.int (cks (ns.take i))), v2] ∧ H2 = H1) ⟨none, rfl, rfl⟩ (fun _ _ _ _ ⟨_, _, e⟩ => by rw [e]; exact hl) ?_ ?_⟩
        · rintro i y σ H2 hy ⟨v2, rfl, rfl⟩
          obtain ⟨n, hn, rfl⟩ := at_map hy
          obtain ⟨e1, e2, e3⟩ := nxt hn
          rw [e1]
          exact ⟨_, rfl, _, _, rfl, rfl, .inl ⟨by omega, by omega⟩, _, rfl, _, _, rfl, rfl, .inl ⟨_, rfl, _, _, rfl, rfl, (show (0 : Int) < 239 by decide), _, rfl, rfl⟩⟩
        · rintro σ H2 ⟨v2, rfl, rfl⟩
          rw [List.length_map, List.take_length]
          exact ⟨v2, rfl, rfl⟩
      · refine .inr ⟨_, rfl, byteArr ns, rfl, for_byt (x := byteArr ns) (fun i σ H2 => ∃ v2, σ = [some (.byt (byteArr ns)), some (.int (cks (ns.take i))), v2] ∧ H2 = H1) ⟨none, rfl, rfl⟩ ?_ ?_⟩
        · rintro i c σ H2 hc ⟨v2, rfl, rfl⟩
          have hi := (Array.getElem?_eq_some_iff.mp hc).1
          rw [byteArr_size] at hi
          have hn : ns[i]? = some ns[i] := List.getElem?_eq_getElem hi
          generalize ns[i] = n at hn
          have ec : ((c.toNat : Nat) : Int) = n := by
            have := byte_at b8 hn
            have e : (ns.map fun n : Int => n.toNat.toUInt8).getD i 0 = c := by
              have : (byteArr ns).toList[i]? = some c := by rw [Array.getElem?_toList]; exact hc
              have h2 : (ns.map fun n : Int => n.toNat.toUInt8)[i]? = some c := this
              rw [List.getD_eq_getElem?_getD, h2]
              rfl
            rw [e] at this
            exact this
          obtain ⟨e1, e2, e3⟩ := nxt hn
          rw [e1, ec]
          exact ⟨_, rfl, _, _, rfl, rfl, .inl ⟨by omega, by omega⟩, _, rfl, _, _, rfl, rfl, .inl ⟨_, rfl, _, _, rfl, rfl, (show (0 : Int) < 239 by decide), _, rfl, rfl⟩⟩
        · rintro σ H2 ⟨v2, rfl, rfl⟩
          rw [byteArr_size, List.take_length]
          exact ⟨v2, rfl, rfl⟩
    rintro σ H2 ⟨v2, rfl, rfl⟩
    exact ⟨_, rfl, k⟩
abbrev NPk : List Str := ["values", "value"]
theorem scPk : FnScope NPk ["values"] (defScope sPackBytes) := ⟨rfl, rfl, rfl, by decide +kernel, rfl, by decide +kernel, by decide +kernel⟩
def spPk (K : PySem.W.Frag) : Sp := fun vs H Q _ => ∃ (l : Addr) (ns : List Int), vs = [.ref l] ∧ SqL K H l (ns.map V.int) ∧ B8 ns ∧ ns.length ≤ 1000 ∧ ∀ H', Same H H' → Q (.byt (byteArr ns)) H'
theorem ok_pk {f : Addr} {fd : FuncData} (F : Fun K "pack_bytes" "pack_bytes" sPackBytes f fd) (T : CodF K mg) (GNu : FnOk P w_ K mg base CX0 1 gNu fdNu ["value", "limit"] (TA.spNum K)) (kNu : PySem.W.keepIn K (.ref gNu) = true) (bNu : Binds K fdNu ["value", "limit"] []) (mNu : mg "is_number" = some (.ref gNu)) : FnOk P w_ K mg base CX0 2 f fd ["values"] (spPk K) := by
  refine F.ok scPk (fun vs H Q E h => ?_) (fun cdv A outer s H vs Q E hr h => ?_)
  · obtain ⟨l, ns, rfl, _⟩ := h
    rfl
  · obtain ⟨l, ns, rfl, hl, b8, l1000, k⟩ := h
    have nd := scPk.nd
    refine ⟨_, C8.pss_cut (ps_if (PW.pt (pw_or (pt_not (pt_val (pe_callB call_isi (by rfl) T.isi (by decide +kernel) (pa_cons (pv 0) (pa_cons (pe_bltn (v := .ty "list") (by rfl) T.list (by decide +kernel) rfl) pa_nil)))))
        (pw_or1 (pt_not (pt_val (pe_callB (cr_all rfl) (by rfl) T.all_ boot_all (pa_cons (pe_lc (own := [("value", 1)]) (g := gName 1) (tt := tYes) rfl nd (pi_list (pv 0)) (blkOk_by (N := NPk) (sc := defScope sPackBytes) (by decide +kernel)) (fun _ _ _ _ _ => pg_name (i := 1) nd rfl (.inl rfl)) (fun _ _ _ _ _ => pts_nil)
          (fun _ _ _ _ _ => pe_call GNu hr rfl mNu kNu bNu .nil pass0 (pa_cons (pv 1) (pa_cons (C8.pe_gc rfl T.mx) pa_nil)))) pa_nil))))))) pss_never pss_nil)
      (pss_one (ps_ret (pe_callTy (call_bytes_list rfl) (by rfl) T.bytes (by decide +kernel) (pa_cons (pv 0) pa_nil)))), ?_⟩
    refine ⟨fun σ H1 => σ = [some (.ref l), none] ∧ Same H H1, ?_, ?_⟩
    · refine ⟨_, rfl, _, _, _, _, true, rfl, .ty _, TA.sq_ty (.lst hl), kit_ty (by decide +kernel), true, rfl, iteF ?_⟩
      refine ⟨_, rfl, l, rfl, ⟨_, hl⟩, fun D1 hD1 => lc_list (K := K) (a := l) (xs := ns.map V.int) (fun i H1 => Same H H1 ∧ H1 D1 = some (.lst ((List.replicate i true).map V.bl)))
        ⟨same_new hD1, upd_same⟩ (fun i H1 _ ⟨s1, _⟩ => s1.seq hl) ?_ ?_⟩
      · rintro i x H1 hx ⟨s1, hL⟩
        obtain ⟨n, hn, rfl⟩ := at_map hx
        have hb := b8 n (List.mem_of_getElem? hn)
        have hi := (List.getElem?_eq_some_iff.mp hn).1
        have e : TA.isN (.int n) ((255 : Nat) : Int) = true := by
          show (decide (0 ≤ n) && decide (n ≤ ((255 : Nat) : Int))) = true
          rw [decide_eq_true hb.1, decide_eq_true (by have := hb.2; omega)]
          rfl
        refine ⟨rfl, _, rfl, .int n, _, _, _, _, rfl, TA.kn_int _, ?_⟩
        rw [e]
        refine ⟨_, hL, ?_, same_put s1 hD1, ?_⟩
        · rw [List.length_map, List.length_replicate]
          show _ < 16777216
          omega
        · rw [upd_same, List.replicate_succ', List.map_append]
          rfl
      · rintro H1 ⟨s1, hL⟩
        refine ⟨D1, List.replicate ns.length true, rfl, SqL.of (by rw [List.length_map] at hL; exact hL), ?_⟩
        have e : (List.replicate ns.length true).all id = true := List.all_eq_true.mpr fun x hx => (List.mem_replicate.mp hx).2
        rw [e]
        exact ⟨true, rfl, iteF ⟨rfl, s1⟩⟩
    rintro σ H1 ⟨rfl, s1⟩
    exact ⟨_, rfl, l, ns, rfl, s1.seq hl, b8, k H1 s1⟩
theorem scUp : FnScope ["data"] ["data"] (defScope sUnpackBytes) := ⟨rfl, rfl, rfl, by decide +kernel, rfl, by decide +kernel, by decide +kernel⟩
def spUp : Sp := fun vs H Q _ => ∃ (ns : List Int), vs = [.byt (byteArr ns)] ∧ B8 ns ∧ ns.length ≤ 1000 ∧ ∀ H' l, Same H H' → H l = none → H' l = some (.lst (ns.map V.int)) → Q (.ref l) H'
theorem ok_up {f : Addr} {fd : FuncData} (F : Fun K "unpack_bytes" "unpack_bytes" sUnpackBytes f fd) (T : CodF K mg) : FnOk P w_ K mg base CX0 1 f fd ["data"] spUp := by
  refine F.ok scUp (fun vs H Q E h => ?_) (fun cdv A outer s H vs Q E hr h => ?_)
  · obtain ⟨ns, rfl, _⟩ := h
    rfl
  · obtain ⟨ns, rfl, b8, l1000, k⟩ := h
    refine ⟨_, pss_one (ps_ret (pe_listOfB rfl (by rfl) T.list (pv 0))), ?_⟩
    refine ⟨_, rfl, byteArr ns, rfl, ?_, fun q hq => ?_⟩
    · rw [byteArr_size]
      show _ ≤ 16777216
      omega
    · refine k _ q (same_new hq) hq ?_
      rw [upd_same, show bi (byteArr ns) = ns from bi_arr b8]
abbrev NRd : List Str := ["data", "offset", "least", "most"]
theorem scRd : FnScope NRd NRd (defScope sRead) := ⟨rfl, rfl, rfl, by decide +kernel, rfl, by decide +kernel, by decide +kernel⟩
def spRd : Sp := fun vs H Q _ => ∃ (ns : List Int) (j : Nat) (lo hi v : Int), vs = [.byt (byteArr ns), .int (j : Nat), .int lo, .int hi] ∧ B8 ns ∧ ns.length ≤ 1000 ∧ ns[j]? = some v ∧ lo ≤ v ∧ v ≤ hi ∧ Q (.int v) H
theorem ok_rd {f : Addr} {fd : FuncData} (F : Fun K "_read" "_read" sRead f fd) (T : CodF K mg) : FnOk P w_ K mg base CX0 1 f fd NRd spRd := by
  refine F.ok scRd (fun vs H Q E h => ?_) (fun cdv A outer s H vs Q E hr h => ?_)
  · obtain ⟨ns, j, lo, hi, v, rfl, _⟩ := h
    rfl
  · obtain ⟨ns, j, lo, hi, v, rfl, b8, l1000, hv, h1, h2, k⟩ := h
    have nd := scRd.nd
    refine ⟨_, C8.pss_cut (ps_if (PW.pt (pw_or (pt_cmpR op_ge (pv 1) (pe_callB call_len (by rfl) T.len PySem.boot_len (pa_cons (pv 0) pa_nil)) (nomark _)) (pw_or1 (pt_not (pt_chain op_le op_le (pv 2) (pe_item_byt (pv 0) (pv 1) (fun _ _ => rfl)) (pv 3)))))) pss_never pss_nil)
      (pss_one (ps_ret (pe_item_byt (pv 0) (pv 1) (fun _ _ => rfl)))), ?_⟩
    have hj := (List.getElem?_eq_some_iff.mp hv).1
    have ea : byteArr ns = (ns.map fun n : Int => n.toNat.toUInt8).toArray := rfl
    have hb := byte_at b8 hv
    have sz : ns.length ≤ sizeLine := by show _ ≤ 16777216; omega
    refine ⟨fun σ H1 => σ = [some (.byt (byteArr ns)), some (.int (j : Nat)), some (.int lo), some (.int hi)] ∧ H1 = H, ?_, ?_⟩
    · have e1 : decide (((j : Nat) : Int) ≥ ((ns.length : Nat) : Int)) = false := decide_eq_false (by omega)
      refine ⟨_, rfl, _, rfl, _, ns.length, rfl, ⟨by rw [byteArr_size]; exact sz, by rw [byteArr_size]⟩, _, _, rfl, rfl, _, rfl, ?_⟩
      rw [e1]
      refine iteF ?_
      refine ⟨_, rfl, _, rfl, _, rfl, ?_⟩
      refine ⟨_, (j : Nat), congrArg V.byt ea, rfl, by rw [List.length_map]; exact sz, by omega, by rw [List.length_map]; omega, ?_⟩
      rw [Int.toNat_natCast, hb]
      refine ⟨_, _, rfl, rfl, true, congrArg V.bl (decide_eq_true h1), iteT ⟨_, rfl, _, _, rfl, rfl, true, congrArg V.bl (decide_eq_true h2), iteF ⟨rfl, rfl⟩⟩⟩
    rintro σ H1 ⟨rfl, rfl⟩
    refine ⟨_, rfl, _, rfl, _, (j : Nat), congrArg V.byt ea, rfl, by rw [List.length_map]; exact sz, by omega, by rw [List.length_map]; omega, ?_⟩
    rw [Int.toNat_natCast, hb]
    exact k
end
end TR
end
namespace TR
end TR
namespace TR
end TR
section
set_option Elab.async false
set_option maxRecDepth 100000
set_option linter.all false
namespace TR
open PySem PySem.Spec PyProof.Rows L2 TM TK TB TP TH TU TW
def PdAt (H : Hp) (D : Addr) (w : Nat) (pos : Nat → Nat) (M : List Nat) (ps qa : Nat → Addr) : Prop := H D = some (.lst (M.map fun m => V.ref (ps m))) ∧ ∀ m ∈ M, H (ps m) = some (.tup [sg m, .ref (qa m)]) ∧ H (qa m) = some (.tup (plV w (pos m)))
theorem PdAt.same {H H' : Hp} {D : Addr} {w : Nat} {pos : Nat → Nat} {M : List Nat} {ps qa : Nat → Addr} (h : PdAt H D w pos M ps qa) (s : Same H H') : PdAt H' D w pos M ps qa := ⟨s _ _ h.1, fun m hm => ⟨s _ _ (h.2 m hm).1, s _ _ (h.2 m hm).2⟩⟩
theorem pd_step {H1 H7 : Hp} {D T q2 : Addr} {w i c : Nat} {M : List Nat} {pos : Nat → Nat} {ps qa : Nat → Addr} (ndM : M.Nodup) (hc : M[i]? = some c) (hD : H1 D = none) (P : PdAt H7 D w pos (M.take i) ps qa) (s : Same H1 H7) (hT : H7 T = some (.tup [sg c, .ref q2])) (hq : H7 q2 = some (.tup (plV w (pos c)))) :
    ∃ ps' qa', Same H1 (upd H7 D (.lst ((M.take i).map (fun m => V.ref (ps m)) ++ [V.ref T]))) ∧ PdAt (upd H7 D (.lst ((M.take i).map (fun m => V.ref (ps m)) ++ [V.ref T]))) D w pos (M.take (i + 1)) ps' qa' := by
  have take1 : M.take (i + 1) = M.take i ++ [c] := by rw [List.take_add_one, hc]; rfl
  have cnew : c ∉ M.take i := fun hm => by
    obtain ⟨j, hj⟩ := List.mem_iff_getElem?.mp hm
    rw [List.getElem?_take] at hj
    split at hj
    · rename_i hji
      have nd := List.pairwise_iff_getElem.mp ndM
      obtain ⟨l1, z1⟩ := List.getElem?_eq_some_iff.mp hj
      obtain ⟨l2, z2⟩ := List.getElem?_eq_some_iff.mp hc
      exact nd j i l1 l2 hji (z1.trans z2.symm)
    · cases hj
  obtain ⟨pn, hp1, hp2⟩ : ∃ pn : Nat → Addr, pn c = T ∧ ∀ m, m ≠ c → pn m = ps m := ⟨fun m => if m = c then T else ps m, if_pos rfl, fun m hm => if_neg hm⟩
  obtain ⟨qn, hq1, hq2⟩ : ∃ qn : Nat → Addr, qn c = q2 ∧ ∀ m, m ≠ c → qn m = qa m := ⟨fun m => if m = c then q2 else qa m, if_pos rfl, fun m hm => if_neg hm⟩
  have hqD : ∀ {b : Addr} {xs : List V}, H7 b = some (.tup xs) → b ≠ D := fun e z => by
    rw [z, P.1] at e
    cases e
  refine ⟨pn, qn, same_put s hD, ?_, fun m hm => ?_⟩
  · rw [upd_same, take1, List.map_append]
    congr 3
    · refine List.map_congr_left fun m hm => ?_
      rw [hp2 m (fun z => cnew (by rw [← z]; exact hm))]
    · simp [hp1]
  · rw [take1] at hm
    rcases List.mem_append.mp hm with hm | hm
    · have ne : m ≠ c := fun z => cnew (by rw [← z]; exact hm)
      obtain ⟨g1, g2⟩ := P.2 m hm
      rw [hp2 m ne, hq2 m ne, upd_ne (hqD g1), upd_ne (hqD g2)]
      exact ⟨g1, g2⟩
    · rw [List.mem_singleton.mp hm, hp1, hq1, upd_ne (hqD hT), upd_ne (hqD hq)]
      exact ⟨hT, hq⟩
theorem merge_new : ∀ (kvs acc : List (Key × V)), ((acc ++ kvs).map (·.1)).Nodup → mergeK acc kvs = acc ++ kvs
  | [], acc, _ => by simp [mergeK]
  | p :: r, acc, nd => by
    have h1 : valV acc p.1 = none := by
      refine Classical.byContradiction fun z => ?_
      cases e : valV acc p.1 with
      | none => exact z e
      | some v =>
        have : ∃ q ∈ acc, q.1 = p.1 := by
          refine Classical.byContradiction fun hn => ?_
          have : valV acc p.1 = none := by
            have := valV_no (S := List.range acc.length) (f := fun i => (acc.getD i (Sum.inl 0, .non)).1) (v := fun i => (acc.getD i (Sum.inl 0, .non)).2) (k := p.1) fun m hm e => hn ⟨_, by
              have hl := List.mem_range.mp hm
              rw [List.getD_eq_getElem?_getD, List.getElem?_eq_getElem hl]
              exact List.getElem_mem hl, e⟩
            have e2 : ((List.range acc.length).map fun i => ((acc.getD i (Sum.inl 0, V.non)).1, (acc.getD i (Sum.inl 0, V.non)).2)) = acc := by
              apply List.ext_getElem (by simp)
              intro i a b
              simp only [List.length_map, List.length_range] at a
              simp [List.getD_eq_getElem?_getD, List.getElem?_eq_getElem b]
            rw [e2] at this
            exact this
          rw [this] at e
          cases e
        obtain ⟨q, hq, eq⟩ := this
        rw [List.map_append, List.nodup_append] at nd
        exact (nd.2.2 q.1 (List.mem_map.mpr ⟨q, hq, rfl⟩) p.1 (List.mem_map.mpr ⟨p, List.mem_cons_self, rfl⟩) eq)
    show mergeK (putK acc p.1 p.2) r = _
    rw [putK_new _ h1, merge_new r _ (by rw [List.append_assoc]; exact nd), List.append_assoc]
    rfl
def mkv (M : List Nat) (qa : Nat → Addr) : List (Key × V) := M.map fun m => (Sum.inr (S [m]), V.ref (qa m))
def MdAt (H : Hp) (e : Addr) (w : Nat) (pos : Nat → Nat) (M : List Nat) (qa : Nat → Addr) : Prop := H e = some (.dK (mkv M qa)) ∧ ∀ m ∈ M, H (qa m) = some (.tup (plV w (pos m)))
theorem MdAt.same {H H' : Hp} {e : Addr} {w : Nat} {pos : Nat → Nat} {M : List Nat} {qa : Nat → Addr} (h : MdAt H e w pos M qa) (s : Same H H') : MdAt H' e w pos M qa := ⟨s _ _ h.1, fun m hm => s _ _ (h.2 m hm)⟩
theorem key_inj {a b : Nat} (e : (Sum.inr (S [a]) : Key) = Sum.inr (S [b])) : a = b := by
  injection e with e
  injection e with e
  injection e with e
  injection e
theorem pd_dict {K : PySem.W.Frag} {H : Hp} {D : Addr} {w : Nat} {pos : Nat → Nat} {M : List Nat} {ps qa : Nat → Addr} {Q : VK} (P : PdAt H D w pos M ps qa) (nd : M.Nodup) (k : ∀ H' e qa, Same H H' → H e = none → MdAt H' e w pos M qa → Q (.ref e) H') :
    ∃ (a : Addr) (as : List Addr) (kvs : List (Key × V)), [V.ref D] = [.ref a] ∧ SqL K H a (as.map V.ref) ∧ Paired (fun p kv => SqT K H p [kV kv.1, kv.2]) as kvs ∧ ∀ p, H p = none → Q (.ref p) (upd H p (.dK (mergeK [] kvs))) := by
  refine ⟨D, M.map ps, mkv M qa, rfl, ?_, ?_, fun p hp => ?_⟩
  · rw [List.map_map]
    exact SqL.of P.1
  · have : ∀ L : List Nat, (∀ m ∈ L, m ∈ M) → Paired (fun p (kv : Key × V) => SqT K H p [kV kv.1, kv.2]) (L.map ps) (mkv L qa) := fun L => by
      induction L with
      | nil => intro _; exact .nil
      | cons m L ih => exact fun hL => .cons (SqT.of (P.2 m (hL m List.mem_cons_self)).1) (ih fun x hx => hL x (List.mem_cons_of_mem _ hx))
    exact this M fun _ h => h
  · rw [merge_new _ [] ?_]
    · refine k _ p qa (same_new hp) hp ⟨upd_same, fun m hm => ?_⟩
      have := (P.2 m hm).2
      rw [upd_ne (ne_of_none this hp)]
      exact this
    · rw [List.nil_append]
      unfold mkv
      rw [List.map_map]
      exact List.pairwise_map.mpr (nd.imp fun {a b} hab e => hab (key_inj e))
theorem pl_well (w k : Nat) : dWell (plD w k) := ⟨rfl, by show 1 ≤ 60; decide, by rw [pl_eqv]; exact decide_eq_true rfl⟩
end TR
end
section
set_option Elab.async false
set_option maxRecDepth 100000
set_option linter.all false
namespace TR
open PySem PySem.Spec PyProof.Rows L2 TM TX TK TB TP TH TU TW
/-- a tray's values ahead of the checksum: M the marbles -/
def encB (g : Grid) (M : List Nat) : List Int := M.flatMap fun m => [((m - 97 : Nat) : Int), ((g.flatten.idxOf m : Nat) : Int)]
def encV (h w : Nat) (g : Grid) : List Int := ([84, ((h : Nat) : Int), ((w : Nat) : Int), (((mb g.flatten).length : Nat) : Int)] : List Int) ++ encB g (srt (mb g.flatten))
def enc (h w : Nat) (g : Grid) : List Int := encV h w g ++ [cks (encV h w g)]
theorem encB_app (g : Grid) (A B : List Nat) : encB g (A ++ B) = encB g A ++ encB g B := List.flatMap_append
theorem encB_len (g : Grid) : ∀ M : List Nat, (encB g M).length = 2 * M.length
  | [] => rfl
  | m :: r => by
    have := encB_len g r
    unfold encB at this ⊢
    rw [List.flatMap_cons, List.length_append, this, List.length_cons]
    show 2 + 2 * r.length = 2 * (r.length + 1)
    omega
theorem encB_b8 {h w : Nat} {g : Grid} (hV : VG h w g) {M : List Nat} (hM : ∀ m ∈ M, m ∈ mb g.flatten) : ∀ n ∈ encB g M, 0 ≤ n ∧ n < 256 := fun n hn => by
  obtain ⟨m, hm, hn⟩ := List.mem_flatMap.mp hn
  have h1 := mb_let hV m (hM m hm)
  have h2 := (idx_at (mem_mb.mp (hM m hm)).1).1
  rw [flat_len hV.rc] at h2
  have h3 : h * w ≤ 64 := Nat.le_trans (Nat.mul_le_mul hV.n8 hV.m8) (by decide)
  rcases List.mem_cons.mp hn with e | hn
  · omega
  · have := List.mem_singleton.mp hn
    omega
theorem encV_b8 {h w : Nat} {g : Grid} (hV : VG h w g) : ∀ n ∈ encV h w g, 0 ≤ n ∧ n < 256 := fun n hn => by
  unfold encV at hn
  have := hV.n8
  have := hV.m8
  have := mb_26 hV
  rcases List.mem_append.mp hn with hn | hn
  · simp only [List.mem_cons, List.not_mem_nil, or_false] at hn
    omega
  · exact encB_b8 hV (fun m hm => mem_srt.mp hm) n hn
theorem encV_len {h w : Nat} {g : Grid} (hV : VG h w g) : (encV h w g).length = 4 + 2 * (mb g.flatten).length := by
  unfold encV
  rw [List.length_append, encB_len, (srt_perm _).length_eq]
  rfl
theorem enc_b8 {h w : Nat} {g : Grid} (hV : VG h w g) : B8 (enc h w g) := fun n hn => by
  unfold enc at hn
  rcases List.mem_append.mp hn with hn | hn
  · exact encV_b8 hV n hn
  · have e := List.mem_singleton.mp hn
    have := cks_in fun n hn => (encV_b8 hV n hn).1
    omega
theorem enc_len {h w : Nat} {g : Grid} (hV : VG h w g) : (enc h w g).length = 5 + 2 * (mb g.flatten).length := by
  unfold enc
  rw [List.length_append, encV_len hV]
  show _ + 1 = _
  omega
theorem let_idx {m : Nat} (h : 97 ≤ m ∧ m < 123) : ∃ rest, Builtin.Str.occurrences (S letters) (S [m]) 0 (S letters).length 1 = (m - 97) :: rest := by
  have all : ∀ k : Fin 26, (Builtin.Str.occurrences (S letters) (S [97 + k.1]) 0 (S letters).length 1).head? = some k.1 := by decide +kernel
  have := all ⟨m - 97, by omega⟩
  rw [show 97 + (m - 97) = m by omega] at this
  cases q : Builtin.Str.occurrences (S letters) (S [m]) 0 (S letters).length 1 with
  | nil =>
    rw [q] at this
    cases this
  | cons a r =>
    rw [q] at this
    cases this
    exact ⟨r, rfl⟩
section
variable {P : Program} {w_ : World} {K : PySem.W.Frag} {mg : Str → Option Value} {base : Heap} {C D CU fCl pM gM pW gW pH gH gCk gPk : Addr} {fdM fdW fdH fdCk fdPk : FuncData}
abbrev NEn : List Str := ["tray", "values", "marble", "row", "column", "checksum"]
theorem scEn : FnScope NEn ["tray"] (defScope sEncodeTray) := ⟨rfl, rfl, rfl, by decide +kernel, rfl, by decide +kernel, by decide +kernel⟩
def spEn (K : PySem.W.Frag) (D : Addr) : Sp := fun vs H Q _ => ∃ (p h w : Nat) (g : Grid), vs = [.ref p] ∧ TrayAt K D H p g ∧ VG h w g ∧ ∀ H', Same H H' → Q (.byt (byteArr (enc h w g))) H'
theorem ok_en {f : Addr} {fd : FuncData} (F : Fun K "encode_tray" "encode_tray" sEncodeTray f fd) (T : CodF K mg) (hLE : ∃ u, mg "LETTERS" = some u ∧ RelV (.str (S letters)) u) (CT : ClsT K mg D) (PM : PropOf K D "marbles" pM gM) (GM : FnOk P w_ K mg base CX0 1 gM fdM ["self"] (spMb K D)) (bM : Binds K fdM ["self"] [])
    (PW : PropOf K D "width" pW gW) (GW : FnOk P w_ K mg base CX0 1 gW fdW ["self"] (spWd K D)) (bW : Binds K fdW ["self"] []) (PH : PropOf K D "height" pH gH) (GH : FnOk P w_ K mg base CX0 1 gH fdH ["self"] (spHt K D)) (bH : Binds K fdH ["self"] [])
    (CO : StX.CallO K D fCl) (GC : FnR P w_ K mg base (L2.CX P w_) 4 fCl (spCl K D CU)) (GCk : FnOk P w_ K mg base CX0 1 gCk fdCk ["values"] (spCk K)) (kCk : PySem.W.keepIn K (.ref gCk) = true) (bCk : Binds K fdCk ["values"] []) (mCk : mg "_checksum" = some (.ref gCk))
    (GPk : FnOk P w_ K mg base CX0 2 gPk fdPk ["values"] (spPk K)) (kPk : PySem.W.keepIn K (.ref gPk) = true) (bPk : Binds K fdPk ["values"] []) (mPk : mg "pack_bytes" = some (.ref gPk)) : FnOk P w_ K mg base CX0 5 f fd ["tray"] (spEn K D) := by
  refine F.ok scEn (fun vs H Q E h => ?_) (fun cdv A outer s H vs Q E hr h => ?_)
  · obtain ⟨p, h, w, g, rfl, _⟩ := h
    rfl
  · obtain ⟨p, h, w, g, rfl, T0, hV, k⟩ := h
    have nd := scEn.nd
    have r4 := hr.mono (show 4 ≤ 4 by decide)
    have r2 := hr.mono (show 2 ≤ 4 by decide)
    have r1 := hr.mono (show 1 ≤ 4 by decide)
    refine ⟨_, C8.pss_cut (ps_set (i := 1) nd rfl (.inl rfl) (pe_lst (pa_cons (C8.pe_gc rfl T.fb) (pa_cons (pe_prop (pv 0) CT.cl PH GH r2 bH .nil pass0 rfl) (pa_cons (pe_prop (pv 0) CT.cl PW GW r2 bW .nil pass0 rfl) (pa_cons (pe_callB call_len_str (by rfl) T.len PySem.boot_len (pa_cons (pe_prop (pv 0) CT.cl PM GM r2 bM .nil pass0 rfl) pa_nil)) pa_nil))))))
      (C8.pss_cut (ps_for PassesOwn.never rfl (pi_str (pe_prop (pv 0) CT.cl PM GM r2 bM .nil pass0 rfl)) (pg_name (i := 2) nd rfl (.inl rfl))
        (C8.pss_cut (ps_asg (pe_callO (pv 0) CO GC r4 passL (pa_cons (pv 2) pa_nil)) (pg_tup (by rfl) (pgs_cons (pg_name (i := 3) nd rfl (.inl rfl)) (pgs_cons (pg_name (i := 4) nd rfl (.inl rfl)) pgs_nil))))
        (C8.pss_cut (ps_expr (pe_bm PySem.F.plainAttrs_list PySem.F.slot_list_append PySem.F.type_list_append mt_append (pv 1) (pa_cons (pe_bm PySem.F.plainAttrs_str PySem.F.slot_str_index PySem.F.type_str_index mt_sindex (C8.pe_gc rfl hLE) (pa_cons (pv 2) pa_nil)) pa_nil)))
        (pss_one (ps_expr (pe_bm PySem.F.plainAttrs_list PySem.F.slot_list_append PySem.F.type_list_append mt_append (pv 1) (pa_cons (pe_op op_add (pe_op op_mul (pv 3) (pe_prop (pv 0) CT.cl PW GW r2 bW .nil pass0 rfl)) (pv 4)) pa_nil)))))))
      (C8.pss_cut (ps_set (i := 5) nd rfl (.inl rfl) (pe_call GCk r1 rfl mCk kCk bCk .nil pass0 (pa_cons (pv 1) pa_nil)))
      (pss_one (ps_ret (pe_call GPk r2 rfl mPk kPk bPk .nil pass0 (pa_cons (pe_op op_cat (pv 1) (pe_lst (pa_cons (pv 5) pa_nil))) pa_nil)))))), ?_⟩
    obtain ⟨d0, a0, e0, _⟩ := id T0
    have m26 := mb_26 hV
    have lM : (srt (mb g.flatten)).length = (mb g.flatten).length := (srt_perm _).length_eq
    -- the head
    refine ⟨fun σ H1 => ∃ l, σ = [some (.ref p), some (.ref l), none, none, none, none] ∧ Same H H1 ∧ H l = none ∧ H1 l = some (.lst (([84, (h : Nat), (w : Nat), ((mb g.flatten).length : Nat)] : List Int).map V.int)), ?_, ?_⟩
    · refine ⟨_, rfl, p, d0, _, rfl, e0, p, h, w, g, rfl, T0, hV, _, rfl, p, d0, _, rfl, e0, p, h, w, g, rfl, T0, hV, _, rfl, p, d0, _, rfl, e0, p, h, w, g, rfl, T0, hV, fun H1 s1 => ?_⟩
      refine ⟨_, rfl, ?_, by show 4 ≤ sizeLine; decide, fun l hl => ⟨l, rfl, s1.trans (same_new hl), s1.free hl, ?_⟩⟩
      · rw [S_len, lM]
        show _ ≤ 16777216
        omega
      · rw [upd_same, S_len, lM]
        rfl
    rintro σ H1 ⟨l, rfl, s1, fl, hl⟩
    refine ⟨fun σ H2 => ∃ v2 v3 v4, σ = [some (.ref p), some (.ref l), v2, v3, v4, none] ∧ Same H H2 ∧ H2 l = some (.lst ((encV h w g).map V.int)), ?_, ?_⟩
    · have T1 := T0.same s1
      obtain ⟨d1, a1, e1, _⟩ := id T1
      refine ⟨_, rfl, p, d1, _, rfl, e1, p, h, w, g, rfl, T1, hV, fun H2 s2 => ⟨_, rfl, ?_⟩⟩
      refine for_it (walk_str (z := S (srt (mb g.flatten)))) (fun i σ H3 => ∃ v2 v3 v4, σ = [some (.ref p), some (.ref l), v2, v3, v4, none] ∧ Same H H3 ∧ H3 l = some (.lst ((([84, ((h : Nat) : Int), ((w : Nat) : Int), (((mb g.flatten).length : Nat) : Int)] : List Int) ++ encB g ((srt (mb g.flatten)).take i)).map V.int)))
        ⟨none, none, none, rfl, s1.trans s2, s2 _ _ hl⟩ (fun _ _ _ _ _ => True.intro) ?_ ?_
      · rintro i x σ H4 H3 hi ⟨v2, v3, v4, rfl, s3, hl3⟩ ⟨rfl, m, hm, rfl⟩
        rw [S_at] at hm
        have mS := List.mem_of_getElem? hm
        have mM : m ∈ mb g.flatten := mem_srt.mp mS
        have hi' := (List.getElem?_eq_some_iff.mp hm).1
        have T3 := T0.same s3
        obtain ⟨d3, a3, e3, _⟩ := id T3
        have w0 := hV.m1
        have lt := (idx_at (mem_mb.mp mM).1).1
        -- its place
        refine ⟨fun σ H4 => σ = [some (.ref p), some (.ref l), some (sg m), some (.int ((g.flatten.idxOf m : Int) / w)), some (.int ((g.flatten.idxOf m : Int) % w)), none] ∧ Same H3 H4, ?_, ?_⟩
        · refine ⟨_, rfl, p, rfl, _, rfl, ⟨d3, _, e3⟩, call_ok T3 hV mM fun H4 q s4 _ hq => ⟨q, _, rfl, SqT.of hq, rfl, _, _, rfl, _, _, rfl, rfl, rfl, s4⟩⟩
        rintro σ H4 ⟨rfl, s4⟩
        have hl4 := s4 _ _ hl3
        have m97 := mb_let hV m mM
        obtain ⟨rest, hocc⟩ := let_idx m97
        have lenb : ∀ i, i ≤ 26 → ((([84, ((h : Nat) : Int), ((w : Nat) : Int), (((mb g.flatten).length : Nat) : Int)] : List Int) ++ encB g ((srt (mb g.flatten)).take i)).map V.int).length ≤ 4 + 2 * i := fun i hi => by
          rw [List.length_map, List.length_append, encB_len, List.length_take]
          show 4 + 2 * min i _ ≤ _
          omega
        have lb := lenb i (by omega)
        generalize hVs : (([84, ((h : Nat) : Int), ((w : Nat) : Int), (((mb g.flatten).length : Nat) : Int)] : List Int) ++ encB g ((srt (mb g.flatten)).take i)) = Vs at hl4 lb
        have l_H : H l = none := fl
        refine ⟨fun σ H5 => σ = [some (.ref p), some (.ref l), some (sg m), some (.int ((g.flatten.idxOf m : Int) / w)), some (.int ((g.flatten.idxOf m : Int) % w)), none] ∧ Same H H5 ∧ H5 l = some (.lst (Vs.map V.int ++ [V.int ((m - 97 : Nat) : Int)])), ?_, ?_⟩
        · refine ⟨_, rfl, .inl ⟨rfl, _, SqL.of hl4⟩, rfl, _, rfl, S letters, S [m], m - 97, rest, rfl, rfl, hocc, l, _, _, rfl, rfl, hl4, ?_, rfl, same_put (s3.trans s4) l_H, upd_same⟩
          show _ < 16777216
          omega
        rintro σ H5 ⟨rfl, s5, hl5⟩
        have T5 := T0.same s5
        obtain ⟨d5, a5, e5, _⟩ := id T5
        have idx : ((g.flatten.idxOf m : Int) / w) * w + (g.flatten.idxOf m : Int) % w = (g.flatten.idxOf m : Nat) := by
          have := Int.mul_ediv_add_emod ((g.flatten.idxOf m : Nat) : Int) (w : Int)
          rw [Int.mul_comm] at this
          exact this
        have w8 := hV.m8
        have ltw : g.flatten.idxOf m < 64 := by
          rw [flat_len hV.rc] at lt
          exact Nat.lt_of_lt_of_le lt (Nat.le_trans (Nat.mul_le_mul hV.n8 hV.m8) (by decide))
        have dv : 0 ≤ (g.flatten.idxOf m : Int) / w ∧ (g.flatten.idxOf m : Int) / w ≤ 64 := ⟨Int.ediv_nonneg (by omega) (by omega), Int.le_trans (Int.ediv_le_self _ (by omega)) (by omega)⟩
        refine ⟨_, rfl, .inl ⟨rfl, _, SqL.of hl5⟩, _, rfl, _, rfl, p, d5, _, rfl, e5, p, h, w, g, rfl, T5, hV, _, _, rfl, rfl, .inl ⟨by omega, by omega⟩, _, rfl, _, _, rfl, rfl, l, _, _, rfl, rfl, hl5, ?_, _, _, _, rfl, same_put s5 l_H, ?_⟩
        · rw [List.length_append]
          show _ + 1 < 16777216
          omega
        · rw [upd_same]
          show some (HO.lst (Vs.map V.int ++ [V.int ((m - 97 : Nat) : Int)] ++ [V.int (((g.flatten.idxOf m : Int) / w) * w + (g.flatten.idxOf m : Int) % w)])) = _
          rw [idx, List.take_succ, hm]
          show _ = some (HO.lst (((([84, ((h : Nat) : Int), ((w : Nat) : Int), (((mb g.flatten).length : Nat) : Int)] : List Int) ++ encB g ((srt (mb g.flatten)).take i ++ [m]))).map V.int))
          rw [encB_app, ← List.append_assoc, hVs, List.map_append, List.append_assoc]
          rfl
      · rintro σ H3 ⟨v2, v3, v4, rfl, s3, hl3⟩
        have e : (S (srt (mb g.flatten))).cps.size = (srt (mb g.flatten)).length := S_len _
        rw [e, List.take_length] at hl3
        exact ⟨v2, v3, v4, rfl, s3, hl3⟩
    rintro σ H2 ⟨v2, v3, v4, rfl, s2, hl2⟩
    refine ⟨fun σ H3 => σ = [some (.ref p), some (.ref l), v2, v3, v4, some (.int (cks (encV h w g)))] ∧ H3 = H2, ?_, ?_⟩
    · exact ⟨_, rfl, .ref l, encV h w g, rfl, .inl ⟨l, rfl, SqL.of hl2⟩, encV_b8 hV, rfl, rfl⟩
    rintro σ H3 ⟨rfl, rfl⟩
    have el := encV_len hV
    refine ⟨_, rfl, _, rfl, by show 1 ≤ sizeLine; decide, fun b hb => ?_⟩
    have s4 := same_new (o := .lst [V.int (cks (encV h w g))]) hb
    refine ⟨l, b, _, _, rfl, rfl, s4 _ _ hl2, upd_same, ?_, fun q hq => ?_⟩
    · rw [List.length_map, el]
      show _ + 1 ≤ 16777216
      omega
    have s5 := same_new (o := .lst ((encV h w g).map V.int ++ [V.int (cks (encV h w g))])) hq
    refine ⟨q, enc h w g, rfl, SqL.of ?_, enc_b8 hV, by rw [enc_len hV]; omega, fun H5 s6 => k H5 (s2.trans (s4.trans (s5.trans s6)))⟩
    rw [upd_same]
    unfold enc
    rw [List.map_append]
    rfl
end
end TR
end
section
set_option Elab.async false
set_option maxRecDepth 100000
set_option linter.all false
namespace TR
open PySem PySem.Spec PyProof.Rows L2 TM TX TK TB TP TH TU TW
/-- the cells when the marbles of A are laid -/
def layC (g : Grid) (A : List Nat) : List Nat := g.flatten.map fun c => if c ∈ A then c else 46
theorem layC_len (g : Grid) (A : List Nat) : (layC g A).length = g.flatten.length := List.length_map _
theorem layC_nil (g : Grid) : layC g [] = List.replicate g.flatten.length 46 := by
  unfold layC
  rw [List.eq_replicate_iff]
  refine ⟨List.length_map _, fun b hb => ?_⟩
  obtain ⟨c, _, rfl⟩ := List.mem_map.mp hb
  simp
theorem layC_all {g : Grid} {A : List Nat} (h : ∀ c ∈ g.flatten, c ≠ 46 → c ∈ A) : layC g A = g.flatten := by
  unfold layC
  conv => rhs; rw [← List.map_id g.flatten]
  refine List.map_congr_left fun c hc => ?_
  by_cases e : c = 46
  · split
    · rfl
    · exact e.symm
  · rw [if_pos (h c hc e)]
    rfl
theorem layC_put {h w : Nat} {g : Grid} (hV : VG h w g) {A : List Nat} {m : Nat} (hm : m ∈ mb g.flatten) : layC g (A ++ [m]) = (layC g A).set (g.flatten.idxOf m) m := by
  have hm' := mem_mb.mp hm
  have at_ := idx_at hm'.1
  apply List.ext_getElem?
  intro k
  rw [List.getElem?_set]
  unfold layC
  rw [List.getElem?_map, List.getElem?_map, List.length_map]
  by_cases e : g.flatten.idxOf m = k
  · rw [if_pos e, if_pos at_.1, ← e, at_.2]
    simp
  · rw [if_neg e]
    cases hk : g.flatten[k]? with
    | none => rfl
    | some c =>
      have hne : c ≠ m := by
        rintro rfl
        exact e (mb_uniq hV.nd hm'.2 at_.2 hk)
      simp [hne]
theorem layC_at {g : Grid} {A : List Nat} {m : Nat} (hm : m ∈ mb g.flatten) (hA : m ∉ A) : (layC g A)[g.flatten.idxOf m]? = some 46 := by
  unfold layC
  rw [List.getElem?_map, (idx_at (mem_mb.mp hm).1).2]
  simp [hA]
theorem rg_size {i j c : Int} {n : Nat} (h3 : i ≤ j) (c1 : 1 ≤ c) (e : j = i + c * n) : Builtin.Range.rangeSize i j c = n := by
  unfold Builtin.Range.rangeSize
  rw [if_pos (by omega)]
  rcases Nat.eq_zero_or_pos n with z | z
  · subst z
    rw [if_neg (by simp at e; omega)]
    rfl
  · have h0 : 0 < c * (n : Int) := Int.mul_pos (by omega) (by omega)
    rw [if_pos (by omega)]
    have : (j - i - 1) / c = (n : Int) - 1 := by
      rw [e, show i + c * (n : Int) - i - 1 = (c - 1) + ((n : Int) - 1) * c by
        have : ((n : Int) - 1) * c = c * n - c := by rw [Int.sub_mul, Int.one_mul, Int.mul_comm]
        rw [this]
        omega]
      rw [Int.add_mul_ediv_right _ _ (by omega), Int.ediv_eq_zero_of_lt (by omega) (by omega)]
      omega
    rw [this]
    omega
theorem rg_up {i j c : Int} {n : Nat} (h1 : 0 ≤ i) (h2 : j < 100000) (h3 : i ≤ j) (c1 : 1 ≤ c) (c2 : c ≤ 64) (n1 : n ≤ 100000) (e : j = i + c * n) : RgC i j c n := by
  have sz := rg_size h3 c1 e
  refine ⟨by omega, by omega, ?_, sz⟩
  unfold Builtin.Range.small
  rw [sz]
  simp only [Builtin.Range.rangeFitsLong, Bool.and_eq_true, Bool.or_eq_true, decide_eq_true_eq, beq_iff_eq, show c > 0 by omega, if_true]
  omega
theorem encB_at {g : Grid} : ∀ {M : List Nat} {i m : Nat}, M[i]? = some m → (encB g M)[2 * i]? = some ((m - 97 : Nat) : Int) ∧ (encB g M)[2 * i + 1]? = some ((g.flatten.idxOf m : Nat) : Int)
  | [], _, _, h => by simp at h
  | a :: r, 0, m, h => by
    cases h
    exact ⟨rfl, rfl⟩
  | a :: r, i + 1, m, h => by
    have ih := encB_at (g := g) (M := r) (i := i) (m := m) h
    have e : encB g (a :: r) = ((a - 97 : Nat) : Int) :: ((g.flatten.idxOf a : Nat) : Int) :: encB g r := rfl
    rw [e]
    exact ⟨ih.1, ih.2⟩
theorem enc_at {h w : Nat} {g : Grid} (hV : VG h w g) {i m : Nat} (hm : (srt (mb g.flatten))[i]? = some m) : (enc h w g)[4 + 2 * i]? = some ((m - 97 : Nat) : Int) ∧ (enc h w g)[4 + 2 * i + 1]? = some ((g.flatten.idxOf m : Nat) : Int) := by
  have hi := (List.getElem?_eq_some_iff.mp hm).1
  have hb := encB_len g (srt (mb g.flatten))
  obtain ⟨e1, e2⟩ := encB_at (g := g) hm
  have step : ∀ j, j < (encB g (srt (mb g.flatten))).length → (enc h w g)[4 + j]? = (encB g (srt (mb g.flatten)))[j]? := fun j hj => by
    unfold enc encV
    rw [List.append_assoc, List.getElem?_append_right (by show 4 ≤ 4 + j; omega), List.getElem?_append_left (by show 4 + j - 4 < _; omega)]
    congr 1
    show 4 + j - 4 = j
    omega
  rw [step _ (by omega), show 4 + 2 * i + 1 = 4 + (2 * i + 1) by omega, step _ (by omega)]
  exact ⟨e1, e2⟩
theorem enc_take {h w : Nat} {g : Grid} (hV : VG h w g) : (enc h w g).take (4 + 2 * (mb g.flatten).length) = encV h w g := by
  unfold enc
  rw [← encV_len hV, List.take_left]
theorem enc_last {h w : Nat} {g : Grid} (hV : VG h w g) : (enc h w g)[4 + 2 * (mb g.flatten).length]? = some (cks (encV h w g)) := by
  unfold enc
  rw [← encV_len hV, List.getElem?_append_right (Nat.le_refl _), Nat.sub_self]
  rfl
theorem chunk_id {w : Nat} : ∀ {h : Nat} {g : Grid}, Rect h w g → chunk h w g.flatten = g
  | 0, g, R => by
    have : g = [] := List.eq_nil_of_length_eq_zero R.1
    subst this
    rfl
  | h + 1, [], R => by
    have := R.1
    simp at this
  | h + 1, r :: g, R => by
    have hr : r.length = w := R.2 r (List.mem_cons_self ..)
    have ih := chunk_id (w := w) (h := h) (g := g) ⟨by have := R.1; simpa using this, fun x hx => R.2 x (List.mem_cons_of_mem _ hx)⟩
    have h0 : (r ++ g.flatten).take w = r := by rw [← hr, List.take_left]
    have h1 : ∀ i, (r ++ g.flatten).drop ((i + 1) * w) = g.flatten.drop (i * w) := fun i => by
      rw [Nat.succ_mul, Nat.add_comm, ← List.drop_drop, ← hr, List.drop_left]
    unfold chunk at ih ⊢
    rw [List.flatten_cons, List.range_succ_eq_map, List.map_cons, Nat.zero_mul, List.drop_zero, h0, List.map_map]
    congr 1
    conv => rhs; rw [← ih]
    exact List.map_congr_left fun i _ => by show ((r ++ g.flatten).drop ((i + 1) * w)).take w = _; rw [h1]
theorem srt_asc {l : List Nat} (nd : l.Nodup) {i j a b : Nat} (hij : i < j) (ha : (srt l)[i]? = some a) (hb : (srt l)[j]? = some b) : a < b := by
  obtain ⟨i1, rfl⟩ := List.getElem?_eq_some_iff.mp ha
  obtain ⟨j1, rfl⟩ := List.getElem?_eq_some_iff.mp hb
  have le := List.pairwise_iff_getElem.mp (srt_up l) i j i1 j1 hij
  have ne := List.pairwise_iff_getElem.mp ((srt_perm l).nodup_iff.mpr nd) i j i1 j1 hij
  omega
section
variable {P : Program} {w_ : World} {K : PySem.W.Frag} {mg : Str → Option Value} {base : Heap} {D fTi gCk gRd : Addr} {fdCk fdRd : FuncData} {t0 : Tok}
abbrev NDe : List Str := ["data", "height", "width", "count", "end", "cells", "least", "offset", "number", "place", "checksum", "rows", "start"]
theorem scDe : FnScope NDe ["data"] (defScope sDecodeTray) := ⟨rfl, rfl, rfl, by decide +kernel, rfl, by decide +kernel, by decide +kernel⟩
def spDe (K : PySem.W.Frag) (D : Addr) : Sp := fun vs H Q _ => ∃ (h w : Nat) (g : Grid), vs = [.byt (byteArr (enc h w g))] ∧ VG h w g ∧ ∀ H' r, Same H H' → TrayAt K D H' r g → Q (.ref r) H'
theorem ok_de {f : Addr} {fd : FuncData} (F : Fun K "decode_tray" "decode_tray" sDecodeTray f fd) (T : CodF K mg) (U : TxtT K mg t0) (CT : ClsT K mg D)
    (GCk : FnOk P w_ K mg base CX0 1 gCk fdCk ["values"] (spCk K)) (kCk : PySem.W.keepIn K (.ref gCk) = true) (bCk : Binds K fdCk ["values"] []) (mCk : mg "_checksum" = some (.ref gCk))
    (GRd : FnOk P w_ K mg base CX0 1 gRd fdRd NRd spRd) (kRd : PySem.W.keepIn K (.ref gRd) = true) (bRd : Binds K fdRd NRd []) (mRd : mg "_read" = some (.ref gRd)) (M : Mk K D fTi)
    (GI : FnR P w_ K mg base CX0 3 fTi (fun vs H Q E => ∃ ws rest, vs = ws ++ rest ∧ ws.length = 1 ∧ rest.length ≤ sizeLine ∧ ∀ p, H p = Option.none → spTi K D (ws ++ [V.ref p]) (upd H p (.tup rest)) Q E)) : FnOk P w_ K mg base CX0 5 f fd ["data"] (spDe K D) := by
  refine F.ok scDe (fun vs H Q E h => ?_) (fun cdv A outer s H vs Q E hr h => ?_)
  · obtain ⟨h, w, g, rfl, _⟩ := h
    rfl
  · obtain ⟨h, w, g, rfl, hV, k⟩ := h
    have nd := scDe.nd
    have hEM : ∃ u, mg "EMPTY" = some u ∧ RelV (.str (S [46])) u := ⟨_, U.EM, _, rfl⟩
    have r1 := hr.mono (show 1 ≤ 4 by decide)
    refine ⟨_, C8.pss_cut (ps_if (pt_not (pt_val (pe_callB call_isi_byt (by rfl) T.isi (by decide +kernel) (pa_cons (pv 0) (pa_cons (pe_bltn (v := .ty "bytes") (by rfl) T.bytes (by decide +kernel) rfl) pa_nil))))) pss_never pss_nil)
      (C8.pss_cut (ps_expr (pe_call GRd r1 rfl mRd kRd bRd .nil pass0 (pa_cons (pv 0) (pa_cons pe_int (pa_cons (C8.pe_gc rfl T.fb) (pa_cons (C8.pe_gc rfl T.fb) pa_nil))))))
      (C8.pss_cut (ps_set (i := 1) nd rfl (.inl rfl) (pe_call GRd r1 rfl mRd kRd bRd .nil pass0 (pa_cons (pv 0) (pa_cons pe_int (pa_cons pe_int (pa_cons (C8.pe_gc rfl U.MS) pa_nil))))))
      (C8.pss_cut (ps_set (i := 2) nd rfl (.inr rfl) (pe_call GRd r1 rfl mRd kRd bRd .nil pass0 (pa_cons (pv 0) (pa_cons pe_int (pa_cons pe_int (pa_cons (C8.pe_gc rfl U.MS) pa_nil))))))
      (C8.pss_cut (ps_set (i := 3) nd rfl (.inl rfl) (pe_call GRd r1 rfl mRd kRd bRd .nil pass0 (pa_cons (pv 0) (pa_cons pe_int (pa_cons pe_int (pa_cons (pe_callB (call_min2 rfl) (by rfl) T.min_ (by decide +kernel) (pa_cons (pe_op op_mul (pv 1) (pv 2)) (pa_cons (pe_callB call_len_str (by rfl) T.len PySem.boot_len (pa_cons (C8.pe_gc rfl U.LE) pa_nil)) pa_nil))) pa_nil))))))
      (C8.pss_cut (ps_set (i := 4) nd rfl (.inl rfl) (pe_op op_add (C8.pe_gc rfl T.hs) (pe_op op_mul pe_int (pv 3))))
      (C8.pss_cut (ps_set (i := 5) nd rfl (.inr rfl) (pe_op op_rep (pe_lst (pa_cons (C8.pe_gc rfl hEM) pa_nil)) (pe_op op_mul (pv 1) (pv 2))))
      (C8.pss_cut (ps_set (i := 6) nd rfl (.inl rfl) pe_int)
      (C8.pss_cut (ps_for PassesOwn.never rfl (pi_range3 (by rfl) T.rng (pa_cons (C8.pe_gc rfl T.hs) (pa_cons (pv 4) (pa_cons pe_int pa_nil)))) (pg_name (i := 7) nd rfl (.inl rfl))
        (C8.pss_cut (ps_set (i := 8) nd rfl (.inl rfl) (pe_call GRd r1 rfl mRd kRd bRd .nil pass0 (pa_cons (pv 0) (pa_cons (pv 7) (pa_cons (pv 6) (pa_cons (pe_op op_sub (pe_callB call_len_str (by rfl) T.len PySem.boot_len (pa_cons (C8.pe_gc rfl U.LE) pa_nil)) pe_int) pa_nil))))))
        (C8.pss_cut (ps_set (i := 9) nd rfl (.inl rfl) (pe_call GRd r1 rfl mRd kRd bRd .nil pass0 (pa_cons (pv 0) (pa_cons (pe_op op_add (pv 7) pe_int) (pa_cons pe_int (pa_cons (pe_op op_sub (pe_callB call_len_seq (by rfl) T.len PySem.boot_len (pa_cons (pv 5) pa_nil)) pe_int) pa_nil))))))
        (C8.pss_cut (ps_if (pt_cmpR op_ne (pe_ix ix_list (pv 5) (pv 9) (fun _ _ => rfl)) (C8.pe_gc rfl hEM) (nomark _)) pss_never pss_nil)
        (C8.pss_cut (ps_asg (pe_ix ix_str (C8.pe_gc rfl U.LE) (pv 8) (fun _ _ => rfl)) (pg_sub (pv 5) (pv 9) set_list))
        (pss_one (ps_set (i := 6) nd rfl (.inl rfl) (pe_op op_add (pv 8) pe_int))))))))
      (C8.pss_cut (ps_set (i := 10) nd rfl (.inl rfl) (pe_call GCk r1 rfl mCk kCk bCk .nil pass0 (pa_cons (pe_slice sl_byt (pv 0) po_none (po_some (pv 4))) pa_nil)))
      (C8.pss_cut (ps_expr (pe_call GRd r1 rfl mRd kRd bRd .nil pass0 (pa_cons (pv 0) (pa_cons (pv 4) (pa_cons (pv 10) (pa_cons (pv 10) pa_nil))))))
      (C8.pss_cut (ps_if (pt_cmpR op_gt (pe_callB call_len (by rfl) T.len PySem.boot_len (pa_cons (pv 0) pa_nil)) (pe_op op_add (pv 4) pe_int) (nomark _)) pss_never pss_nil)
      (C8.pss_cut (ps_setLc (i := 11) (own := [("start", 12)]) (g := gName 12) (tt := tYes) rfl nd rfl rfl (sw_true rfl rfl rfl (by decide +kernel)) (pi_range3 (by rfl) T.rng (pa_cons pe_int (pa_cons (pe_callB call_len_seq (by rfl) T.len PySem.boot_len (pa_cons (pv 5) pa_nil)) (pa_cons (pv 2) pa_nil)))) (blkOk_by (N := NDe) (sc := defScope sDecodeTray) (by decide +kernel)) (fun _ _ _ _ _ => pg_name (i := 12) nd rfl (.inl rfl)) (fun _ _ _ _ _ => pts_nil)
        (fun _ _ _ _ _ => pe_joinK (K := K) rfl pe_str (pe_slice (sl_listK (K := K) rfl) (pv 5) (po_some (pv 12)) (po_some (pe_op op_add (pv 12) (pv 2))))))
      (pss_one (ps_ret (TH.pe_makeS M GI hr rfl CT.mgC pass0 (pv 11)))))))))))))))), ?_⟩
    have b8 := enc_b8 hV
    have el := enc_len hV
    have m26 := mb_26 hV
    have h1 := hV.n1
    have h8 := hV.n8
    have w1 := hV.m1
    have w8 := hV.m8
    have hw64 : h * w ≤ 64 := Nat.mul_le_mul h8 w8
    have cw : (mb g.flatten).length ≤ h * w := by
      rw [← flat_len hV.rc]
      exact List.length_filter_le _ _
    have g0 : (enc h w g)[0]? = some 84 := rfl
    have g1 : (enc h w g)[1]? = some ((h : Nat) : Int) := rfl
    have g2 : (enc h w g)[2]? = some ((w : Nat) : Int) := rfl
    have g3 : (enc h w g)[3]? = some (((mb g.flatten).length : Nat) : Int) := rfl
    have ehw : (h : Int) * (w : Int) = ((h * w : Nat) : Int) := by simp
    generalize hE : enc h w g = ES at b8 el g0 g1 g2 g3
    -- the head
    refine ⟨fun σ H1 => σ = [some (.byt (byteArr ES)), none, none, none, none, none, none, none, none, none, none, none, none] ∧ H1 = H, ?_, ?_⟩
    · exact ⟨_, rfl, _, rfl, true, rfl, iteF ⟨rfl, rfl⟩⟩
    rintro σ H1 ⟨rfl, rfl⟩
    refine ⟨fun σ H2 => σ = [some (.byt (byteArr ES)), none, none, none, none, none, none, none, none, none, none, none, none] ∧ H2 = H1, ?_, ?_⟩
    · exact ⟨_, rfl, ES, 0, 84, 84, 84, rfl, b8, by omega, g0, by decide, by decide, rfl, rfl⟩
    rintro σ H2 ⟨rfl, rfl⟩
    refine ⟨fun σ H3 => σ = [some (.byt (byteArr ES)), some (.int (h : Nat)), none, none, none, none, none, none, none, none, none, none, none] ∧ H3 = H2, ?_, ?_⟩
    · exact ⟨_, rfl, ES, 1, 1, 8, (h : Nat), rfl, b8, by omega, g1, by omega, by omega, rfl, rfl⟩
    rintro σ H3 ⟨rfl, rfl⟩
    refine ⟨fun σ H4 => σ = [some (.byt (byteArr ES)), some (.int (h : Nat)), some (.int (w : Nat)), none, none, none, none, none, none, none, none, none, none] ∧ H4 = H3, ?_, ?_⟩
    · exact ⟨_, rfl, ES, 2, 1, 8, (w : Nat), rfl, b8, by omega, g2, by omega, by omega, rfl, rfl⟩
    rintro σ H4 ⟨rfl, rfl⟩
    refine ⟨fun σ H5 => σ = [some (.byt (byteArr ES)), some (.int (h : Nat)), some (.int (w : Nat)), some (.int ((mb g.flatten).length : Nat)), none, none, none, none, none, none, none, none, none] ∧ H5 = H4, ?_, ?_⟩
    · refine ⟨_, rfl, _, rfl, _, rfl, _, _, rfl, rfl, .inl ⟨by omega, by omega⟩, _, rfl, by show 26 ≤ 16777216; decide, _, _, rfl, ?_⟩
      refine ⟨ES, 3, 0, _, ((mb g.flatten).length : Nat), rfl, b8, by omega, g3, by omega, ?_, rfl, rfl⟩
      rw [ehw]
      have e26 : ((S letters).length : Int) = 26 := by decide
      split <;> omega
    rintro σ H5 ⟨rfl, rfl⟩
    refine ⟨fun σ H6 => σ = [some (.byt (byteArr ES)), some (.int (h : Nat)), some (.int (w : Nat)), some (.int ((mb g.flatten).length : Nat)), some (.int ((4 + 2 * (mb g.flatten).length : Nat) : Int)), none, none, none, none, none, none, none, none] ∧ H6 = H5, ?_, ?_⟩
    · rw [show ((4 + 2 * (mb g.flatten).length : Nat) : Int) = 4 + 2 * ((mb g.flatten).length : Int) by omega]
      exact ⟨_, rfl, _, _, rfl, rfl, .inl ⟨by omega, by omega⟩, _, _, rfl, rfl, rfl, rfl⟩
    rintro σ H6 ⟨rfl, rfl⟩
    -- the cells
    refine ⟨fun σ H7 => ∃ l, σ = [some (.byt (byteArr ES)), some (.int (h : Nat)), some (.int (w : Nat)), some (.int ((mb g.flatten).length : Nat)), some (.int ((4 + 2 * (mb g.flatten).length : Nat) : Int)), some (.ref l), none, none, none, none, none, none, none] ∧ Same H6 H7 ∧ H6 l = none ∧ H7 l = some (.lst ((layC g []).map sg)), ?_, ?_⟩
    · refine ⟨(by show 1 ≤ sizeLine; decide), fun p hp => ⟨_, rfl, _, rfl, _, _, rfl, rfl, .inl ⟨by omega, by omega⟩, ?_⟩⟩
      have s1 := same_new (o := .lst [V.str (S [46])]) hp
      refine ⟨p, ((h * w : Nat) : Int), _, rfl, congrArg V.int ehw, upd_same, by omega, by omega, ?_, fun q hq => ?_⟩
      · show 1 * ((h * w : Nat) : Int).toNat ≤ 16777216
        rw [Int.toNat_natCast]
        omega
      · rw [Int.toNat_natCast]
        refine ⟨q, rfl, s1.trans (same_new hq), s1.free hq, ?_⟩
        rw [upd_same, layC_nil, flat_len hV.rc, ← rep_dots]
    rintro σ H7 ⟨l, rfl, s7, fl, hl⟩
    refine ⟨fun σ H8 => σ = [some (.byt (byteArr ES)), some (.int (h : Nat)), some (.int (w : Nat)), some (.int ((mb g.flatten).length : Nat)), some (.int ((4 + 2 * (mb g.flatten).length : Nat) : Int)), some (.ref l), some (.int 0), none, none, none, none, none, none] ∧ H8 = H7, ⟨rfl, rfl⟩, ?_⟩
    rintro σ H8 ⟨rfl, rfl⟩
    have lM : (srt (mb g.flatten)).length = (mb g.flatten).length := (srt_perm _).length_eq
    have ndM : (srt (mb g.flatten)).Nodup := (srt_perm _).nodup_iff.mpr hV.nd
    -- the marbles
    refine ⟨fun σ H9 => ∃ v6 v7 v8 v9, σ = [some (.byt (byteArr ES)), some (.int (h : Nat)), some (.int (w : Nat)), some (.int ((mb g.flatten).length : Nat)), some (.int ((4 + 2 * (mb g.flatten).length : Nat) : Int)), some (.ref l), v6, v7, v8, v9, none, none, none] ∧ Same H6 H9 ∧ H9 l = some (.lst (g.flatten.map sg)), ?_, ?_⟩
    · refine ⟨_, rfl, 4, _, 2, (mb g.flatten).length, rfl, rg_up (by decide) (by omega) (by omega) (by decide) (by decide) (by omega) (by omega), ?_⟩
      refine for_it (walk_rangeC (lo := 4) (c := 2) (n := (mb g.flatten).length)) (fun i σ H9 => ∃ (L : Nat) (v7 v8 v9 : Option V), σ = [some (.byt (byteArr ES)), some (.int (h : Nat)), some (.int (w : Nat)), some (.int ((mb g.flatten).length : Nat)), some (.int ((4 + 2 * (mb g.flatten).length : Nat) : Int)), some (.ref l), some (.int (L : Nat)), v7, v8, v9, none, none, none] ∧ Same H6 H9 ∧ H9 l = some (.lst ((layC g ((srt (mb g.flatten)).take i)).map sg)) ∧ ∀ j m, i ≤ j → (srt (mb g.flatten))[j]? = some m → L + 97 ≤ m)
        ⟨0, none, none, none, rfl, s7, hl, fun j m _ hm => (by have := mb_let hV m (mem_srt.mp (List.mem_of_getElem? hm)); omega)⟩ (fun _ _ _ _ _ => True.intro) ?_ ?_
      · rintro i x σ H10 H9 hi ⟨L, v7, v8, v9, rfl, s9, hl9, hL⟩ ⟨rfl, rfl⟩
        obtain ⟨m, hm⟩ : ∃ m, (srt (mb g.flatten))[i]? = some m := ⟨_, List.getElem?_eq_getElem (by rw [lM]; exact hi)⟩
        have mM : m ∈ mb g.flatten := mem_srt.mp (List.mem_of_getElem? hm)
        have m97 := mb_let hV m mM
        have hLm := hL i m (Nat.le_refl _) hm
        obtain ⟨e1, e2⟩ := enc_at hV hm
        rw [hE] at e1 e2
        have lt := (idx_at (mem_mb.mp mM).1).1
        rw [flat_len hV.rc] at lt
        have eo : (4 + (i : Nat) * 2 : Int) = ((4 + 2 * i : Nat) : Int) := by omega
        have lc : (layC g ((srt (mb g.flatten)).take i)).length = h * w := by rw [layC_len, flat_len hV.rc]
        have nA : m ∉ (srt (mb g.flatten)).take i := by
          have tki : (srt (mb g.flatten)).take (i + 1) = (srt (mb g.flatten)).take i ++ [m] := by rw [List.take_succ, hm]; rfl
          have ndt : ((srt (mb g.flatten)).take i ++ [m]).Nodup := by
            rw [← tki]
            exact ndM.sublist (List.take_sublist _ _)
          rw [List.nodup_append] at ndt
          exact fun z => ndt.2.2 m z m (List.mem_singleton.mpr rfl) rfl
        refine ⟨fun σ H10 => σ = [some (.byt (byteArr ES)), some (.int (h : Nat)), some (.int (w : Nat)), some (.int ((mb g.flatten).length : Nat)), some (.int ((4 + 2 * (mb g.flatten).length : Nat) : Int)), some (.ref l), some (.int (L : Nat)), some (.int ((4 + 2 * i : Nat) : Int)), some (.int ((m - 97 : Nat) : Int)), v9, none, none, none] ∧ H10 = H9, ?_, ?_⟩
        · refine ⟨_, rfl, _, rfl, _, rfl, _, rfl, (by show 26 ≤ 16777216; decide), _, _, rfl, rfl, ?_⟩
          refine ⟨ES, 4 + 2 * i, (L : Nat), _, ((m - 97 : Nat) : Int), by show [V.byt (byteArr ES), V.int (4 + (i : Int) * 2), V.int (L : Nat), _] = _; rw [eo], b8, by omega, e1, by omega, ?_, ?_⟩
          · have e26 : ((S letters).length : Int) = 26 := by decide
            omega
          · exact ⟨by show [_, _, _, _, _, _, _, some (V.int (4 + (i : Int) * 2)), _, _, _, _, _] = _; rw [eo], rfl⟩
        rintro σ H10 ⟨rfl, rfl⟩
        refine ⟨fun σ H11 => σ = [some (.byt (byteArr ES)), some (.int (h : Nat)), some (.int (w : Nat)), some (.int ((mb g.flatten).length : Nat)), some (.int ((4 + 2 * (mb g.flatten).length : Nat) : Int)), some (.ref l), some (.int (L : Nat)), some (.int ((4 + 2 * i : Nat) : Int)), some (.int ((m - 97 : Nat) : Int)), some (.int ((g.flatten.idxOf m : Nat) : Int)), none, none, none] ∧ H11 = H10, ?_, ?_⟩
        · refine ⟨_, rfl, _, rfl, _, _, rfl, rfl, _, rfl, l, _, rfl, .inl (SqL.of hl9), _, _, rfl, rfl, ?_⟩
          refine ⟨ES, 4 + 2 * i + 1, 0, _, ((g.flatten.idxOf m : Nat) : Int), rfl, b8, by omega, e2, by omega, ?_, rfl, rfl⟩
          rw [List.length_map, lc]
          omega
        rintro σ H11 ⟨rfl, rfl⟩
        have aC : atI (((layC g ((srt (mb g.flatten)).take i)).map sg)) ((g.flatten.idxOf m : Nat) : Int) = some (.str (S [46])) := atI_nat (by rw [List.getElem?_map, layC_at mM nA]; rfl)
        refine ⟨fun σ H12 => σ = [some (.byt (byteArr ES)), some (.int (h : Nat)), some (.int (w : Nat)), some (.int ((mb g.flatten).length : Nat)), some (.int ((4 + 2 * (mb g.flatten).length : Nat) : Int)), some (.ref l), some (.int (L : Nat)), some (.int ((4 + 2 * i : Nat) : Int)), some (.int ((m - 97 : Nat) : Int)), some (.int ((g.flatten.idxOf m : Nat) : Int)), none, none, none] ∧ H12 = H11, ?_, ?_⟩
        · exact ⟨_, rfl, _, rfl, l, _, _, _, rfl, rfl, SqL.of hl9, aC, rfl, _, rfl, iteF ⟨rfl, rfl⟩⟩
        rintro σ H12 ⟨rfl, rfl⟩
        have aL : atI (S letters).cps.toList ((m - 97 : Nat) : Int) = some m := by
          rw [S_list]
          have all : ∀ i : Fin 26, letters[i.1]? = some (97 + i.1) := by decide
          have := all ⟨m - 97, by omega⟩
          rw [show 97 + (m - 97) = m by omega] at this
          exact atI_nat this
        refine ⟨fun σ H13 => σ = [some (.byt (byteArr ES)), some (.int (h : Nat)), some (.int (w : Nat)), some (.int ((mb g.flatten).length : Nat)), some (.int ((4 + 2 * (mb g.flatten).length : Nat) : Int)), some (.ref l), some (.int (L : Nat)), some (.int ((4 + 2 * i : Nat) : Int)), some (.int ((m - 97 : Nat) : Int)), some (.int ((g.flatten.idxOf m : Nat) : Int)), none, none, none] ∧ Same H6 H13 ∧ H13 l = some (.lst ((layC g ((srt (mb g.flatten)).take (i + 1))).map sg)), ?_, ?_⟩
        · refine ⟨_, rfl, S letters, _, m, rfl, rfl, (by show 26 ≤ 16777216; decide), aL, ?_⟩
          refine ⟨_, rfl, _, rfl, l, _, _, _, rfl, rfl, hl9, (by have q : (g.flatten.idxOf m) < ((layC g ((srt (mb g.flatten)).take i)).map sg).length := (by rw [List.length_map, lc]; exact lt); unfold ixN; rw [if_pos (by omega), if_pos (by omega), Int.toNat_natCast]), ?_⟩
          refine ⟨rfl, same_put s9 fl, ?_⟩
          rw [upd_same, List.take_succ, hm, show (some m).toList = [m] from rfl, layC_put hV mM, List.map_set]
        rintro σ H13 ⟨rfl, s13, hl13⟩
        refine ⟨_, rfl, _, _, rfl, rfl, m - 97 + 1, _, _, _, rfl, s13, hl13, fun j m' hj hm' => ?_⟩
        have := srt_asc hV.nd hj hm hm'
        omega
      · rintro σ H9 ⟨L, v7, v8, v9, rfl, s9, hl9, _⟩
        rw [← lM] at hl9
        rw [List.take_length, layC_all (fun c hc h46 => mem_srt.mpr (mem_mb.mpr ⟨hc, h46⟩))] at hl9
        exact ⟨_, v7, v8, v9, rfl, s9, hl9⟩
    rintro σ H9 ⟨v6, v7, v8, v9, rfl, s9, hl9⟩
    -- the checksum
    refine ⟨fun σ H10 => σ = [some (.byt (byteArr ES)), some (.int (h : Nat)), some (.int (w : Nat)), some (.int ((mb g.flatten).length : Nat)), some (.int ((4 + 2 * (mb g.flatten).length : Nat) : Int)), some (.ref l), v6, v7, v8, v9, some (.int (cks (encV h w g))), none, none] ∧ H10 = H9, ?_, ?_⟩
    · refine ⟨_, rfl, _, rfl, _, rfl, byteArr ES, rfl, by rw [byteArr_size]; omega, ?_⟩
      rw [byteArr_upto (by omega), ← hE, enc_take hV]
      exact ⟨_, encV h w g, rfl, .inr ⟨rfl, encV_b8 hV⟩, encV_b8 hV, rfl, rfl⟩
    rintro σ H10 ⟨rfl, rfl⟩
    refine ⟨fun σ H11 => σ = [some (.byt (byteArr ES)), some (.int (h : Nat)), some (.int (w : Nat)), some (.int ((mb g.flatten).length : Nat)), some (.int ((4 + 2 * (mb g.flatten).length : Nat) : Int)), some (.ref l), v6, v7, v8, v9, some (.int (cks (encV h w g))), none, none] ∧ H11 = H10, ?_, ?_⟩
    · refine ⟨_, rfl, _, rfl, _, rfl, _, rfl, ?_⟩
      refine ⟨ES, 4 + 2 * (mb g.flatten).length, _, _, _, rfl, b8, by omega, ?_, Int.le_refl _, Int.le_refl _, rfl, rfl⟩
      rw [← hE]
      exact enc_last hV
    rintro σ H11 ⟨rfl, rfl⟩
    refine ⟨fun σ H12 => σ = [some (.byt (byteArr ES)), some (.int (h : Nat)), some (.int (w : Nat)), some (.int ((mb g.flatten).length : Nat)), some (.int ((4 + 2 * (mb g.flatten).length : Nat) : Int)), some (.ref l), v6, v7, v8, v9, some (.int (cks (encV h w g))), none, none] ∧ H12 = H11, ?_, ?_⟩
    · have e1 : decide (((4 + 2 * (mb g.flatten).length : Nat) : Int) + 1 < ((ES.length : Nat) : Int)) = false := decide_eq_false (by omega)
      refine ⟨_, rfl, _, ES.length, rfl, ⟨by rw [byteArr_size]; show _ ≤ 16777216; omega, by rw [byteArr_size]⟩, _, rfl, _, _, rfl, rfl, _, _, rfl, rfl, _, rfl, ?_⟩
      rw [e1]
      exact iteF ⟨rfl, rfl⟩
    rintro σ H12 ⟨rfl, rfl⟩
    refine ⟨fun σ H13 => ∃ D2, σ = [some (.byt (byteArr ES)), some (.int (h : Nat)), some (.int (w : Nat)), some (.int ((mb g.flatten).length : Nat)), some (.int ((4 + 2 * (mb g.flatten).length : Nat) : Int)), some (.ref l), v6, v7, v8, v9, some (.int (cks (encV h w g))), some (.ref D2), none] ∧ Same H6 H13 ∧ H13 D2 = some (.lst (rowV g)), ?_, ?_⟩
    · refine ⟨_, rfl, l, _, rfl, .inl (SqL.of hl9), _, rfl, 0, _, _, h, rfl, rg_up (by decide) ?_ (by omega) (by omega) (by omega) (by omega) ?_, fun D2 hD2 => lc_it (walk_rangeC (lo := 0) (c := (w : Int)) (n := h)) (fun i H13 => Same H12 H13 ∧ H13 D2 = some (.lst ((List.range i).map fun j => V.str (S ((g.flatten.drop (j * w)).take w)))))
          ⟨same_new hD2, upd_same⟩ (fun _ _ _ _ => True.intro) ?_ ?_⟩
      · rw [List.length_map, flat_len hV.rc]
        omega
      · rw [List.length_map, flat_len hV.rc, ← ehw, Int.zero_add, Int.mul_comm]
      · rintro i x H14 H13 hi ⟨sm, hD6⟩ ⟨rfl, rfl⟩
        have hiw : i * w + w ≤ h * w := by
          have : (i + 1) * w ≤ h * w := Nat.mul_le_mul_right _ hi
          rw [Nat.succ_mul] at this
          exact this
        have eiw : (0 + (i : Int) * (w : Int)) = ((i * w : Nat) : Int) := by simp
        have ecut : cutV (g.flatten.map sg) (some (0 + (i : Int) * (w : Int))) (some (0 + (i : Int) * (w : Int) + (w : Int))) = ((g.flatten.drop (i * w)).take w).map sg := by
          rw [eiw, show ((i * w : Nat) : Int) + (w : Int) = ((i * w + w : Nat) : Int) by omega]
          unfold cutV
          rw [HT.sIx_nat, HT.sIx_nat, List.length_map, flat_len hV.rc, Nat.min_eq_left hiw, Nat.min_eq_left (by omega : i * w ≤ h * w), show i * w + w - i * w = w by omega, List.map_take, List.map_drop]
        refine ⟨rfl, ?_⟩
        refine ⟨⟨_, rfl⟩, _, rfl, _, rfl, _, rfl, _, rfl, _, rfl, _, _, rfl, rfl, _, rfl, l, _, rfl, SqL.of (sm _ _ hl9), fun q hq => ?_⟩
        rw [ecut]
        have hD7 : (upd H13 q (.lst (((g.flatten.drop (i * w)).take w).map sg))) D2 = some (.lst ((List.range i).map fun j => V.str (S ((g.flatten.drop (j * w)).take w)))) := by
          rw [upd_ne (ne_of_none hD6 hq)]
          exact hD6
        refine ⟨_, q, ((g.flatten.drop (i * w)).take w).map fun c => S [c], rfl, rfl, .inl ?_, ?_, _, hD7, ?_, ?_⟩
        · rw [List.map_map]
          exact SqL.of upd_same
        · rw [_root_.TK.sum_ones, List.length_map, List.length_take, List.length_drop]
          show _ + _ * 0 ≤ _
          omega
        · rw [List.length_map, List.length_range]
          show _ < 16777216
          omega
        · refine ⟨same_put (sm.trans (same_new hq)) hD2, ?_⟩
          rw [upd_same, join_signs, List.range_succ, List.map_append]
          rfl
      · rintro H13 ⟨sm, hD6⟩
        refine ⟨D2, rfl, s9.trans sm, ?_⟩
        rw [hD6]
        have := chunk_id hV.rc
        unfold chunk at this
        conv => rhs; rw [← this]
        unfold rowV
        rw [List.map_map]
        rfl
    rintro σ H13 ⟨D2, rfl, s13, hD2⟩
    refine ⟨_, rfl, D2, _, rfl, .inr (SqL.of hD2), fun x dx nx ndx nex => ?_⟩
    refine ⟨[.ref x], rowV g, rfl, rfl, ?_, fun tp htp => ?_⟩
    · have := hV.len
      rw [List.length_map]
      show _ ≤ 16777216
      omega
    have hpx : x ≠ tp := fun z => by rw [← z, upd_same] at htp; cases htp
    refine ⟨x, dx, tp, h, w, _, rfl, by rw [upd_ne hpx, upd_same], SqT.of upd_same, hV, fun H' ht kp => ⟨rfl, ?_⟩⟩
    refine k _ _ (fun b o e => ?_) ht
    have e1 : H13 b = some o := s13 _ _ e
    have hbx : b ≠ x := ne_of_none e1 nx
    have hbd : b ≠ dx := ne_of_none e1 ndx
    have e2 : (upd (upd H13 dx (.own x)) x (.ins D dx [])) b = some o := by rw [upd_ne hbx, upd_ne hbd]; exact e1
    exact kp b o (by rw [upd_ne (ne_of_none e2 htp)]; exact e2) hbx
end
end TR
end
section
set_option Elab.async false
set_option maxRecDepth 100000
set_option linter.all false
namespace TR
open PySem PySem.Spec PyProof.Rows L2 TM TX TK TB TP TH TU TW
/-- the first and the last line -/
def edg (w : Nat) : List Nat := 43 :: (List.replicate w 45 ++ [43])
/-- the line of a row -/
def bar (r : List Nat) : List Nat := 124 :: (r ++ [124])
def lns (w : Nat) (g : Grid) : List (List Nat) := edg w :: (g.map bar ++ [edg w])
def drw (w : Nat) (g : Grid) : List Nat := TL.joinL [10] (lns w g)
theorem edg_len (w : Nat) : (edg w).length = w + 2 := by simp [edg]
theorem bar_len (r : List Nat) : (bar r).length = r.length + 2 := by simp [bar]
theorem rep_one (n a : Nat) : _root_.TB.rep n [a] = List.replicate n a := by
  unfold _root_.TB.rep
  induction n with
  | zero => rfl
  | succ n ih => rw [List.replicate_succ, List.flatten_cons, ih, List.replicate_succ]; rfl
theorem S_app (a b : List Nat) : S a ++ S b = S (a ++ b) := by
  show Str.mk (a.toArray ++ b.toArray) = _
  simp
theorem lns_len {h w : Nat} {g : Grid} (R : Rect h w g) : ∀ r ∈ lns w g, r.length = w + 2 := fun r hr => by
  unfold lns at hr
  rcases List.mem_cons.mp hr with e | hr
  · rw [e, edg_len]
  · rcases List.mem_append.mp hr with hr | hr
    · obtain ⟨s, hs, rfl⟩ := List.mem_map.mp hr
      rw [bar_len, R.2 s hs]
    · rw [List.mem_singleton.mp hr, edg_len]
theorem lns_n {h w : Nat} {g : Grid} (R : Rect h w g) : (lns w g).length = h + 2 := by
  simp [lns, R.1]
theorem lns_lf {h w : Nat} {g : Grid} (hV : VG h w g) : ∀ r ∈ lns w g, 10 ∉ r := fun r hr => by
  have he : 10 ∉ edg w := by
    unfold edg
    intro h
    rcases List.mem_cons.mp h with e | h
    · omega
    · rcases List.mem_append.mp h with h | h
      · have := (List.mem_replicate.mp h).2
        omega
      · have := List.mem_singleton.mp h
        omega
  unfold lns at hr
  rcases List.mem_cons.mp hr with e | hr
  · rw [e]; exact he
  · rcases List.mem_append.mp hr with hr | hr
    · obtain ⟨s, hs, rfl⟩ := List.mem_map.mp hr
      have := lf_not hV s hs
      unfold bar
      intro h
      rcases List.mem_cons.mp h with e | h
      · omega
      · rcases List.mem_append.mp h with h | h
        · exact this h
        · have := List.mem_singleton.mp h
          omega
    · rw [List.mem_singleton.mp hr]; exact he
theorem drw_split {h w : Nat} {g : Grid} (hV : VG h w g) : Txt.split (S (drw w g)) (S [10]) = (lns w g).map S := by
  unfold drw
  rw [SX.split_S (by simp) (by rfl), SX.spl_join (by simp [lns]) (lns_lf hV)]
theorem drw_len {h w : Nat} {g : Grid} (hV : VG h w g) : (drw w g).length ≤ 200 := by
  have h1 := joinL_len [10] (w + 2) (lns w g) fun r hr => Nat.le_of_eq (lns_len hV.rc r hr)
  rw [lns_n hV.rc] at h1
  have h8 := hV.n8
  have w8 := hV.m8
  have : (h + 2) * (w + 2 + [10].length) ≤ 10 * 11 := Nat.mul_le_mul (by omega) (by simp; omega)
  unfold drw
  omega
def tJo (ts : List TE) : TE := fun σ H Q => tJs ts Str.empty σ H fun out H1 => Q (.str out) H1
theorem pe_jo {X : Cx} {v1 v2 : Expr} {rest : List Expr} {ts : List TE} {pos : Pos} (h : PJ X (v1 :: v2 :: rest) ts) : PE X (.JoinedStr (v1 :: v2 :: rest) pos) (tJo ts) := pe_joined h
theorem pi_tupN {X : Cx} {K : PySem.W.Frag} {tg l : Expr} {tl : TE} (hl : PE X l tl) (hK : X.K = K := by rfl) : PI X tg l (iTup K tl) := by
  subst hK
  exact pi_tup hl
theorem sq_sm {K : PySem.W.Frag} {H H' : Hp} (s : Same H H') {a : Addr} {xs : List V} (h : SqT K H a xs) : SqT K H' a xs := by
  rcases h with (h | ⟨u, h⟩) | h
  · exact .inl (.inl (s _ _ h))
  · exact .inl (.inr ⟨u, s _ _ h⟩)
  · exact .inr h
theorem lnsum (k : Nat) : ∀ l : List (List Nat), (∀ r ∈ l, r.length = k) → ((l.map S).map (·.length)).sum = l.length * k
  | [], _ => by simp
  | a :: l, h => by
    rw [List.map_cons, List.map_cons, List.sum_cons, lnsum k l fun r hr => h r (List.mem_cons_of_mem _ hr), S_len, h a List.mem_cons_self, List.length_cons, Nat.succ_mul, Nat.add_comm]
section
variable {P : Program} {w_ : World} {K : PySem.W.Frag} {mg : Str → Option Value} {base : Heap} {D gBd gW gR pW pR : Addr} {fdBd fdW fdR : FuncData}
abbrev NBd : List Str := ["width"]
theorem scBd : FnScope NBd ["width"] (defScope sBorder) := ⟨rfl, rfl, rfl, by decide +kernel, rfl, by decide +kernel, by decide +kernel⟩
def spBd : Sp := fun vs H Q _ => ∃ w : Nat, vs = [.int (w : Nat)] ∧ w ≤ 8 ∧ Q (.str (S (edg w))) H
theorem ok_bd {f : Addr} {fd : FuncData} (F : Fun K "_border" "_border" sBorder f fd) : FnOk P w_ K mg base CX0 1 f fd NBd spBd := by
  refine F.ok scBd (fun vs H Q E h => ?_) (fun cdv A outer s H vs Q E hr h => ?_)
  · obtain ⟨w, rfl, _⟩ := h
    rfl
  · obtain ⟨w, rfl, w8, k⟩ := h
    refine ⟨_, pss_one (ps_ret (pe_op op_add_str (pe_op op_add_str pe_str (pe_op _root_.TB.op_repS pe_str (pv 0))) pe_str)), ?_⟩
    refine ⟨_, rfl, [45], w, rfl, rfl, by decide, by omega, _, _, rfl, rfl, ?_, _, _, rfl, rfl, ?_, ?_⟩
    · rw [rep_one]
      show 1 + (S (List.replicate w 45)).length ≤ 16777216
      rw [S_len, List.length_replicate]
      omega
    · rw [rep_one]
      show (S [43] ++ S (List.replicate w 45)).length + 1 ≤ 16777216
      rw [S_app, S_len, List.length_append, List.length_replicate]
      show 1 + w + 1 ≤ _
      omega
    · rw [rep_one]
      have : (S [43] ++ S (List.replicate w 45)) ++ S [43] = S (edg w) := by
        rw [S_app, S_app]
        rfl
      exact this ▸ k
abbrev NDr : List Str := ["tray", "border", "lines", "row"]
theorem scDr : FnScope NDr ["tray"] (defScope sDrawing) := ⟨rfl, rfl, rfl, by decide +kernel, rfl, by decide +kernel, by decide +kernel⟩
def spDr (K : PySem.W.Frag) (D : Addr) : Sp := fun vs H Q _ => ∃ (p h w : Nat) (g : Grid), vs = [.ref p] ∧ TrayAt K D H p g ∧ VG h w g ∧ ∀ H', Same H H' → Q (.str (S (drw w g))) H'
theorem ok_dr {f : Addr} {fd : FuncData} (F : Fun K "drawing" "drawing" sDrawing f fd) (CT : ClsT K mg D) (PR : PropOf K D "rows" pR gR) (GR : FnOk P w_ K mg base CX0 1 gR fdR ["self"] (getSp D "_rows")) (bR : Binds K fdR ["self"] [])
    (PW : PropOf K D "width" pW gW) (GW : FnOk P w_ K mg base CX0 1 gW fdW ["self"] (spWd K D)) (bW : Binds K fdW ["self"] []) (GB : FnOk P w_ K mg base CX0 1 gBd fdBd NBd spBd) (kB : PySem.W.keepIn K (.ref gBd) = true) (bB : Binds K fdBd NBd []) (mB : mg "_border" = some (.ref gBd)) : FnOk P w_ K mg base CX0 4 f fd ["tray"] (spDr K D) := by
  refine F.ok scDr (fun vs H Q E h => ?_) (fun cdv A outer s H vs Q E hr h => ?_)
  · obtain ⟨p, h, w, g, rfl, _⟩ := h
    rfl
  · obtain ⟨p, h, w, g, rfl, T0, hV, k⟩ := h
    have nd := scDr.nd
    have r2 := hr.mono (show 2 ≤ 3 by decide)
    have r1 := hr.mono (show 1 ≤ 3 by decide)
    refine ⟨_, C8.pss_cut (ps_set (i := 1) nd rfl (.inl rfl) (pe_call GB r1 rfl mB kB bB .nil pass0 (pa_cons (pe_prop (pv 0) CT.cl PW GW r2 bW .nil pass0 rfl) pa_nil)))
      (C8.pss_cut (ps_setLc (i := 2) (own := [("row", 3)]) (g := gName 3) (tt := tYes) rfl nd rfl rfl (sw_true rfl rfl rfl (by decide +kernel)) (pi_tupN (K := K) (pe_prop (pv 0) CT.cl PR GR r2 bR .nil pass0 rfl)) (blkOk_by (N := NDr) (sc := defScope sDrawing) (by decide +kernel)) (fun _ _ _ _ _ => pg_name (i := 3) nd rfl (.inl rfl)) (fun _ _ _ _ _ => pts_nil)
        (fun _ _ _ _ _ => pe_jo (.cons pe_str (.cons (pe_fmt (pv 3)) (.cons pe_str .nil)))))
      (pss_one (ps_ret (pe_joinK (K := K) rfl pe_str (pe_lst (pa_cons (pv 1) (StX.pa_star (pv 2) (pa_cons (pv 1) pa_nil)))))))), ?_⟩
    obtain ⟨dp, ap, hp, hS⟩ := id T0
    have w8 := hV.m8
    have h8 := hV.n8
    refine ⟨fun σ H1 => σ = [some (.ref p), some (.str (S (edg w))), none, none] ∧ H1 = H, ?_, ?_⟩
    · exact ⟨_, rfl, p, dp, _, rfl, hp, p, h, w, g, rfl, T0, hV, w, rfl, w8, rfl, rfl⟩
    rintro σ H1 ⟨rfl, rfl⟩
    refine ⟨fun σ H2 => ∃ l, σ = [some (.ref p), some (.str (S (edg w))), some (.ref l), none] ∧ Same H1 H2 ∧ H2 l = some (.lst ((g.map bar).map fun r => V.str (S r))), ?_, ?_⟩
    · refine ⟨_, rfl, p, dp, _, rfl, hp, p, dp, _, _, rfl, hp, rfl, ap, rfl, ⟨rowV g, hS⟩, fun l hl => lc_it (n := (rowV g).length) (walk_tup (a := ap) (xs := rowV g)) (fun i H2 => Same H1 H2 ∧ H2 l = some (.lst (((g.take i).map bar).map fun r => V.str (S r)))) ⟨same_new hl, upd_same⟩ (fun _ _ _ q => sq_sm (K := K) q.1 hS) ?_ ?_⟩
      · rintro i x H3 H2 hi ⟨sm, hL⟩ ⟨rfl, hx⟩
        obtain ⟨r, hr2, rfl⟩ : ∃ r, g[i]? = some r ∧ x = V.str (S r) := by
          have : (g.map fun r => V.str (S r))[i]? = some x := hx
          rw [List.getElem?_map] at this
          cases e : g[i]? with
          | none => rw [e] at this; cases this
          | some r => rw [e] at this; exact ⟨r, rfl, (Option.some.inj this).symm⟩
        have hrl : r.length = w := hV.rc.2 r (List.mem_of_getElem? hr2)
        refine ⟨rfl, ?_⟩
        have e0 : (Str.empty ++ S [124]).length = 1 := rfl
        have e1 : Str.empty ++ S [124] ++ S r = S (124 :: r) := by rw [show (Str.empty ++ S [124] : Str) = S [124] from rfl, S_app]; rfl
        have e2 : S (124 :: r) ++ S [124] = S (bar r) := by rw [S_app]; rfl
        refine ⟨_, rfl, by show 1 ≤ 16777216; decide, _, rfl, .inl ⟨_, rfl, by rw [S_len]; show _ ≤ 16777216; omega, _, rfl, ?_, _, rfl, ?_, ?_⟩⟩
        · show (Str.empty ++ S [124] ++ S r).length ≤ _
          rw [e1, S_len]
          show r.length + 1 ≤ 16777216
          omega
        · show (Str.empty ++ S [124] ++ S r ++ S [124]).length ≤ _
          rw [e1, e2, S_len, bar_len]
          show _ ≤ 16777216
          omega
        · show ∃ acc, _ ∧ _ ∧ _
          rw [show (Str.empty ++ Str.ofString "|" ++ S r ++ Str.ofString "|" : Str) = S (bar r) from (by show Str.empty ++ S [124] ++ S r ++ S [124] = _; rw [e1, e2])]
          refine ⟨_, hL, ?_, same_put sm (by assumption), ?_⟩
          · rw [List.length_map, List.length_map, List.length_take]
            have := hV.rc.1
            show _ < 16777216
            omega
          · rw [upd_same, List.take_succ, hr2]
            simp
      · rintro H2 ⟨sm, hL⟩
        rw [show (rowV g).length = g.length from List.length_map _, List.take_length] at hL
        exact ⟨l, rfl, sm, hL⟩
    rintro σ H2 ⟨l, rfl, s2, hL⟩
    refine ⟨⟨_, rfl⟩, _, rfl, _, rfl, l, _, rfl, .inr (SqL.of hL), _, rfl, ?_, fun q hq => ?_⟩
    · rw [List.length_cons, List.length_append, List.length_map, List.length_map]
      have := hV.rc.1
      show g.length + 1 + 1 ≤ 16777216
      omega
    have e0 : V.str (S (edg w)) :: (List.map (fun r => V.str (S r)) (List.map bar g) ++ [V.str (S (edg w))]) = ((lns w g).map S).map V.str := by
      unfold lns
      rw [List.map_map, List.map_map, List.map_cons, List.map_append, List.map_map]
      rfl
    have hq1 : (upd H2 q (.lst (V.str (S (edg w)) :: (List.map (fun r => V.str (S r)) (List.map bar g) ++ [V.str (S (edg w))])))) q = some (.lst (((lns w g).map S).map V.str)) := by rw [upd_same, e0]
    refine ⟨_, q, (lns w g).map S, rfl, rfl, .inl (SqL.of hq1), ?_, ?_⟩
    · rw [lnsum (w + 2) _ (lns_len hV.rc), List.length_map, lns_n hV.rc]
      have : (h + 2) * (w + 2) ≤ 10 * 10 := Nat.mul_le_mul (by omega) (by omega)
      show _ + _ * 1 ≤ 16777216
      omega
    rw [show (Str.ofString "\n" : Str) = S [10] from rfl, SX.join_S]
    exact k _ (s2.trans (same_new hq))
end
end TR
end
namespace TM
end TM
namespace TM
end TM
section
set_option Elab.async false
set_option maxRecDepth 100000
set_option linter.all false
namespace TI
open PySem PySem.Spec PyProof.Rows L2 TM TK TB TP TH TU TW TR
theorem cut_lo {t : List Nat} {d : Nat} (h : d ≤ t.length) : cutS (S t) none (some (d : Int)) = S (t.take d) := by
  unfold cutS
  rw [S_len, S_list]
  have e1 : HT.sIx t.length 0 none = 0 := rfl
  have e2 : HT.sIx t.length t.length (some (d : Int)) = d := by
    unfold HT.sIx
    simp
    split
    · omega
    · omega
  rw [e1, e2]
  simp
theorem cut_hi {t : List Nat} {d : Nat} (h : d ≤ t.length) : cutS (S t) (some (d : Int)) none = S (t.drop d) := by
  unfold cutS
  rw [S_len, S_list]
  have e1 : HT.sIx t.length t.length none = t.length := rfl
  have e2 : HT.sIx t.length 0 (some (d : Int)) = d := by
    unfold HT.sIx
    simp
    split
    · omega
    · omega
  rw [e1, e2]
  have : (t.drop d).take (t.length - d) = t.drop d := List.take_of_length_le (by rw [List.length_drop]; exact Nat.le_refl _)
  rw [this]
theorem ixN_nat {n i : Nat} (h : i < n) : ixN n (i : Int) = some i := by
  unfold ixN
  simp
  omega

/-- another cell -/
def putc (g : Grid) (i j c : Nat) : Grid := g.set i ((g.getD i []).set j c)
theorem row_at {h w : Nat} {g : Grid} (R : Rect h w g) {i : Nat} (hi : i < h) : ∃ r, g[i]? = some r ∧ g.getD i [] = r ∧ r.length = w := by
  have hi' : i < g.length := by rw [R.1]; exact hi
  refine ⟨g[i], List.getElem?_eq_getElem hi', by rw [List.getD_eq_getElem?_getD, List.getElem?_eq_getElem hi']; rfl, R.2 _ (List.getElem_mem hi')⟩
theorem putc_flat : ∀ {g : Grid} {w i j c : Nat}, (∀ r ∈ g, r.length = w) → i < g.length → j < w → (putc g i j c).flatten = g.flatten.set (i * w + j) c
  | [], _, _, _, _, _, hi, _ => by simp at hi
  | r :: g, w, 0, j, c, hr, _, hj => by
    have e := hr r List.mem_cons_self
    show (r.set j c :: g).flatten = _
    rw [List.flatten_cons, List.flatten_cons, Nat.zero_mul, Nat.zero_add, List.set_append_left _ _ (by omega)]
  | r :: g, w, i + 1, j, c, hr, hi, hj => by
    have e := hr r List.mem_cons_self
    have ih := putc_flat (g := g) (w := w) (i := i) (j := j) (c := c) (fun z hz => hr z (List.mem_cons_of_mem _ hz)) (by simpa using hi) hj
    show (r :: putc g i j c).flatten = _
    rw [List.flatten_cons, List.flatten_cons, ih, List.set_append_right _ _ (by rw [e, Nat.add_mul, Nat.one_mul]; omega), e]
    congr 2
    rw [Nat.add_mul, Nat.one_mul]
    omega
theorem set_split {l : List Nat} {k : Nat} (h : k < l.length) (c : Nat) : l.set k c = l.take k ++ c :: l.drop (k + 1) := by
  rw [List.set_eq_take_append_cons_drop, if_pos h]
theorem own_split {l : List Nat} {k x : Nat} (h : l[k]? = some x) : l = l.take k ++ x :: l.drop (k + 1) := by
  obtain ⟨hk, e⟩ := List.getElem?_eq_some_iff.mp h
  rw [← e, List.getElem_cons_drop, List.take_append_drop]
theorem putc_rect {h w : Nat} {g : Grid} (R : Rect h w g) {i j c : Nat} (hi : i < h) : Rect h w (putc g i j c) := by
  obtain ⟨r, h1, h2, h3⟩ := row_at R hi
  refine ⟨by unfold putc; rw [List.length_set]; exact R.1, fun z hz => ?_⟩
  rcases List.mem_or_eq_of_mem_set hz with q | rfl
  · exact R.2 z q
  · rw [List.length_set, h2, h3]
/-- a marble more, a marble less -/
theorem putc_VG {h w : Nat} {g : Grid} (hV : VG h w g) {i j c x : Nat} (hi : i < h) (hj : j < w) (hx : g.flatten[i * w + j]? = some x) (hc : Cell c) (hp : (x = 46 ∧ c ∉ mb g.flatten) ∨ c = 46) : VG h w (putc g i j c) := by
  have fl : (putc g i j c).flatten = g.flatten.take (i * w + j) ++ c :: g.flatten.drop (i * w + j + 1) := by
    rw [putc_flat hV.rc.2 (by rw [hV.rc.1]; exact hi) hj, set_split (List.getElem?_eq_some_iff.mp hx).1]
  refine ⟨putc_rect hV.rc hi, hV.n1, hV.n8, hV.m1, hV.m8, fun r hr d hd => ?_, ?_⟩
  · rcases List.mem_or_eq_of_mem_set hr with q | rfl
    · exact hV.ok r q d hd
    · obtain ⟨r', h1, h2, h3⟩ := row_at hV.rc hi
      rw [h2] at hd
      rcases List.mem_or_eq_of_mem_set hd with q | rfl
      · exact hV.ok r' (List.mem_of_getElem? h1) d q
      · exact hc
  · have nd := hV.nd
    rw [own_split hx, mb_app, show mb (x :: g.flatten.drop (i * w + j + 1)) = mb ([x] ++ g.flatten.drop (i * w + j + 1)) from rfl, mb_app] at nd
    rw [fl, mb_app, show mb (c :: g.flatten.drop (i * w + j + 1)) = mb ([c] ++ g.flatten.drop (i * w + j + 1)) from rfl, mb_app]
    have drop : (mb (g.flatten.take (i * w + j)) ++ mb (g.flatten.drop (i * w + j + 1))).Nodup := nd.sublist (List.Sublist.append_left (List.sublist_append_right _ _) _)
    rcases hp with ⟨rfl, hn⟩ | rfl
    · have c46 : c = 46 ∨ c ≠ 46 := by omega
      rcases c46 with rfl | c46
      · exact drop
      · have e1 : mb [c] = [c] := by simp [mb, c46]
        rw [e1]
        refine (List.perm_middle (a := c) (l₁ := mb (g.flatten.take (i * w + j))) (l₂ := mb (g.flatten.drop (i * w + j + 1)))).nodup_iff.mpr (List.nodup_cons.mpr ⟨fun z => hn ?_, drop⟩)
        rw [own_split hx, mb_app, show mb (46 :: g.flatten.drop (i * w + j + 1)) = mb (g.flatten.drop (i * w + j + 1)) by simp [mb]]
        exact z
    · exact drop
end TI
end
section
set_option Elab.async false
set_option maxRecDepth 100000
set_option linter.all false
namespace TR
open PySem PySem.Spec PyProof.Rows L2 TM TX TK TB TP TH TU TW
def Fits (rows : List (List Nat)) (k : Nat) (ys : List (List Nat)) : Prop := ∃ r : List Nat, rows[k]? = some r ∧ r.length = ys.length ∧ (∀ j c : Nat, r[j]? = some c → ∃ y, ys[j]? = some y ∧ c ∈ y) ∧ ∀ j c : Nat, r[j]? = some c → 97 ≤ c → c < 123 → c ∉ (rows.take k).flatten ++ r.take j
abbrev tsV (rows : List (List Nat)) : List V := rows.map fun r => V.str (S r)
theorem mem_lets {c : Nat} (h : c ∈ letters) : 97 ≤ c ∧ c < 123 := by
  have : ∀ c ∈ letters, 97 ≤ c ∧ c < 123 := by decide
  exact this c h
theorem flat_le {k : Nat} : ∀ {rows : List (List Nat)}, (∀ r ∈ rows, r.length ≤ k) → rows.flatten.length ≤ rows.length * k
  | [], _ => by simp
  | r :: rows, h => by
    have h1 := h r List.mem_cons_self
    have h2 := flat_le (k := k) fun x hx => h x (List.mem_cons_of_mem r hx)
    rw [List.flatten_cons, List.length_append, List.length_cons, Nat.succ_mul]
    omega
theorem joinS_nil (rows : List (List Nat)) : Txt.join (Str.ofString "") (rows.map S) = S rows.flatten := by
  rw [show (Str.ofString "" : Str) = S [] from rfl, SX.join_S]
  congr 1
  exact TK.joinL_nil rows
theorem slen_sum : ∀ rows : List (List Nat), ((rows.map S).map (·.length)).sum = rows.flatten.length
  | [] => rfl
  | r :: rows => by
    rw [List.map_cons, List.map_cons, List.sum_cons, slen_sum rows, List.flatten_cons, List.length_append, S_len]
theorem cutV_tkN (t : List V) (d : Nat) : cutV t none (some (d : Int)) = t.take d := by
  unfold cutV
  rw [HT.sIx_none, HT.sIx_nat, Nat.sub_zero, List.drop_zero]
  rcases Nat.le_total d t.length with h | h
  · rw [Nat.min_eq_left h]
  · rw [Nat.min_eq_right h, List.take_length, List.take_of_length_le h]
section
variable {P : Program} {w_ : World} {K : PySem.W.Frag} {mg : Str → Option Value} {base : Heap}
abbrev NCl : List Str := ["lines", "number", "allowed", "line", "ahead", "column", "signs"]
theorem scCl : FnScope NCl ["lines", "number", "allowed"] (defScope sCheckLine) := ⟨rfl, rfl, rfl, by decide +kernel, rfl, by decide +kernel, by decide +kernel⟩
def spCL (K : PySem.W.Frag) : Sp := fun vs H Q _ => ∃ (l a : Addr) (k : Nat) (rows ys : List (List Nat)), vs = [.ref l, .int (k : Nat), .ref a] ∧ SqL K H l (tsV rows) ∧ SqL K H a (tsV ys) ∧ rows.length ≤ 100 ∧ (∀ r ∈ rows, r.length ≤ 100) ∧ Fits rows k ys ∧ ∀ H', Same H H' → Q .non H'
theorem ok_cL {f : Addr} {fd : FuncData} (F : Fun K "_check_line" "_check_line" sCheckLine f fd) (T : CodF K mg) (hen : mg "enumerate" = none) (hLE : ∃ u, mg "LETTERS" = some u ∧ RelV (.str (S letters)) u) : FnOk P w_ K mg base CX0 1 f fd ["lines", "number", "allowed"] (spCL K) := by
  refine F.ok scCl (fun vs H Q E h => ?_) (fun cdv A outer s H vs Q E hr h => ?_)
  · obtain ⟨l, a, k, rows, ys, rfl, _⟩ := h
    rfl
  · obtain ⟨l, a, k, rows, ys, rfl, hl, ha, n100, r100, ⟨r, hr1, hlen, hin, hun⟩, q⟩ := h
    have nd := scCl.nd
    refine ⟨_, C8.pss_cut (ps_set (i := 3) nd rfl (.inl rfl) (pe_ix (ix_listK (K := K) rfl) (pv 0) (pv 1) (fun _ _ => rfl)))
      (C8.pss_cut (ps_set (i := 4) nd rfl (.inl rfl) (pe_joinK (K := K) rfl pe_str (pe_slice (sl_listK (K := K) rfl) (pv 0) po_none (po_some (pv 1)))))
      (C8.pss_cut (ps_for PassesOwn.never rfl (pi_enum (by rfl) hen (pa_cons (pv 2) pa_nil)) (pg_tup (by rfl) (pgs_cons (pg_name (i := 5) nd rfl (.inl rfl)) (pgs_cons (pg_name (i := 6) nd rfl (.inl rfl)) pgs_nil)))
        (C8.pss_cut (ps_if (PW.pt (pw_or (pt_cmpR op_ge (pv 5) (pe_callB call_len_str (by rfl) T.len PySem.boot_len (pa_cons (pv 3) pa_nil)) (nomark _)) (pw_or1 (pt_cmpR op_notIn_sign (pe_ix ix_str (pv 3) (pv 5) (fun _ _ => rfl)) (pv 6) (by rfl))))) pss_never pss_nil)
        (pss_one (ps_if (PW.pt (pw_and (pt_cmpR op_in_sign (pe_ix ix_str (pv 3) (pv 5) (fun _ _ => rfl)) (C8.pe_gc rfl hLE) (by rfl)) (pw_and1 (pt_cmpR op_in_sign (pe_ix ix_str (pv 3) (pv 5) (fun _ _ => rfl)) (pe_op op_add_str (pv 4) (pe_slice sl_str (pv 3) po_none (po_some (pv 5)))) (by rfl))))) pss_never pss_nil))))
      (pss_one (ps_if (pt_cmpR op_gt (pe_callB call_len_str (by rfl) T.len PySem.boot_len (pa_cons (pv 3) pa_nil)) (pe_callB call_len_seq (by rfl) T.len PySem.boot_len (pa_cons (pv 2) pa_nil)) (nomark _)) pss_never pss_nil)))), ?_⟩
    have rl := r100 r (List.mem_of_getElem? hr1)
    have sz : (S r).length ≤ sizeLine := by
      rw [S_len]
      show _ ≤ 16777216
      omega
    refine ⟨fun σ H1 => σ = [some (.ref l), some (.int (k : Nat)), some (.ref a), some (.str (S r)), none, none, none] ∧ H1 = H, ?_, ?_⟩
    · exact ⟨_, rfl, _, rfl, l, _, _, _, rfl, rfl, hl, atI_nat (by rw [List.getElem?_map, hr1]; rfl), rfl, rfl⟩
    rintro σ H1 ⟨rfl, rfl⟩
    refine ⟨fun σ H2 => σ = [some (.ref l), some (.int (k : Nat)), some (.ref a), some (.str (S r)), some (.str (S (rows.take k).flatten)), none, none] ∧ Same H1 H2, ?_, ?_⟩
    · refine ⟨⟨_, rfl⟩, _, rfl, _, rfl, _, rfl, l, _, rfl, hl, fun q' hq => ?_⟩
      have e1 : cutV (tsV rows) none (some (k : Int)) = ((rows.take k).map S).map V.str := by
        rw [cutV_tkN, List.map_map, ← List.map_take]
        rfl
      refine ⟨_, q', (rows.take k).map S, rfl, rfl, .inl ?_, ?_, ?_⟩
      · rw [← e1]
        exact SqL.of upd_same
      · rw [slen_sum]
        have := flat_le (k := 100) (rows := rows.take k) fun x hx => r100 x (List.mem_of_mem_take hx)
        rw [List.length_take] at this
        have := Nat.mul_le_mul_right 100 (Nat.le_trans (Nat.min_le_right k rows.length) n100)
        show _ + _ * 0 ≤ 16777216
        omega
      · rw [joinS_nil]
        exact ⟨rfl, same_new hq⟩
    rintro σ H2 ⟨rfl, s2⟩
    have ha2 := s2.seq ha
    have tkl : (rows.take k).flatten.length ≤ 10000 := by
      have := flat_le (k := 100) (rows := rows.take k) fun x hx => r100 x (List.mem_of_mem_take hx)
      rw [List.length_take] at this
      have := Nat.mul_le_mul_right 100 (Nat.le_trans (Nat.min_le_right k rows.length) n100)
      omega
    refine ⟨fun σ H3 => ∃ v5 v6, σ = [some (.ref l), some (.int (k : Nat)), some (.ref a), some (.str (S r)), some (.str (S (rows.take k).flatten)), v5, v6] ∧ Same H1 H3, ?_, ?_⟩
    · refine ⟨_, rfl, a, _, rfl, ha2, for_it (n := (tsV ys).length) (walk_enum (K := K) (a := a) (xs := tsV ys)) (fun i σ H3 => ∃ v5 v6, σ = [some (.ref l), some (.int (k : Nat)), some (.ref a), some (.str (S r)), some (.str (S (rows.take k).flatten)), v5, v6] ∧ Same H1 H3) ⟨none, none, rfl, s2⟩ (fun i σ H3 _ ⟨_, _, _, s3⟩ => s3.seq ha) ?_ ?_⟩
      · rintro i x σ H3 H4 hi ⟨v5, v6, rfl, s3⟩ ⟨T0, x1, x2, rfl, hT, rfl, e1, e2⟩
        cases e1
        have hi' : i < ys.length := by rw [List.length_map] at hi; exact hi
        obtain ⟨c, hc⟩ : ∃ c, r[i]? = some c := ⟨_, List.getElem?_eq_getElem (by omega)⟩
        obtain ⟨y, hy, hcy⟩ := hin i c hc
        have ex2 : x2 = .str (S y) := by
          have e3 : (ys.map fun r => V.str (S r))[i]? = some x2 := e2
          rw [List.getElem?_map, hy] at e3
          exact (Option.some.inj e3).symm
        subst ex2
        have s4 : Same H1 (upd H3 T0 (.tup [V.int (i : Nat), V.str (S y)])) := s3.trans (same_new hT)
        have aC : atI (S r).cps.toList ((i : Nat) : Int) = some c := by rw [S_list]; exact atI_nat hc
        refine ⟨T0, _, rfl, SqT.of upd_same, rfl, _, _, rfl, _, _, rfl, rfl, ?_⟩
        refine ⟨fun σ H5 => σ = [some (.ref l), some (.int (k : Nat)), some (.ref a), some (.str (S r)), some (.str (S (rows.take k).flatten)), some (.int (i : Nat)), some (.str (S y))] ∧ Same H1 H5, ?_, ?_⟩
        · refine ⟨_, rfl, _, rfl, _, rfl, sz, _, _, rfl, rfl, false, ?_, iteF ⟨_, rfl, _, rfl, S r, _, c, rfl, rfl, sz, aC, _, rfl, c, S y, rfl, rfl, false, ?_, iteF ⟨rfl, s4⟩⟩⟩
          · rw [S_len]
            exact congrArg V.bl (decide_eq_false (by omega))
          · rw [S_list, decide_eq_true hcy]
            rfl
        rintro σ H5 ⟨rfl, s5⟩
        by_cases hle : c ∈ letters
        · have h97 := mem_lets hle
          refine ⟨_, rfl, _, rfl, S r, _, c, rfl, rfl, sz, aC, c, S letters, rfl, rfl, true, ?_, iteT ⟨_, rfl, _, rfl, S r, _, c, rfl, rfl, sz, aC, _, rfl, _, rfl, _, rfl, _, rfl, S r, rfl, sz, ?_⟩⟩
          · rw [S_list]
            exact congrArg V.bl (decide_eq_true hle)
          · rw [TI.cut_lo (by omega)]
            refine ⟨_, _, rfl, rfl, ?_, c, _, rfl, rfl, false, ?_, iteF ⟨_, _, rfl, s5⟩⟩
            · rw [S_len, S_len, List.length_take]
              show _ ≤ 16777216
              omega
            · rw [S_app, S_list]
              exact congrArg V.bl (decide_eq_false (hun i c hc h97.1 h97.2))
        · refine ⟨_, rfl, _, rfl, S r, _, c, rfl, rfl, sz, aC, c, S letters, rfl, rfl, false, ?_, iteF (iteF ⟨_, _, rfl, s5⟩)⟩
          rw [S_list]
          exact congrArg V.bl (decide_eq_false hle)
      · rintro σ H3 h3
        exact h3
    rintro σ H3 ⟨v5, v6, rfl, s3⟩
    refine ⟨_, rfl, _, rfl, sz, _, rfl, a, _, rfl, .inl (s3.seq ha), _, _, rfl, rfl, false, ?_, iteF (q _ s3)⟩
    rw [S_len, List.length_map, hlen]
    exact congrArg V.bl (decide_eq_false (by omega))
end
end TR
end
section
set_option Elab.async false
set_option maxRecDepth 100000
set_option linter.all false
namespace TR
open PySem PySem.Spec PyProof.Rows L2 TM TX TK TB TP TH TU TW
def ysE (w : Nat) : List (List Nat) := (edg w).map fun c => [c]
def ysB (w : Nat) : List (List Nat) := [124] :: (List.replicate w (46 :: letters) ++ [[124]])
theorem edg_no {w c : Nat} (h : c ∈ edg w) : c < 97 := by
  unfold edg at h
  rcases List.mem_cons.mp h with e | h
  · omega
  · rcases List.mem_append.mp h with h | h
    · have := (List.mem_replicate.mp h).2
      omega
    · have := List.mem_singleton.mp h
      omega
theorem fits_edg {w k : Nat} {rows : List (List Nat)} (h : rows[k]? = some (edg w)) : Fits rows k (ysE w) := by
  refine ⟨_, h, (List.length_map _).symm, fun j c hc => ⟨[c], ?_, List.mem_singleton.mpr rfl⟩, fun j c hc h1 _ => ?_⟩
  · unfold ysE
    rw [List.getElem?_map, hc]
    rfl
  · have := edg_no (List.mem_of_getElem? hc)
    omega
theorem bar_at {r : List Nat} {j c : Nat} (h : (bar r)[j]? = some c) : (c = 124 ∧ (j = 0 ∨ j = r.length + 1)) ∨ (∃ i, j = i + 1 ∧ r[i]? = some c) := by
  cases j with
  | zero =>
    cases h
    exact .inl ⟨rfl, .inl rfl⟩
  | succ i =>
    have h' : (r ++ [124])[i]? = some c := h
    by_cases hi : i < r.length
    · rw [List.getElem?_append_left hi] at h'
      exact .inr ⟨i, rfl, h'⟩
    · have hl := (List.getElem?_eq_some_iff.mp h').1
      rw [List.length_append, List.length_singleton] at hl
      have : i = r.length := by omega
      subst this
      rw [List.getElem?_append_right (Nat.le_refl _), Nat.sub_self] at h'
      cases h'
      exact .inl ⟨rfl, .inr rfl⟩
theorem at_flat {h w : Nat} {g : Grid} (R : Rect h w g) {i j c : Nat} {r : List Nat} (hr : g[i]? = some r) (hc : r[j]? = some c) : g.flatten[i * w + j]? = some c ∧ j < w := by
  have hi := (List.getElem?_eq_some_iff.mp hr).1
  have hj := (List.getElem?_eq_some_iff.mp hc).1
  have rl := R.2 r (List.mem_of_getElem? hr)
  rw [R.1] at hi
  rw [rl] at hj
  refine ⟨?_, hj⟩
  rw [flat_at R hi hj]
  unfold cell
  rw [show g.getD i [] = r by rw [List.getD_eq_getElem?_getD, hr]; rfl, List.getD_eq_getElem?_getD, hc]
  rfl
theorem lns_bar {h w : Nat} {g : Grid} (R : Rect h w g) {i : Nat} {r : List Nat} (hr : g[i]? = some r) : (lns w g)[i + 1]? = some (bar r) := by
  have hi := (List.getElem?_eq_some_iff.mp hr).1
  show (g.map bar ++ [edg w])[i]? = _
  rw [List.getElem?_append_left (by rw [List.length_map]; exact hi), List.getElem?_map, hr]
  rfl
theorem lns_end {h w : Nat} {g : Grid} (R : Rect h w g) : (lns w g)[h + 1]? = some (edg w) := by
  show (g.map bar ++ [edg w])[h]? = _
  rw [List.getElem?_append_right (by rw [List.length_map, R.1]; exact Nat.le_refl _), List.length_map, R.1, Nat.sub_self]
  rfl
theorem fits_bar {h w : Nat} {g : Grid} (hV : VG h w g) {i : Nat} (hi : i < h) : Fits (lns w g) (i + 1) (ysB w) := by
  obtain ⟨r, hr⟩ : ∃ r, g[i]? = some r := ⟨_, List.getElem?_eq_getElem (by rw [hV.rc.1]; exact hi)⟩
  have rl : r.length = w := hV.rc.2 r (List.mem_of_getElem? hr)
  refine ⟨_, lns_bar hV.rc hr, ?_, fun j c hc => ?_, fun j c hc h1 h2 => ?_⟩
  · rw [bar_len, rl]
    simp [ysB]
  · rcases bar_at hc with ⟨rfl, rfl | rfl⟩ | ⟨i', rfl, hc'⟩
    · exact ⟨[124], rfl, List.mem_singleton.mpr rfl⟩
    · refine ⟨[124], ?_, List.mem_singleton.mpr rfl⟩
      show (List.replicate w (46 :: letters) ++ [[124]])[r.length]? = _
      rw [List.getElem?_append_right (by rw [List.length_replicate, rl]; exact Nat.le_refl _), List.length_replicate, rl, Nat.sub_self]
      rfl
    · refine ⟨46 :: letters, ?_, ?_⟩
      · show (List.replicate w (46 :: letters) ++ [[124]])[i']? = _
        have := (List.getElem?_eq_some_iff.mp hc').1
        rw [List.getElem?_append_left (by rw [List.length_replicate]; omega), List.getElem?_replicate, if_pos (by omega)]
      · have := hV.ok r (List.mem_of_getElem? hr) c (List.mem_of_getElem? hc')
        unfold Cell at this
        by_cases e : c = 46
        · rw [e]; exact List.mem_cons_self
        · refine List.mem_cons_of_mem _ ?_
          have all : ∀ i : Fin 26, 97 + i.1 ∈ letters := by decide
          have := all ⟨c - 97, by omega⟩
          rwa [show 97 + (c - 97) = c by omega] at this
  · rcases bar_at hc with ⟨rfl, _⟩ | ⟨i', rfl, hc'⟩
    · omega
    have at0 := at_flat hV.rc hr hc'
    intro hm
    rcases List.mem_append.mp hm with hm | hm
    · obtain ⟨x, hx, hcx⟩ := List.mem_flatten.mp hm
      rcases List.mem_cons.mp hx with e | hx
      · rw [e] at hcx
        have := edg_no hcx
        omega
      · have hx' : x ∈ (g.take i).map bar := by
          have : (g.map bar ++ [edg w]).take i = (g.take i).map bar := by
            rw [List.take_append_of_le_length (by rw [List.length_map, hV.rc.1]; omega), List.map_take]
          rw [← this]
          exact hx
        obtain ⟨r2, hr2, rfl⟩ := List.mem_map.mp hx'
        obtain ⟨k, hk⟩ := List.getElem?_of_mem hr2
        have hki : k < i := by
          have := (List.getElem?_eq_some_iff.mp hk).1
          rw [List.length_take] at this
          omega
        rw [List.getElem?_take, if_pos hki] at hk
        obtain ⟨j2, hj2⟩ := List.getElem?_of_mem hcx
        rcases bar_at hj2 with ⟨rfl, _⟩ | ⟨j3, rfl, hj3⟩
        · omega
        have at1 := at_flat hV.rc hk hj3
        have e := mb_uniq hV.nd (by omega) at0.1 at1.1
        have : (k + 1) * w ≤ i * w := Nat.mul_le_mul_right _ hki
        rw [Nat.succ_mul] at this
        have := at1.2
        omega
    · obtain ⟨k, hk⟩ := List.getElem?_of_mem hm
      have hkj : k < i' + 1 := by
        have := (List.getElem?_eq_some_iff.mp hk).1
        rw [List.length_take] at this
        omega
      rw [List.getElem?_take, if_pos hkj] at hk
      rcases bar_at hk with ⟨rfl, _⟩ | ⟨j3, rfl, hj3⟩
      · omega
      have at1 := at_flat hV.rc hr hj3
      have e := mb_uniq hV.nd (by omega) at0.1 at1.1
      omega
theorem repl1 {α : Type} (w : Nat) (a : α) : (List.replicate w [a]).flatten = List.replicate w a := by
  induction w with
  | zero => rfl
  | succ n ih => rw [List.replicate_succ, List.flatten_cons, ih, List.replicate_succ]; rfl
theorem pi_listN {X : Cx} {K : PySem.W.Frag} {tg l : Expr} {tl : TE} (hl : PE X l tl) (hK : X.K = K := by rfl) : PI X tg l (iList K tl) := by
  subst hK
  exact pi_list hl
theorem cut_lns {h w : Nat} {g : Grid} (R : Rect h w g) : cutV (tsV (lns w g)) (some 1) (some ((h + 1 : Nat) : Int)) = tsV (g.map bar) := by
  unfold cutV
  have e1 : HT.sIx (tsV (lns w g)).length 0 (some (1 : Int)) = 1 := by
    have := HT.sIx_nat (tsV (lns w g)).length 0 1
    rw [List.length_map, lns_n R] at this ⊢
    rw [show (1 : Int) = ((1 : Nat) : Int) from rfl, this]
    omega
  rw [e1, HT.sIx_nat, List.length_map, lns_n R, Nat.min_eq_left (by omega)]
  show ((tsV (g.map bar ++ [edg w]))).take (h + 1 - 1) = _
  rw [show h + 1 - 1 = h by omega]
  unfold tsV
  rw [List.map_append, List.take_left' (by rw [List.length_map, List.length_map, R.1])]
theorem cut_bar (r : List Nat) : cutS (S (bar r)) (some 1) (some (-1 : Int)) = S r := by
  unfold cutS
  rw [S_len, S_list, bar_len]
  have e1 : HT.sIx (r.length + 2) 0 (some (1 : Int)) = 1 := by
    show (if (1 : Int) < 0 then ((1 : Int) + ((r.length + 2 : Nat) : Int)).toNat else min (1 : Int).toNat (r.length + 2)) = 1
    rw [if_neg (by omega)]
    show min 1 (r.length + 2) = 1
    omega
  have e2 : HT.sIx (r.length + 2) (r.length + 2) (some (-1 : Int)) = r.length + 1 := by
    show (if (-1 : Int) < 0 then ((-1 : Int) + ((r.length + 2 : Nat) : Int)).toNat else min (-1 : Int).toNat (r.length + 2)) = r.length + 1
    rw [if_pos (by omega)]
    omega
  rw [e1, e2]
  show Str.mk (((r ++ [124]).take (r.length + 1 - 1)).toArray) = _
  rw [show r.length + 1 - 1 = r.length by omega, List.take_left]
section
variable {P : Program} {w_ : World} {K : PySem.W.Frag} {mg : Str → Option Value} {base : Heap} {D gBd gCL fTi : Addr} {fdBd fdCL : FuncData} {t0 : Tok}
abbrev NPd : List Str := ["text", "lines", "width", "border", "between", "last", "number", "rows", "line"]
theorem scPd : FnScope NPd ["text"] (defScope sParseDrawing) := ⟨rfl, rfl, rfl, by decide +kernel, rfl, by decide +kernel, by decide +kernel⟩
def spPd (K : PySem.W.Frag) (D : Addr) : Sp := fun vs H Q _ => ∃ (h w : Nat) (g : Grid), vs = [.str (S (drw w g))] ∧ VG h w g ∧ ∀ H' r, Same H H' → TrayAt K D H' r g → Q (.ref r) H'
theorem ok_pd {f : Addr} {fd : FuncData} (F : Fun K "parse_drawing" "parse_drawing" sParseDrawing f fd) (T : CodF K mg) (hstr : mg "str" = none) (U : TxtT K mg t0) (CT : ClsT K mg D)
    (GB : FnOk P w_ K mg base CX0 1 gBd fdBd NBd spBd) (kB : PySem.W.keepIn K (.ref gBd) = true) (bB : Binds K fdBd NBd []) (mB : mg "_border" = some (.ref gBd))
    (GL : FnOk P w_ K mg base CX0 1 gCL fdCL ["lines", "number", "allowed"] (spCL K)) (kL : PySem.W.keepIn K (.ref gCL) = true) (bL : Binds K fdCL ["lines", "number", "allowed"] []) (mL : mg "_check_line" = some (.ref gCL)) (M : Mk K D fTi)
    (GI : FnR P w_ K mg base CX0 3 fTi (fun vs H Q E => ∃ ws rest, vs = ws ++ rest ∧ ws.length = 1 ∧ rest.length ≤ sizeLine ∧ ∀ p, H p = Option.none → spTi K D (ws ++ [V.ref p]) (upd H p (.tup rest)) Q E)) : FnOk P w_ K mg base CX0 5 f fd ["text"] (spPd K D) := by
  refine F.ok scPd (fun vs H Q E h => ?_) (fun cdv A outer s H vs Q E hr h => ?_)
  · obtain ⟨h, w, g, rfl, _⟩ := h
    rfl
  · obtain ⟨h, w, g, rfl, hV, k⟩ := h
    have nd := scPd.nd
    have r1 := hr.mono (show 1 ≤ 4 by decide)
    refine ⟨_, C8.pss_cut (ps_if (pt_not (pt_val (pe_callB call_isi (by rfl) T.isi (by decide +kernel) (pa_cons (pv 0) (pa_cons (pe_bltn (v := .ty "str") (by rfl) hstr (by decide +kernel) rfl) pa_nil))))) pss_never pss_nil)
      (C8.pss_cut (ps_set (i := 1) nd rfl (.inl rfl) (pe_split (pv 0) pe_str))
      (C8.pss_cut (ps_set (i := 2) nd rfl (.inl rfl) (pe_op op_sub (pe_callB call_len_str (by rfl) T.len PySem.boot_len (pa_cons (pe_ix (ix_listK (K := K) rfl) (pv 1) pe_int (fun _ _ => rfl)) pa_nil)) pe_int))
      (C8.pss_cut (ps_if (pt_not (pt_chain op_le op_le pe_int (pv 2) (C8.pe_gc rfl U.MS))) pss_never pss_nil)
      (C8.pss_cut (ps_set (i := 3) nd rfl (.inl rfl) (pe_callTy (call_list_txt rfl) (by rfl) T.list (by decide +kernel) (pa_cons (pe_call GB r1 rfl mB kB bB .nil pass0 (pa_cons (pv 2) pa_nil)) pa_nil)))
      (C8.pss_cut (ps_set (i := 4) nd rfl (.inl rfl) (pe_op op_cat (pe_op op_cat (pe_lst (pa_cons pe_str pa_nil)) (pe_op op_rep (pe_lst (pa_cons (pe_op op_add_str (C8.pe_gc rfl U.em) (C8.pe_gc rfl U.LE)) pa_nil)) (pv 2))) (pe_lst (pa_cons pe_str pa_nil))))
      (C8.pss_cut (ps_set (i := 5) nd rfl (.inl rfl) (pe_op op_sub (pe_callB call_len_seq (by rfl) T.len PySem.boot_len (pa_cons (pv 1) pa_nil)) pe_int))
      (C8.pss_cut (ps_expr (pe_call GL r1 rfl mL kL bL .nil pass0 (pa_cons (pv 1) (pa_cons pe_int (pa_cons (pv 3) pa_nil)))))
      (C8.pss_cut (ps_if (pt_cmpR op_lt (pv 5) pe_int (nomark _)) pss_never pss_nil)
      (C8.pss_cut (ps_for PassesOwn.never rfl (pi_range2 (by rfl) T.rng (pa_cons pe_int (pa_cons (pv 5) pa_nil))) (pg_name (i := 6) nd rfl (.inl rfl))
        (C8.pss_cut (ps_if (pt_cmpR op_gt (pv 6) (C8.pe_gc rfl U.MS) (nomark _)) pss_never pss_nil)
        (pss_one (ps_expr (pe_call GL r1 rfl mL kL bL .nil pass0 (pa_cons (pv 1) (pa_cons (pv 6) (pa_cons (pv 4) pa_nil))))))))
      (C8.pss_cut (ps_expr (pe_call GL r1 rfl mL kL bL .nil pass0 (pa_cons (pv 1) (pa_cons (pv 5) (pa_cons (pv 3) pa_nil)))))
      (C8.pss_cut (ps_setLc (i := 7) (own := [("line", 8)]) (g := gName 8) (tt := tYes) rfl nd rfl rfl (sw_true rfl rfl rfl (by decide +kernel)) (pi_listN (K := K) (pe_slice (sl_listK (K := K) rfl) (pv 1) (po_some pe_int) (po_some (pv 5)))) (blkOk_by (N := NPd) (sc := defScope sParseDrawing) (by decide +kernel)) (fun _ _ _ _ _ => pg_name (i := 8) nd rfl (.inl rfl)) (fun _ _ _ _ _ => pts_nil)
        (fun _ _ _ _ _ => pe_slice sl_str (pv 8) (po_some pe_int) (po_some (pe_un un_neg pe_int))))
      (pss_one (ps_ret (TH.pe_makeS M GI hr rfl CT.mgC pass0 (pv 7))))))))))))))), ?_⟩
    have h1 := hV.n1
    have h8 := hV.n8
    have w1 := hV.m1
    have w8 := hV.m8
    have dl := drw_len hV
    have ln := lns_n hV.rc
    have lw := lns_len hV.rc
    have l0 : (lns w g)[0]? = some (edg w) := rfl
    have l100 : (lns w g).length ≤ 100 := by omega
    have r100 : ∀ r ∈ lns w g, r.length ≤ 100 := fun r hr => by rw [lw r hr]; omega
    refine ⟨fun σ H1 => σ = [some (.str (S (drw w g))), none, none, none, none, none, none, none, none] ∧ H1 = H, ?_, ?_⟩
    · exact ⟨_, rfl, _, _, _, _, true, rfl, .ty _, .base (.str _), kit_ty (by decide +kernel), true, rfl, iteF ⟨rfl, rfl⟩⟩
    rintro σ H1 ⟨rfl, rfl⟩
    refine ⟨fun σ H2 => ∃ l, σ = [some (.str (S (drw w g))), some (.ref l), none, none, none, none, none, none, none] ∧ Same H1 H2 ∧ H2 l = some (.lst (tsV (lns w g))), ?_, ?_⟩
    · refine ⟨_, rfl, ⟨_, rfl⟩, _, _, rfl, rfl, rfl, by rw [S_len]; show _ ≤ 16777216; omega, fun l hl => ⟨l, rfl, same_new hl, ?_⟩⟩
      rw [show (Str.ofString "\n" : Str) = S [10] from rfl, drw_split hV, List.map_map]
      exact upd_same
    rintro σ H2 ⟨l, rfl, s2, hl⟩
    refine ⟨fun σ H3 => σ = [some (.str (S (drw w g))), some (.ref l), some (.int (w : Nat)), none, none, none, none, none, none] ∧ H3 = H2, ?_, ?_⟩
    · refine ⟨_, rfl, l, _, _, _, rfl, rfl, SqL.of hl, atI_nat (j := 0) (by rw [List.getElem?_map, l0]; rfl), _, rfl, by rw [S_len, edg_len]; show _ ≤ 16777216; omega, _, _, rfl, rfl, ?_⟩
      rw [S_len, edg_len]
      show gName 2 (V.int (((w + 2 : Nat) : Int) - 2)) _ _ _
      rw [show (((w + 2 : Nat) : Int) - 2) = ((w : Nat) : Int) by omega]
      exact ⟨rfl, rfl⟩
    rintro σ H3 ⟨rfl, rfl⟩
    refine ⟨fun σ H4 => σ = [some (.str (S (drw w g))), some (.ref l), some (.int (w : Nat)), none, none, none, none, none, none] ∧ H4 = H3, ?_, ?_⟩
    · exact ⟨_, rfl, _, _, rfl, rfl, true, congrArg V.bl (decide_eq_true (by omega)), iteT ⟨_, _, rfl, rfl, true, congrArg V.bl (decide_eq_true (by omega)), iteF ⟨rfl, rfl⟩⟩⟩
    rintro σ H4 ⟨rfl, rfl⟩
    refine ⟨fun σ H5 => ∃ b, σ = [some (.str (S (drw w g))), some (.ref l), some (.int (w : Nat)), some (.ref b), none, none, none, none, none] ∧ Same H1 H5 ∧ H5 l = some (.lst (tsV (lns w g))) ∧ H5 b = some (.lst (tsV (ysE w))), ?_, ?_⟩
    · refine ⟨_, rfl, w, rfl, w8, _, rfl, by rw [edg_len]; omega, fun b hb => ⟨b, rfl, s2.trans (same_new hb), same_new hb _ _ hl, ?_⟩⟩
      rw [upd_same]
      show _ = some (HO.lst (((edg w).map fun c => [c]).map fun r => V.str (S r)))
      rw [List.map_map]
      rfl
    rintro σ H5 ⟨b, rfl, s5, hl5, hb5⟩
    refine ⟨fun σ H6 => ∃ c, σ = [some (.str (S (drw w g))), some (.ref l), some (.int (w : Nat)), some (.ref b), some (.ref c), none, none, none, none] ∧ Same H5 H6 ∧ H6 c = some (.lst (tsV (ysB w))), ?_, ?_⟩
    · refine ⟨by show 1 ≤ sizeLine; decide, fun p1 hp1 => ⟨_, _, rfl, rfl, by show 1 + 26 ≤ 16777216; decide, by show 1 ≤ sizeLine; decide, fun p2 hp2 => ⟨_, rfl, p2, (w : Nat), _, rfl, rfl, upd_same, by omega, by omega, ?_, fun p3 hp3 => ⟨p1, p3, _, _, rfl, rfl, same_new hp3 _ _ (same_new hp2 _ _ upd_same), upd_same, ?_, fun p4 hp4 => ⟨by show 1 ≤ sizeLine; decide, fun p5 hp5 => ⟨p4, p5, _, _, rfl, rfl, same_new hp5 _ _ upd_same, upd_same, ?_, fun p6 hp6 => ⟨p6, rfl, ?_, ?_⟩⟩⟩⟩⟩⟩⟩
      · show 1 * ((w : Nat) : Int).toNat ≤ 16777216
        rw [Int.toNat_natCast]
        omega
      · rw [Int.toNat_natCast, repl1]
        show 1 + (List.replicate w _).length ≤ 16777216
        rw [List.length_replicate]
        omega
      · rw [Int.toNat_natCast, repl1, List.length_append, List.length_replicate]
        show 1 + w + 1 ≤ 16777216
        omega
      · exact ((((((Same.refl _).trans (same_new hp1)).trans (same_new hp2)).trans (same_new hp3)).trans (same_new hp4)).trans (same_new hp5)).trans (same_new hp6)
      · rw [upd_same, Int.toNat_natCast, repl1, show (S [46] ++ S letters : Str) = S (46 :: letters) from S_app _ _]
        unfold ysB tsV
        rw [List.map_cons, List.map_append, List.map_replicate]
        rfl
    rintro σ H6 ⟨c, rfl, s6, hc6⟩
    have hl6 := s6 _ _ hl5
    have hb6 := s6 _ _ hb5
    refine ⟨fun σ H7 => σ = [some (.str (S (drw w g))), some (.ref l), some (.int (w : Nat)), some (.ref b), some (.ref c), some (.int ((h + 1 : Nat) : Int)), none, none, none] ∧ H7 = H6, ?_, ?_⟩
    · refine ⟨_, rfl, l, _, rfl, .inl (SqL.of hl6), _, _, rfl, rfl, ?_⟩
      rw [List.length_map, ln]
      show gName 5 (V.int (((h + 2 : Nat) : Int) - 1)) _ _ _
      rw [show (((h + 2 : Nat) : Int) - 1) = ((h + 1 : Nat) : Int) by omega]
      exact ⟨rfl, rfl⟩
    rintro σ H7 ⟨rfl, rfl⟩
    refine ⟨fun σ H8 => σ = [some (.str (S (drw w g))), some (.ref l), some (.int (w : Nat)), some (.ref b), some (.ref c), some (.int ((h + 1 : Nat) : Int)), none, none, none] ∧ Same H7 H8, ?_, ?_⟩
    · exact ⟨_, rfl, _, rfl, l, b, 0, _, _, rfl, SqL.of hl6, SqL.of hb6, l100, r100, fits_edg l0, fun H8 s8 => ⟨rfl, s8⟩⟩
    rintro σ H8 ⟨rfl, s8⟩
    refine ⟨fun σ H9 => σ = [some (.str (S (drw w g))), some (.ref l), some (.int (w : Nat)), some (.ref b), some (.ref c), some (.int ((h + 1 : Nat) : Int)), none, none, none] ∧ H9 = H8, ?_, ?_⟩
    · exact ⟨_, rfl, _, _, rfl, rfl, false, congrArg V.bl (decide_eq_false (by omega)), iteF ⟨rfl, rfl⟩⟩
    rintro σ H9 ⟨rfl, rfl⟩
    refine ⟨fun σ H10 => ∃ v6, σ = [some (.str (S (drw w g))), some (.ref l), some (.int (w : Nat)), some (.ref b), some (.ref c), some (.int ((h + 1 : Nat) : Int)), v6, none, none] ∧ Same H7 H10, ?_, ?_⟩
    · refine ⟨_, rfl, 1, _, rfl, ⟨by omega, by omega, by omega, by omega⟩, ?_⟩
      refine for_it (n := (((h + 1 : Nat) : Int) - 1).toNat) walk_range (fun i σ H10 => ∃ v6, σ = [some (.str (S (drw w g))), some (.ref l), some (.int (w : Nat)), some (.ref b), some (.ref c), some (.int ((h + 1 : Nat) : Int)), v6, none, none] ∧ Same H7 H10) ⟨none, rfl, s8⟩ (fun _ _ _ _ _ => True.intro) ?_ ?_
      · rintro i x σ H11 H10 hi ⟨v6, rfl, s10⟩ ⟨rfl, rfl⟩
        have hi' : i < h := by omega
        have ei : (1 + (i : Nat) : Int) = ((i + 1 : Nat) : Int) := by omega
        refine ⟨fun σ H12 => σ = [some (.str (S (drw w g))), some (.ref l), some (.int (w : Nat)), some (.ref b), some (.ref c), some (.int ((h + 1 : Nat) : Int)), some (.int ((i + 1 : Nat) : Int)), none, none] ∧ H12 = H10, ?_, ?_⟩
        · refine ⟨_, rfl, _, _, rfl, rfl, false, congrArg V.bl (decide_eq_false (by omega)), iteF ⟨?_, rfl⟩⟩
          show [_, _, _, _, _, _, some (V.int (1 + (i : Int))), _, _] = _
          rw [ei]
        rintro σ H12 ⟨rfl, rfl⟩
        exact ⟨_, rfl, _, rfl, _, rfl, l, c, i + 1, _, _, rfl, SqL.of (s10 _ _ hl6), SqL.of (s10 _ _ hc6), l100, r100, fits_bar hV hi', fun H13 s13 => ⟨_, rfl, s10.trans s13⟩⟩
      · rintro σ H10 h10
        exact h10
    rintro σ H10 ⟨v6, rfl, s10⟩
    refine ⟨fun σ H11 => σ = [some (.str (S (drw w g))), some (.ref l), some (.int (w : Nat)), some (.ref b), some (.ref c), some (.int ((h + 1 : Nat) : Int)), v6, none, none] ∧ Same H7 H11, ?_, ?_⟩
    · exact ⟨_, rfl, _, rfl, _, rfl, l, b, h + 1, _, _, rfl, SqL.of (s10 _ _ hl6), SqL.of (s10 _ _ hb6), l100, r100, fits_edg (lns_end hV.rc), fun H8 s8 => ⟨rfl, s10.trans s8⟩⟩
    rintro σ H11 ⟨rfl, s11⟩
    have hl11 := s11 _ _ hl6
    refine ⟨fun σ H12 => ∃ d, σ = [some (.str (S (drw w g))), some (.ref l), some (.int (w : Nat)), some (.ref b), some (.ref c), some (.int ((h + 1 : Nat) : Int)), v6, some (.ref d), none] ∧ Same H11 H12 ∧ H12 d = some (.lst (rowV g)), ?_, ?_⟩
    · refine ⟨_, rfl, _, rfl, _, rfl, _, rfl, l, _, rfl, SqL.of hl11, fun q hq => ?_⟩
      rw [cut_lns hV.rc]
      have hq1 : (upd H11 q (.lst (tsV (g.map bar)))) q = some (.lst (tsV (g.map bar))) := upd_same
      have sq := same_new (o := .lst (tsV (g.map bar))) hq
      refine ⟨q, rfl, ⟨_, SqL.of hq1⟩, fun d hd => lc_it (n := (tsV (g.map bar)).length) (walk_list (K := K) (a := q) (xs := tsV (g.map bar))) (fun i H12 => Same (upd H11 q (.lst (tsV (g.map bar)))) H12 ∧ H12 d = some (.lst (rowV (g.take i)))) ⟨same_new hd, upd_same⟩ (fun _ _ _ z => SqL.of (z.1 _ _ hq1)) ?_ ?_⟩
      · rintro i x H13 H12 hi ⟨sm, hD⟩ ⟨rfl, hx⟩
        obtain ⟨r, hr2, rfl⟩ : ∃ r, g[i]? = some r ∧ x = V.str (S (bar r)) := by
          have : ((g.map bar).map fun r => V.str (S r))[i]? = some x := hx
          rw [List.map_map, List.getElem?_map] at this
          cases e : g[i]? with
          | none => rw [e] at this; cases this
          | some r => rw [e] at this; exact ⟨r, rfl, (Option.some.inj this).symm⟩
        have hrl : r.length = w := hV.rc.2 r (List.mem_of_getElem? hr2)
        refine ⟨rfl, _, rfl, _, rfl, _, rfl, _, rfl, S (bar r), rfl, by rw [S_len, bar_len]; show _ ≤ 16777216; omega, ?_⟩
        rw [cut_bar]
        refine ⟨_, hD, ?_, same_put sm hd, ?_⟩
        · rw [List.length_map, List.length_take]
          have := hV.rc.1
          show _ < 16777216
          omega
        · rw [upd_same, List.take_succ, hr2]
          simp [rowV]
      · rintro H12 ⟨sm, hD⟩
        rw [List.length_map, List.length_map, List.take_length] at hD
        exact ⟨d, rfl, sq.trans sm, hD⟩
    rintro σ H12 ⟨d, rfl, s12, hd⟩
    refine ⟨_, rfl, d, _, rfl, .inr (SqL.of hd), fun x dx nx ndx nex => ?_⟩
    refine ⟨[.ref x], rowV g, rfl, rfl, ?_, fun tp htp => ?_⟩
    · have := hV.len
      rw [List.length_map]
      show _ ≤ 16777216
      omega
    have hpx : x ≠ tp := fun z => by rw [← z, upd_same] at htp; cases htp
    refine ⟨x, dx, tp, h, w, _, rfl, by rw [upd_ne hpx, upd_same], SqT.of upd_same, hV, fun H' ht kp => ⟨rfl, ?_⟩⟩
    refine k _ _ (fun b o e => ?_) ht
    have e1 : H12 b = some o := s12 _ _ (s11 _ _ (s6 _ _ (s5 _ _ e)))
    have hbx : b ≠ x := ne_of_none e1 nx
    have hbd : b ≠ dx := ne_of_none e1 ndx
    have e2 : (upd (upd H12 dx (.own x)) x (.ins D dx [])) b = some o := by rw [upd_ne hbx, upd_ne hbd]; exact e1
    exact kp b o (by rw [upd_ne (ne_of_none e2 htp)]; exact e2) hbx
end
end TR
end
section
set_option Elab.async false
set_option maxRecDepth 100000
set_option linter.all false
namespace TR
open PySem PySem.Spec PyProof.Rows L2 TM TX TK TB TP TH TU TW
section
open PySem.W
variable {prog : Program} {w : World} {A : Around} {E : Value → Shared → Prop} {s : Shared} {t : Tok}
theorem field2 {a : Nat} {Q : Value → Shared → Prop} (h8 : a < 8) (h : ∀ t' k, Q (.str (S [32, 48 + a]) t') { s with toks := k }) : wpAny (model prog w) A (formatField (.int (a : Int) t) (S [62, 50])) Q E s := by
  have : a = 0 ∨ a = 1 ∨ a = 2 ∨ a = 3 ∨ a = 4 ∨ a = 5 ∨ a = 6 ∨ a = 7 := by omega
  rcases this with rfl | rfl | rfl | rfl | rfl | rfl | rfl | rfl
  · refine KXf.field_int (spec' := S [62, 50]) (y := S [32, 48]) rfl (by decide +kernel) (by decide +kernel) ?_ h
    kxf_run_i
  · refine KXf.field_int (spec' := S [62, 50]) (y := S [32, 49]) rfl (by decide +kernel) (by decide +kernel) ?_ h
    kxf_run_i
  · refine KXf.field_int (spec' := S [62, 50]) (y := S [32, 50]) rfl (by decide +kernel) (by decide +kernel) ?_ h
    kxf_run_i
  · refine KXf.field_int (spec' := S [62, 50]) (y := S [32, 51]) rfl (by decide +kernel) (by decide +kernel) ?_ h
    kxf_run_i
  · refine KXf.field_int (spec' := S [62, 50]) (y := S [32, 52]) rfl (by decide +kernel) (by decide +kernel) ?_ h
    kxf_run_i
  · refine KXf.field_int (spec' := S [62, 50]) (y := S [32, 53]) rfl (by decide +kernel) (by decide +kernel) ?_ h
    kxf_run_i
  · refine KXf.field_int (spec' := S [62, 50]) (y := S [32, 54]) rfl (by decide +kernel) (by decide +kernel) ?_ h
    kxf_run_i
  · refine KXf.field_int (spec' := S [62, 50]) (y := S [32, 55]) rfl (by decide +kernel) (by decide +kernel) ?_ h
    kxf_run_i
end
section
variable {X : Cx}
/-- {x:>2} of a number below eight -/
def tFmt2 (te : TE) : TE := fun σ H Q => te σ H fun x H1 => ∃ a : Nat, x = .int (a : Int) ∧ a < 8 ∧ Q (.str (S [32, 48 + a])) H1
theorem pe_fmt2 {e : Expr} {te : TE} {p1 p2 pos : Pos} (he : PE X e te) : PE X (.FormattedValue e (-1) (some (.JoinedStr [.Constant (.str ">2") 0 p1] p2)) pos) (tFmt2 te) := by
  refine ⟨fun pins s σ H Q I h => ?_⟩
  refine wpAny_FormattedValue_spec (thn (he.run pins s σ H _ I h) fun v s1 ⟨x, H1, I1, r1, a, ex, h8, q⟩ => ?_)
  subst ex
  obtain ⟨t, rfl⟩ := r1
  refine thn ((pe_joined1 (pos := p2) (pe_str (X := X) (x := ">2") (j := 0) (pos := p1))).run pins s1 σ H1 (fun y H2 => y = .str (S [62, 50]) ∧ H2 = H1) I1 ⟨rfl, rfl⟩) fun u s2 ⟨y, H2, I2, r2, ey, eH⟩ => ?_
  subst ey eH
  obtain ⟨t2, rfl⟩ := r2
  exact ⟨_, _, rfl, field2 h8 fun t' k => ⟨.str (S [32, 48 + a]), H2, I2.tok _, ⟨_, rfl⟩, q⟩⟩
end
/-- the line of a marble -/
def mtl (w : Nat) (g : Grid) (c : Nat) : List Nat := [c, 32, 32, 48 + g.flatten.idxOf c / w, 32, 32, 48 + g.flatten.idxOf c % w]
def mtab (w : Nat) (g : Grid) : List Nat := TL.joinL [10] ((srt (mb g.flatten)).map (mtl w g))
theorem mtl_len {w : Nat} {g : Grid} {l : List Nat} : ∀ r ∈ l.map (mtl w g), r.length = 7 := fun r hr => by
  obtain ⟨c, _, rfl⟩ := List.mem_map.mp hr
  rfl
section
variable {P : Program} {w_ : World} {K : PySem.W.Frag} {mg : Str → Option Value} {base : Heap} {C D CU fCl pM gM : Addr} {fdM : FuncData}
abbrev NMt : List Str := ["tray", "lines", "marble", "row", "column"]
theorem scMt_ : FnScope NMt ["tray"] (defScope sMarbleTable) := ⟨rfl, rfl, rfl, by decide +kernel, rfl, by decide +kernel, by decide +kernel⟩
def spMT (K : PySem.W.Frag) (D : Addr) : Sp := fun vs H Q _ => ∃ (p h w : Nat) (g : Grid), vs = [.ref p] ∧ TrayAt K D H p g ∧ VG h w g ∧ ∀ H', Same H H' → Q (.str (S (mtab w g))) H'
theorem ok_mt_ {f : Addr} {fd : FuncData} (F : Fun K "marble_table" "marble_table" sMarbleTable f fd) (CT : ClsT K mg D) (PM : PropOf K D "marbles" pM gM) (GM : FnOk P w_ K mg base CX0 1 gM fdM ["self"] (spMb K D)) (bM : Binds K fdM ["self"] [])
    (CO : StX.CallO K D fCl) (GC : FnR P w_ K mg base (L2.CX P w_) 4 fCl (spCl K D CU)) : FnOk P w_ K mg base CX0 5 f fd ["tray"] (spMT K D) := by
  refine F.ok scMt_ (fun vs H Q E h => ?_) (fun cdv A outer s H vs Q E hr h => ?_)
  · obtain ⟨p, h, w, g, rfl, _⟩ := h
    rfl
  · obtain ⟨p, h, w, g, rfl, T0, hV, k⟩ := h
    have nd := scMt_.nd
    have r4 := hr.mono (show 4 ≤ 4 by decide)
    have r2 := hr.mono (show 2 ≤ 4 by decide)
    refine ⟨_, C8.pss_cut (ps_set (i := 1) nd rfl (.inl rfl) (pe_lst pa_nil))
      (C8.pss_cut (ps_for PassesOwn.never rfl (pi_str (pe_prop (pv 0) CT.cl PM GM r2 bM .nil pass0 rfl)) (pg_name (i := 2) nd rfl (.inl rfl))
        (C8.pss_cut (ps_asg (pe_callO (pv 0) CO GC r4 passL (pa_cons (pv 2) pa_nil)) (pg_tup (by rfl) (pgs_cons (pg_name (i := 3) nd rfl (.inl rfl)) (pgs_cons (pg_name (i := 4) nd rfl (.inl rfl)) pgs_nil))))
        (pss_one (ps_expr (pe_bm PySem.F.plainAttrs_list PySem.F.slot_list_append PySem.F.type_list_append mt_append (pv 1) (pa_cons (pe_jo (.cons (pe_fmt (pv 2)) (.cons pe_str (.cons (pe_fmt2 (pv 3)) (.cons pe_str (.cons (pe_fmt2 (pv 4)) .nil)))))) pa_nil))))))
      (pss_one (ps_ret (pe_joinK (K := K) rfl pe_str (pv 1))))), ?_⟩
    have m26 := mb_26 hV
    have lM : (srt (mb g.flatten)).length = (mb g.flatten).length := (srt_perm _).length_eq
    refine ⟨fun σ H1 => ∃ l, σ = [some (.ref p), some (.ref l), none, none, none] ∧ Same H H1 ∧ H l = none ∧ H1 l = some (.lst []), ?_, ?_⟩
    · exact ⟨by show 0 ≤ sizeLine; decide, fun l hl => ⟨l, rfl, same_new hl, hl, upd_same⟩⟩
    rintro σ H1 ⟨l, rfl, s1, fl, hl⟩
    refine ⟨fun σ H2 => ∃ v2 v3 v4, σ = [some (.ref p), some (.ref l), v2, v3, v4] ∧ Same H H2 ∧ H2 l = some (.lst (tsV ((srt (mb g.flatten)).map (mtl w g)))), ?_, ?_⟩
    · have T1 := T0.same s1
      obtain ⟨d1, a1, e1, _⟩ := id T1
      refine ⟨_, rfl, p, d1, _, rfl, e1, p, h, w, g, rfl, T1, hV, fun H2 s2 => ⟨_, rfl, ?_⟩⟩
      refine for_it (walk_str (z := S (srt (mb g.flatten)))) (fun i σ H3 => ∃ v2 v3 v4, σ = [some (.ref p), some (.ref l), v2, v3, v4] ∧ Same H H3 ∧ H3 l = some (.lst (tsV (((srt (mb g.flatten)).take i).map (mtl w g)))))
        ⟨none, none, none, rfl, s1.trans s2, s2 _ _ hl⟩ (fun _ _ _ _ _ => True.intro) ?_ ?_
      · rintro i x σ H4 H3 hi ⟨v2, v3, v4, rfl, s3, hl3⟩ ⟨rfl, m, hm, rfl⟩
        rw [S_at] at hm
        have mS := List.mem_of_getElem? hm
        have mM : m ∈ mb g.flatten := mem_srt.mp mS
        have hi' := (List.getElem?_eq_some_iff.mp hm).1
        have T3 := T0.same s3
        obtain ⟨d3, a3, e3, _⟩ := id T3
        have w0 := hV.m1
        have w8 := hV.m8
        have lt := (idx_at (mem_mb.mp mM).1).1
        rw [flat_len hV.rc] at lt
        have q1 : g.flatten.idxOf m / w < 8 := Nat.lt_of_lt_of_le ((Nat.div_lt_iff_lt_mul w0).mpr lt) hV.n8
        have q2 : g.flatten.idxOf m % w < 8 := Nat.lt_of_lt_of_le (Nat.mod_lt _ w0) w8
        have ei : (g.flatten.idxOf m : Int) / (w : Int) = ((g.flatten.idxOf m / w : Nat) : Int) := rfl
        have ej : (g.flatten.idxOf m : Int) % (w : Int) = ((g.flatten.idxOf m % w : Nat) : Int) := rfl
        refine ⟨fun σ H4 => σ = [some (.ref p), some (.ref l), some (sg m), some (.int ((g.flatten.idxOf m / w : Nat) : Int)), some (.int ((g.flatten.idxOf m % w : Nat) : Int))] ∧ Same H3 H4, ?_, ?_⟩
        · refine ⟨_, rfl, p, rfl, _, rfl, ⟨d3, _, e3⟩, call_ok T3 hV mM fun H4 q s4 _ hq => ⟨q, _, rfl, SqT.of hq, rfl, _, _, rfl, _, _, rfl, rfl, rfl, s4⟩⟩
        rintro σ H4 ⟨rfl, s4⟩
        have hl4 := s4 _ _ hl3
        have hlen : (tsV (((srt (mb g.flatten)).take i).map (mtl w g))).length < sizeLine := by
          rw [List.length_map, List.length_map, List.length_take]
          show _ < 16777216
          omega
        refine ⟨_, rfl, .inl ⟨rfl, _, SqL.of hl4⟩, _, rfl, .inl ⟨_, rfl, by show 1 ≤ 16777216; decide, _, rfl, by show 0 + 1 ≤ 16777216; decide, _, rfl, by show 0 + 1 + 1 ≤ 16777216; decide, _, rfl, _, rfl, q1, _, rfl, ?_, _, rfl, ?_, _, rfl, _, rfl, q2, _, rfl, ?_, ?_⟩⟩
        · show (Str.empty ++ S [m] ++ S [32] ++ S [32, 48 + g.flatten.idxOf m / w]).length ≤ _
          rw [show (Str.empty : Str) = S [] from rfl, S_app, S_app, S_app, S_len]
          show 4 ≤ 16777216
          decide
        · show (Str.empty ++ S [m] ++ S [32] ++ S [32, 48 + g.flatten.idxOf m / w] ++ S [32]).length ≤ _
          rw [show (Str.empty : Str) = S [] from rfl, S_app, S_app, S_app, S_app, S_len]
          show 5 ≤ 16777216
          decide
        · show (Str.empty ++ S [m] ++ S [32] ++ S [32, 48 + g.flatten.idxOf m / w] ++ S [32] ++ S [32, 48 + g.flatten.idxOf m % w]).length ≤ _
          rw [show (Str.empty : Str) = S [] from rfl, S_app, S_app, S_app, S_app, S_app, S_len]
          show 7 ≤ 16777216
          decide
        have et : (Str.empty ++ S [m] ++ S [32] ++ S [32, 48 + g.flatten.idxOf m / w] ++ S [32] ++ S [32, 48 + g.flatten.idxOf m % w] : Str) = S (mtl w g m) := by
          rw [show (Str.empty : Str) = S [] from rfl, S_app, S_app, S_app, S_app, S_app]
          rfl
        refine ⟨l, _, _, rfl, rfl, hl4, hlen, _, _, _, rfl, same_put (s3.trans s4) fl, ?_⟩
        rw [upd_same, List.take_succ, hm]
        show some (HO.lst (_ ++ [V.str (Str.empty ++ S [m] ++ S [32] ++ S [32, 48 + g.flatten.idxOf m / w] ++ S [32] ++ S [32, 48 + g.flatten.idxOf m % w])])) = _
        rw [et]
        simp [tsV]
      · rintro σ H3 ⟨v2, v3, v4, rfl, s3, hl3⟩
        rw [S_size, List.take_length] at hl3
        exact ⟨v2, v3, v4, rfl, s3, hl3⟩
    rintro σ H2 ⟨v2, v3, v4, rfl, s2, hl2⟩
    refine ⟨⟨_, rfl⟩, _, rfl, _, l, ((srt (mb g.flatten)).map (mtl w g)).map S, rfl, rfl, .inl ?_, ?_, ?_⟩
    · rw [List.map_map]
      exact SqL.of hl2
    · rw [lnsum 7 _ mtl_len]
      simp only [List.length_map, lM]
      show _ + _ * 1 ≤ 16777216
      omega
    rw [show (Str.ofString "\n" : Str) = S [10] from rfl, SX.join_S]
    exact k _ s2
end
end TR
end
section
set_option Elab.async false
set_option maxRecDepth 100000
set_option linter.all false
namespace TR
open PySem PySem.Spec PyProof.Rows L2 TM TX TK TB TP TH TU TW
theorem cut_lnsN {h w : Nat} {g : Grid} (R : Rect h w g) : cutV (tsV (lns w g)) (some 1) (some (-1)) = tsV (g.map bar) := by
  have e := cut_lns R
  have q : cutV (tsV (lns w g)) (some 1) (some (-1)) = cutV (tsV (lns w g)) (some 1) (some ((h + 1 : Nat) : Int)) := by
    unfold cutV
    have e2 : HT.sIx (tsV (lns w g)).length (tsV (lns w g)).length (some (-1 : Int)) = h + 1 := by
      rw [List.length_map, lns_n R]
      show (if (-1 : Int) < 0 then ((-1 : Int) + ((h + 2 : Nat) : Int)).toNat else min (-1 : Int).toNat (h + 2)) = h + 1
      rw [if_pos (by omega)]
      omega
    have e3 : HT.sIx (tsV (lns w g)).length (tsV (lns w g)).length (some ((h + 1 : Nat) : Int)) = h + 1 := by
      rw [HT.sIx_nat, List.length_map, lns_n R]
      omega
    rw [e2, e3]
  rw [q, e]
theorem mtl_lf {w : Nat} {g : Grid} {h : Nat} (hV : VG h w g) : ∀ r ∈ (srt (mb g.flatten)).map (mtl w g), 10 ∉ r := fun r hr => by
  obtain ⟨c, hc, rfl⟩ := List.mem_map.mp hr
  have := mb_let hV c (mem_srt.mp hc)
  unfold mtl
  generalize g.flatten.idxOf c / w = a
  generalize g.flatten.idxOf c % w = b
  simp only [List.mem_cons, List.not_mem_nil, or_false, not_or]
  refine ⟨?_, ?_, ?_, ?_, ?_, ?_, ?_⟩ <;> omega
theorem mtab_split {h w : Nat} {g : Grid} (hV : VG h w g) (hne : srt (mb g.flatten) ≠ []) : Txt.split (S (mtab w g)) (S [10]) = ((srt (mb g.flatten)).map (mtl w g)).map S := by
  unfold mtab
  rw [SX.split_S (by simp) (by rfl), SX.spl_join (by simpa using hne) (mtl_lf hV)]
theorem mtab_len {h w : Nat} {g : Grid} (hV : VG h w g) : (mtab w g).length ≤ 300 := by
  have h1 := joinL_len [10] 7 ((srt (mb g.flatten)).map (mtl w g)) fun r hr => Nat.le_of_eq (mtl_len r hr)
  have m26 := mb_26 hV
  have lM : (srt (mb g.flatten)).length = (mb g.flatten).length := (srt_perm _).length_eq
  rw [List.length_map, lM] at h1
  have : (mb g.flatten).length * (7 + [10].length) ≤ 26 * 8 := Nat.mul_le_mul m26 (by decide)
  unfold mtab
  omega
theorem itx {a : Nat} (h : a < 8) : intText? (S [32, 48 + a]) = some (a : Int) := by
  have : a = 0 ∨ a = 1 ∨ a = 2 ∨ a = 3 ∨ a = 4 ∨ a = 5 ∨ a = 6 ∨ a = 7 := by omega
  rcases this with rfl | rfl | rfl | rfl | rfl | rfl | rfl | rfl <;> decide +kernel
/-- a marble and its place, by values -/
def tD (w : Nat) (pos : Nat → Nat) (c : Nat) : PyData := .tuple [.str (S [c]), .tuple [.int ((pos c : Int) / w), .int ((pos c : Int) % w)]]
theorem pd_all {K : PySem.W.Frag} {H : Hp} {w : Nat} {pos : Nat → Nat} {ps qa : Nat → Addr} : ∀ {M : List Nat}, (∀ m ∈ M, H (ps m) = some (.tup [sg m, .ref (qa m)]) ∧ H (qa m) = some (.tup (plV w (pos m)))) → DpAll K H (M.map fun m => V.ref (ps m)) (M.map (tD w pos))
  | [], _ => .nil
  | m :: M, h => .cons (.tup (SqT.of (h m List.mem_cons_self).1) (.cons (.str _) (.cons (.tup (SqT.of (h m List.mem_cons_self).2) (.cons (.int _) (.cons (.int _) .nil))) .nil))) (pd_all fun x hx => h x (List.mem_cons_of_mem _ hx))
theorem td_lay {w : Nat} {pos : Nat → Nat} : ∀ {M : List Nat}, (∀ c ∈ M, 97 ≤ c ∧ c < 123) → PyData.canLayAll0 (M.map (tD w pos)) = true
  | [], _ => rfl
  | c :: M, h => by
    show (PyData.canLay0 (tD w pos c) && PyData.canLayAll0 (M.map (tD w pos))) = true
    rw [td_lay fun x hx => h x (List.mem_cons_of_mem _ hx), Bool.and_true]
    have := h c List.mem_cons_self
    show ((S [c]).cps.all (· < 0x110000) && _) = true
    rw [← Array.all_toList]
    simp
    exact ⟨by omega, rfl⟩
theorem td_depth {w : Nat} {pos : Nat → Nat} : ∀ (M : List Nat), PyData.depthAll (M.map (tD w pos)) ≤ 2
  | [] => Nat.zero_le _
  | c :: M => by
    have := td_depth (w := w) (pos := pos) M
    have e : PyData.depth (tD w pos c) = 2 := rfl
    show max (PyData.depth (tD w pos c)) (PyData.depthAll (M.map (tD w pos))) ≤ 2
    rw [e]
    omega
theorem td_shaped {w : Nat} {pos : Nat → Nat} {M : List Nat} (h : ∀ c ∈ M, 97 ≤ c ∧ c < 123) : SeqAt.shaped (.list (M.map (tD w pos))) = true := by
  show (PyData.canLayAll0 (M.map (tD w pos)) && decide (PyData.depthAll (M.map (tD w pos)) + 1 ≤ 64)) = true
  have := td_depth (w := w) (pos := pos) M
  rw [td_lay h, decide_eq_true (by omega)]
  rfl
theorem td_same {w : Nat} {pos : Nat → Nat} {M : List Nat} (h : ∀ c ∈ M, 97 ≤ c ∧ c < 123) : PyData.eqv (.list (M.map (tD w pos))) (.list (M.map (tD w pos))) = true := SeqAt.eqv_refl _ (td_lay h)
section
variable {P : Program} {w_ : World} {K : PySem.W.Frag} {mg : Str → Option Value} {base : Heap} {D CU fCl pM gM pW gW pH gH pR gR fTe mc pO gO gDr gPd gMt gUp gPk gEn gDe : Addr} {fdM fdW fdH fdR fdDr fdPd fdMt fdUp fdPk fdEn fdDe : FuncData}
/-- what the law calls of the tray -/
structure WrF (P : Program) (w_ : World) (K : PySem.W.Frag) (mg : Str → Option Value) (base : Heap) (D CU : Addr) : Prop where
  cod : CodF K mg
  ct : ClsT K mg D
  dm : mg "divmod" = none
  m : ∃ p g fd, PropOf K D "marbles" p g ∧ FnOk P w_ K mg base CX0 1 g fd ["self"] (spMb K D) ∧ Binds K fd ["self"] []
  w : ∃ p g fd, PropOf K D "width" p g ∧ FnOk P w_ K mg base CX0 1 g fd ["self"] (spWd K D) ∧ Binds K fd ["self"] []
  h : ∃ p g fd, PropOf K D "height" p g ∧ FnOk P w_ K mg base CX0 1 g fd ["self"] (spHt K D) ∧ Binds K fd ["self"] []
  r : ∃ p g fd, PropOf K D "rows" p g ∧ FnOk P w_ K mg base CX0 1 g fd ["self"] (getSp D "_rows") ∧ Binds K fd ["self"] []
  call : ∃ f, StX.CallO K D f ∧ FnR P w_ K mg base (L2.CX P w_) 4 f (spCl K D CU)
  eq : ∃ g, PySem.W.findIn K (.ref D) "__eq__" = some (some (.ref g)) ∧ PySem.W.isFn K (.ref g) = true ∧ FnR P w_ K mg base CX0 1 g (spTe K D)
  ot : ∃ mc p g, ClX.CRead K D mc ∧ ClX.CMet K D mc "of_text" p g ∧ FnR P w_ K mg base CX0 5 g (spOt K D)
  dr : ∃ g fd, FnOk P w_ K mg base CX0 4 g fd ["tray"] (spDr K D) ∧ PySem.W.keepIn K (.ref g) = true ∧ Binds K fd ["tray"] [] ∧ mg "drawing" = some (.ref g)
  pd : ∃ g fd, FnOk P w_ K mg base CX0 5 g fd ["text"] (spPd K D) ∧ PySem.W.keepIn K (.ref g) = true ∧ Binds K fd ["text"] [] ∧ mg "parse_drawing" = some (.ref g)
  mt : ∃ g fd, FnOk P w_ K mg base CX0 5 g fd ["tray"] (spMT K D) ∧ PySem.W.keepIn K (.ref g) = true ∧ Binds K fd ["tray"] [] ∧ mg "marble_table" = some (.ref g)
  up : ∃ g fd, FnOk P w_ K mg base CX0 1 g fd ["data"] spUp ∧ PySem.W.keepIn K (.ref g) = true ∧ Binds K fd ["data"] [] ∧ mg "unpack_bytes" = some (.ref g)
  pk : ∃ g fd, FnOk P w_ K mg base CX0 2 g fd ["values"] (spPk K) ∧ PySem.W.keepIn K (.ref g) = true ∧ Binds K fd ["values"] [] ∧ mg "pack_bytes" = some (.ref g)
  en : ∃ g fd, FnOk P w_ K mg base CX0 5 g fd ["tray"] (spEn K D) ∧ PySem.W.keepIn K (.ref g) = true ∧ Binds K fd ["tray"] [] ∧ mg "encode_tray" = some (.ref g)
  de : ∃ g fd, FnOk P w_ K mg base CX0 5 g fd ["data"] (spDe K D) ∧ PySem.W.keepIn K (.ref g) = true ∧ Binds K fd ["data"] [] ∧ mg "decode_tray" = some (.ref g)
abbrev NIw : List Str := ["_law_tray_here", "_law_lines", "_law_edge", "_law_line", "_law_table", "_law_one", "_law_values", "_law_k", "_law_row", "_law_column"]
theorem scIw : FnScope NIw ["_law_tray_here"] (defScope sLawIsWritten) := ⟨rfl, rfl, rfl, by decide +kernel, rfl, by decide +kernel, by decide +kernel⟩
def spIw (K : PySem.W.Frag) (D : Addr) : Sp := fun vs H Q _ => ∃ (p h w : Nat) (g : Grid), vs = [.ref p] ∧ TrayAt K D H p g ∧ VG h w g ∧ ∀ H', Same H H' → Q (.bl true) H'
theorem ok_iw_ {f : Addr} {fd : FuncData} (F : Fun K "_law_is_written" "_law_is_written" sLawIsWritten f fd) (W : WrF P w_ K mg base D CU) : FnOk P w_ K mg base CX0 6 f fd ["_law_tray_here"] (spIw K D) := by
  refine F.ok scIw (fun vs H Q E h => ?_) (fun cdv A outer s H vs Q E hr h => ?_)
  · obtain ⟨p, h, w, g, rfl, _⟩ := h
    rfl
  · obtain ⟨p, h, w, g, rfl, T0, hV, k⟩ := h
    have nd := scIw.nd
    have r4 := hr.mono (show 4 ≤ 5 by decide)
    have r2 := hr.mono (show 2 ≤ 5 by decide)
    have r1 := hr.mono (show 1 ≤ 5 by decide)
    obtain ⟨pM, gM, fdM, PM, GM, bM⟩ := W.m
    obtain ⟨pW, gW, fdW, PW_, GW, bW⟩ := W.w
    obtain ⟨pH, gH, fdH, PH, GH, bH⟩ := W.h
    obtain ⟨pR, gR, fdR, PR, GR, bR⟩ := W.r
    obtain ⟨fCl, CO, GC⟩ := W.call
    obtain ⟨fTe, hE, iE, GTe⟩ := W.eq
    obtain ⟨mc, pO, gO, CR_, CM, GO⟩ := W.ot
    obtain ⟨gDr, fdDr, GDr, kDr, bDr, mDr⟩ := W.dr
    obtain ⟨gPd, fdPd, GPd, kPd, bPd, mPd⟩ := W.pd
    obtain ⟨gMt, fdMt, GMt, kMt, bMt, mMt⟩ := W.mt
    obtain ⟨gUp, fdUp, GUp, kUp, bUp, mUp⟩ := W.up
    obtain ⟨gPk, fdPk, GPk, kPk, bPk, mPk⟩ := W.pk
    obtain ⟨gEn, fdEn, GEn, kEn, bEn, mEn⟩ := W.en
    obtain ⟨gDe, fdDe, GDe, kDe, bDe, mDe⟩ := W.de
    have CT := W.ct
    have T := W.cod
    refine ⟨_, C8.pss_cut (ps_par (i := 1) (j := 2) rfl nd rfl rfl (by decide) rfl rfl (pa_cons (pe_split (pe_call GDr r4 rfl mDr kDr bDr .nil pass0 (pa_cons (pv 0) pa_nil)) pe_str) (pa_cons (pe_op op_add_str (pe_op op_add_str pe_str (pe_op _root_.TB.op_repS pe_str (pe_prop (pv 0) CT.cl PW_ GW r2 bW .nil pass0 rfl))) pe_str) pa_nil)) (by rfl))
      (C8.pss_cut (ps_if (PW.pt (pw_or (pt_cmpR op_ne (pe_ix (ix_listK (K := K) rfl) (pv 1) pe_int (fun _ _ => rfl)) (pv 2) (nomark _)) (pw_or (pt_cmpR op_ne (pe_ix (ix_listK (K := K) rfl) (pv 1) (pe_un un_neg pe_int) (fun _ _ => rfl)) (pv 2) (nomark _)) (pw_or1 (pt_cmpR (op_neD hr.units) (pe_lc (own := [("_law_line", 3)]) (g := gName 3) (tt := tYes) rfl nd (pi_listN (K := K) (pe_slice (sl_listK (K := K) rfl) (pv 1) (po_some pe_int) (po_some (pe_un un_neg pe_int)))) (blkOk_by (N := NIw) (sc := defScope sLawIsWritten) (by decide +kernel)) (fun _ _ _ _ _ => pg_name (i := 3) nd rfl (.inl rfl)) (fun _ _ _ _ _ => pts_nil) (fun _ _ _ _ _ => pe_slice sl_str (pv 3) (po_some pe_int) (po_some (pe_un un_neg pe_int)))) (pe_callTy call_list_of (by rfl) T.list (by decide +kernel) (pa_cons (pe_prop (pv 0) CT.cl PR GR r2 bR .nil pass0 rfl) pa_nil)) (nomark _)))))) pss_never pss_nil)
      (C8.pss_cut (ps_if (PW.pt (pw_or (pt_not (pt_cmpR (op_cmpOwn (op := .Eq) (fun _ _ => rfl) hE iE GTe r1 pass0) (pe_call GPd hr rfl mPd kPd bPd .nil pass0 (pa_cons (pe_call GDr r4 rfl mDr kDr bDr .nil pass0 (pa_cons (pv 0) pa_nil)) pa_nil)) (pv 0) (nomark _))) (pw_or1 (pt_not (pt_cmpR (op_cmpOwn (op := .Eq) (fun _ _ => rfl) hE iE GTe r1 pass0) (ClX.pe_cmeth (pe_glob (v := .ref D) rfl CT.mgC rfl) CR_ CM GO hr pass0 (pa_cons (pe_joinK (K := K) rfl pe_str (pe_prop (pv 0) CT.cl PR GR r2 bR .nil pass0 rfl)) pa_nil)) (pv 0) (nomark _)))))) pss_never pss_nil)
      (C8.pss_cut (ps_set (i := 4) nd rfl (.inl rfl) (pe_ifExp (pt_cmpR op_ne (pe_prop (pv 0) CT.cl PM GM r2 bM .nil pass0 rfl) pe_str (nomark _)) (pe_split (pe_call GMt hr rfl mMt kMt bMt .nil pass0 (pa_cons (pv 0) pa_nil)) pe_str) (pe_lst pa_nil)))
      (C8.pss_cut (ps_if (pt_cmpR (op_neD hr.units) (pe_lc (own := [("_law_line", 3)]) (g := gName 3) (tt := tYes) rfl nd (pi_listN (K := K) (pv 4)) (blkOk_by (N := NIw) (sc := defScope sLawIsWritten) (by decide +kernel)) (fun _ _ _ _ _ => pg_name (i := 3) nd rfl (.inl rfl)) (fun _ _ _ _ _ => pts_nil) (fun _ _ _ _ _ => pe_tup (pa_cons (pe_ix ix_str (pv 3) pe_int (fun _ _ => rfl)) (pa_cons (pe_tup (pa_cons (pe_callTy call_int_str (by rfl) T.int (by decide +kernel) (pa_cons (pe_slice sl_str (pv 3) (po_some pe_int) (po_some pe_int)) pa_nil)) (pa_cons (pe_callTy call_int_str (by rfl) T.int (by decide +kernel) (pa_cons (pe_slice sl_str (pv 3) (po_some pe_int) (po_some pe_int)) pa_nil)) pa_nil))) pa_nil))))
          (pe_lc (own := [("_law_one", 5)]) (g := gName 5) (tt := tYes) rfl nd (pi_str (pe_prop (pv 0) CT.cl PM GM r2 bM .nil pass0 rfl)) (blkOk_by (N := NIw) (sc := defScope sLawIsWritten) (by decide +kernel)) (fun _ _ _ _ _ => pg_name (i := 5) nd rfl (.inl rfl)) (fun _ _ _ _ _ => pts_nil) (fun _ _ _ _ _ => pe_tup (pa_cons (pv 5) (pa_cons (pe_callO (pv 0) CO GC r4 passL (pa_cons (pv 5) pa_nil)) pa_nil)))) (nomark _)) pss_never pss_nil)
      (C8.pss_cut (ps_set (i := 6) nd rfl (.inl rfl) (pe_call GUp r1 rfl mUp kUp bUp .nil pass0 (pa_cons (pe_call GEn hr rfl mEn kEn bEn .nil pass0 (pa_cons (pv 0) pa_nil)) pa_nil)))
      (C8.pss_cut (ps_if (PW.pt (pw_or (pt_cmpR (op_neD hr.units) (pe_slice (sl_listK (K := K) rfl) (pv 6) po_none (po_some pe_int)) (pe_lst (pa_cons pe_int (pa_cons (pe_prop (pv 0) CT.cl PH GH r2 bH .nil pass0 rfl) (pa_cons (pe_prop (pv 0) CT.cl PW_ GW r2 bW .nil pass0 rfl) (pa_cons (pe_callB call_len_str (by rfl) T.len PySem.boot_len (pa_cons (pe_prop (pv 0) CT.cl PM GM r2 bM .nil pass0 rfl) pa_nil)) pa_nil))))) (nomark _)) (pw_or1 (pt_cmpR op_ne (pe_callB call_len_seq (by rfl) T.len PySem.boot_len (pa_cons (pv 6) pa_nil)) (pe_op op_add pe_int (pe_op op_mul pe_int (pe_callB call_len_str (by rfl) T.len PySem.boot_len (pa_cons (pe_prop (pv 0) CT.cl PM GM r2 bM .nil pass0 rfl) pa_nil)))) (nomark _))))) pss_never pss_nil)
      (C8.pss_cut (ps_for PassesOwn.never rfl (pi_range1 (by rfl) T.rng (pa_cons (pe_callB call_len_str (by rfl) T.len PySem.boot_len (pa_cons (pe_prop (pv 0) CT.cl PM GM r2 bM .nil pass0 rfl) pa_nil)) pa_nil)) (pg_name (i := 7) nd rfl (.inl rfl))
        (C8.pss_cut (ps_asg (pe_callB call_divmod (by rfl) W.dm (by decide +kernel) (pa_cons (pe_ix (ix_listK (K := K) rfl) (pv 6) (pe_op op_add pe_int (pe_op op_mul pe_int (pv 7))) (fun _ _ => rfl)) (pa_cons (pe_prop (pv 0) CT.cl PW_ GW r2 bW .nil pass0 rfl) pa_nil))) (pg_tup (by rfl) (pgs_cons (pg_name (i := 8) nd rfl (.inl rfl)) (pgs_cons (pg_name (i := 9) nd rfl (.inl rfl)) pgs_nil))))
        (pss_one (ps_if (PW.pt (pw_or (pt_cmpR op_ne (pe_ix ix_str pe_str (pe_ix (ix_listK (K := K) rfl) (pv 6) (pe_op op_add pe_int (pe_op op_mul pe_int (pv 7))) (fun _ _ => rfl)) (fun _ _ => rfl)) (pe_ix ix_str (pe_prop (pv 0) CT.cl PM GM r2 bM .nil pass0 rfl) (pv 7) (fun _ _ => rfl)) (nomark _)) (pw_or1 (pt_cmpR (op_neD hr.units) (pe_callO (pv 0) CO GC r4 passL (pa_cons (pe_ix ix_str (pe_prop (pv 0) CT.cl PM GM r2 bM .nil pass0 rfl) (pv 7) (fun _ _ => rfl)) pa_nil)) (pe_tup (pa_cons (pv 8) (pa_cons (pv 9) pa_nil))) (nomark _))))) pss_never pss_nil))))
      (pss_one (ps_ret (pe_and (pe_cmpR (op_cmpOwn (op := .Eq) (fun _ _ => rfl) hE iE GTe r1 pass0) (pe_call GDe hr rfl mDe kDe bDe .nil pass0 (pa_cons (pe_call GEn hr rfl mEn kEn bEn .nil pass0 (pa_cons (pv 0) pa_nil)) pa_nil)) (pv 0) (nomark _)) (pe_one (pe_cmpR op_eq (pe_call GPk r2 rfl mPk kPk bPk .nil pass0 (pa_cons (pv 6) pa_nil)) (pe_call GEn hr rfl mEn kEn bEn .nil pass0 (pa_cons (pv 0) pa_nil)) (nomark _))))))))))))), ?_⟩
    have h1 := hV.n1
    have h8 := hV.n8
    have w1 := hV.m1
    have w8 := hV.m8
    have dl := drw_len hV
    have ln := lns_n hV.rc
    have lw := lns_len hV.rc
    have l0 : (lns w g)[0]? = some (edg w) := rfl
    have m26 := mb_26 hV
    have lM : (srt (mb g.flatten)).length = (mb g.flatten).length := (srt_perm _).length_eq
    obtain ⟨d0, a0, e0, hR0⟩ := id T0
    -- the lines
    refine ⟨fun σ H1 => ∃ l, σ = [some (.ref p), some (.ref l), some (.str (S (edg w))), none, none, none, none, none, none, none] ∧ Same H H1 ∧ H1 l = some (.lst (tsV (lns w g))), ?_, ?_⟩
    · refine ⟨_, rfl, p, h, w, g, rfl, T0, hV, fun H1 s1 => ⟨⟨_, rfl⟩, _, _, rfl, rfl, rfl, by rw [S_len]; show _ ≤ 16777216; omega, fun l hl => ?_⟩⟩
      have s2 := s1.trans (same_new (o := .lst ((Txt.split (S (drw w g)) (Str.ofString "\n")).map V.str)) hl)
      have T2 := T0.same s2
      refine ⟨_, rfl, p, d0, _, rfl, s2 _ _ e0, p, h, w, g, rfl, T2, hV, [45], w, rfl, rfl, by decide, by omega, _, _, rfl, rfl, ?_, _, _, rfl, rfl, ?_, ?_⟩
      · rw [rep_one]
        show 1 + (S (List.replicate w 45)).length ≤ 16777216
        rw [S_len, List.length_replicate]
        omega
      · rw [rep_one]
        show (S [43] ++ S (List.replicate w 45)).length + 1 ≤ 16777216
        rw [S_app, S_len, List.length_append, List.length_replicate]
        show 1 + w + 1 ≤ _
        omega
      · rw [rep_one]
        have e : (S [43] ++ S (List.replicate w 45)) ++ S [43] = S (edg w) := by
          rw [S_app, S_app]
          rfl
        refine ⟨_, _, rfl, l, ?_, s2, ?_⟩
        · exact e ▸ rfl
        · rw [upd_same, show (Str.ofString "\n" : Str) = S [10] from rfl, drw_split hV, List.map_map]
          rfl
    rintro σ H1 ⟨l, rfl, s1, hl⟩
    -- its lines are the rows
    refine ⟨fun σ H2 => σ = [some (.ref p), some (.ref l), some (.str (S (edg w))), none, none, none, none, none, none, none] ∧ Same H H2, ?_, ?_⟩
    · have eqE : (!decide (V.str (S (edg w)) = V.str (S (edg w)))) = false := by simp
      have aL : atI (tsV (lns w g)) (-1) = some (V.str (S (edg w))) := by
        have e : tsV (lns w g) = (V.str (S (edg w)) :: tsV (g.map bar)) ++ [V.str (S (edg w))] := by
          unfold lns tsV
          rw [List.map_cons, List.map_append]
          rfl
        rw [e]
        exact atI_last _ _
      refine ⟨_, rfl, l, _, _, _, rfl, rfl, SqL.of hl, atI_nat (j := 0) (by rw [List.getElem?_map, l0]; rfl), _, rfl, rfl, false, congrArg V.bl eqE, iteF ?_⟩
      refine ⟨_, rfl, _, rfl, l, _, _, _, rfl, rfl, SqL.of hl, aL, _, rfl, rfl, false, congrArg V.bl eqE, iteF ?_⟩
      refine ⟨_, rfl, _, rfl, _, rfl, _, rfl, l, _, rfl, SqL.of hl, fun q hq => ?_⟩
      rw [cut_lnsN hV.rc]
      have hq1 : (upd H1 q (.lst (tsV (g.map bar)))) q = some (.lst (tsV (g.map bar))) := upd_same
      have sq := same_new (o := .lst (tsV (g.map bar))) hq
      refine ⟨q, rfl, ⟨_, SqL.of hq1⟩, fun d hd => lc_it (n := (tsV (g.map bar)).length) (walk_list (K := K) (a := q) (xs := tsV (g.map bar))) (fun i H12 => Same (upd H1 q (.lst (tsV (g.map bar)))) H12 ∧ H12 d = some (.lst (rowV (g.take i)))) ⟨same_new hd, upd_same⟩ (fun _ _ _ z => SqL.of (z.1 _ _ hq1)) ?_ ?_⟩
      · rintro i x H13 H12 hi ⟨sm, hD⟩ ⟨rfl, hx⟩
        obtain ⟨r, hr2, rfl⟩ : ∃ r, g[i]? = some r ∧ x = V.str (S (bar r)) := by
          have : ((g.map bar).map fun r => V.str (S r))[i]? = some x := hx
          rw [List.map_map, List.getElem?_map] at this
          cases e : g[i]? with
          | none => rw [e] at this; cases this
          | some r => rw [e] at this; exact ⟨r, rfl, (Option.some.inj this).symm⟩
        have hrl : r.length = w := hV.rc.2 r (List.mem_of_getElem? hr2)
        refine ⟨rfl, _, rfl, _, rfl, _, rfl, _, rfl, S (bar r), rfl, by rw [S_len, bar_len]; show _ ≤ 16777216; omega, ?_⟩
        rw [cut_bar]
        refine ⟨_, hD, ?_, same_put sm hd, ?_⟩
        · rw [List.length_map, List.length_take]
          have := hV.rc.1
          show _ < 16777216
          omega
        · rw [upd_same, List.take_succ, hr2]
          simp [rowV]
      rintro H12 ⟨sm, hD⟩
      rw [List.length_map, List.length_map, List.take_length] at hD
      have s12 := (s1.trans sq).trans sm
      refine ⟨_, rfl, p, d0, _, rfl, s12 _ _ e0, p, d0, _, _, rfl, s12 _ _ e0, rfl, a0, rowV g, rfl, .inr (sq_sm s12 hR0), fun y hy => ?_⟩
      refine ⟨_, _, .lst (SqL.of (same_new hy _ _ hD)) (row_all g), .lst (SqL.of upd_same) (row_all g), row_shaped hV, row_shaped hV, ?_⟩
      rw [eqv_lst, decide_eq_true rfl]
      exact ⟨false, rfl, iteF ⟨rfl, s12.trans (same_new hy)⟩⟩
    rintro σ H2 ⟨rfl, s2⟩
    -- the drawing and the rows lead back
    refine ⟨fun σ H3 => σ = [some (.ref p), some (.ref l), some (.str (S (edg w))), none, none, none, none, none, none, none] ∧ Same H H3, ?_, ?_⟩
    · have T2 := T0.same s2
      refine ⟨_, rfl, p, h, w, g, rfl, T2, hV, fun H3 s3 => ⟨h, w, g, rfl, hV, fun H4 r4' s4 T4 => ?_⟩⟩
      have s14 := (s2.trans s3).trans s4
      obtain ⟨d4, a4, e4, _⟩ := id T4
      refine ⟨_, rfl, r4', d4, _, rfl, e4, .inl ⟨p, d0, _, rfl, s14 _ _ e0⟩, r4', p, h, w, h, w, g, g, rfl, T4, T0.same s14, hV, hV, true, congrArg V.bl (decide_eq_true rfl), iteF ?_⟩
      have r8 := row_sum 8 g fun r hr => hV.row hr
      have hgl := hV.len
      refine ⟨rfl, ⟨_, rfl⟩, _, rfl, p, d0, _, rfl, s14 _ _ e0, p, d0, _, _, rfl, s14 _ _ e0, rfl, _, a0, g.map S, rfl, rfl, .inr ?_, ?_, h, w, g, ?_, hV, fun r5 H5 s5 T5 => ?_⟩
      · rw [List.map_map]
        exact sq_sm s14 hR0
      · rw [List.length_map]
        show _ + _ * 1 ≤ 16777216
        omega
      · show [V.ref D, V.str (Txt.join (S [10]) (g.map S))] = _
        rw [join_S]
      obtain ⟨d5, a5, e5, _⟩ := id T5
      have s15 := s14.trans s5
      exact ⟨_, rfl, H5, d5, _, rfl, e5, .inl ⟨p, d0, _, rfl, s15 _ _ e0⟩, H5, p, h, w, h, w, g, g, rfl, T5, T0.same s15, hV, hV, true, congrArg V.bl (decide_eq_true rfl), iteF ⟨rfl, s15⟩⟩
    rintro σ H3 ⟨rfl, s3⟩
    -- the table
    refine ⟨fun σ H4 => ∃ tb, σ = [some (.ref p), some (.ref l), some (.str (S (edg w))), none, some (.ref tb), none, none, none, none, none] ∧ Same H H4 ∧ H4 tb = some (.lst (tsV ((srt (mb g.flatten)).map (mtl w g)))), ?_, ?_⟩
    · have T3 := T0.same s3
      refine ⟨_, rfl, p, d0, _, rfl, s3 _ _ e0, p, h, w, g, rfl, T3, hV, fun H4 s4 => ?_⟩
      by_cases hM : srt (mb g.flatten) = []
      · refine ⟨rfl, false, ?_, iteF ⟨by show 0 ≤ sizeLine; decide, fun tb htb => ⟨tb, rfl, (s3.trans s4).trans (same_new htb), ?_⟩⟩⟩
        · rw [hM]
          rfl
        · rw [hM]
          exact upd_same
      · refine ⟨rfl, true, ?_, iteT ?_⟩
        · have : V.str (S (srt (mb g.flatten))) ≠ V.str (S []) := fun e => hM (by
            have := congrArg Str.length (V.str.inj e)
            rw [S_len, S_len] at this
            exact List.eq_nil_of_length_eq_zero this)
          show V.bl (!decide (V.str (S (srt (mb g.flatten))) = V.str (S []))) = _
          rw [decide_eq_false this]
          rfl
        · have T4 := T3.same s4
          have := mtab_len hV
          refine ⟨_, rfl, p, h, w, g, rfl, T4, hV, fun H5 s5 => ⟨⟨_, rfl⟩, _, _, rfl, rfl, rfl, by rw [S_len]; show _ ≤ 16777216; omega, fun tb htb => ⟨tb, rfl, ((s3.trans s4).trans s5).trans (same_new htb), ?_⟩⟩⟩
          rw [upd_same, show (Str.ofString "\n" : Str) = S [10] from rfl, mtab_split hV hM, List.map_map]
          rfl
    rintro σ H4 ⟨tb, rfl, s4, htb⟩
    have let_ : ∀ c ∈ srt (mb g.flatten), 97 ≤ c ∧ c < 123 := fun c hc => mb_let hV c (mem_srt.mp hc)
    have ndS : (srt (mb g.flatten)).Nodup := (srt_perm _).nodup_iff.mpr hV.nd
    have q8 : ∀ c ∈ mb g.flatten, g.flatten.idxOf c / w < 8 ∧ g.flatten.idxOf c % w < 8 := fun c hc => by
      have lt := (idx_at (mem_mb.mp hc).1).1
      rw [flat_len hV.rc] at lt
      exact ⟨Nat.lt_of_lt_of_le ((Nat.div_lt_iff_lt_mul w1).mpr lt) h8, Nat.lt_of_lt_of_le (Nat.mod_lt _ w1) w8⟩
    refine ⟨fun σ H5 => σ = [some (.ref p), some (.ref l), some (.str (S (edg w))), none, some (.ref tb), none, none, none, none, none] ∧ Same H H5, ?_, ?_⟩
    · refine ⟨_, rfl, tb, rfl, ⟨_, SqL.of htb⟩, fun D1 hD1 => lc_it (n := (tsV ((srt (mb g.flatten)).map (mtl w g))).length) (walk_list (K := K) (a := tb) (xs := tsV ((srt (mb g.flatten)).map (mtl w g)))) (fun i H5 => ∃ ps qn, Same H4 H5 ∧ PdAt H5 D1 w (fun m => g.flatten.idxOf m) ((srt (mb g.flatten)).take i) ps qn)
        ⟨fun _ => 0, fun _ => 0, same_new hD1, upd_same, fun m hm => by simp at hm⟩ (fun _ _ _ ⟨_, _, z, _⟩ => SqL.of (z _ _ htb)) ?_ ?_⟩
      · rintro i x H6 H5 hi ⟨ps, qn, s5, hP⟩ ⟨rfl, hx⟩
        obtain ⟨c, hc, rfl⟩ : ∃ c, (srt (mb g.flatten))[i]? = some c ∧ x = V.str (S (mtl w g c)) := by
          have : (((srt (mb g.flatten)).map (mtl w g)).map fun r => V.str (S r))[i]? = some x := hx
          rw [List.map_map, List.getElem?_map] at this
          cases e : (srt (mb g.flatten))[i]? with
          | none => rw [e] at this; cases this
          | some r => rw [e] at this; exact ⟨r, rfl, (Option.some.inj this).symm⟩
        have hcM := mem_srt.mp (List.mem_of_getElem? hc)
        obtain ⟨q1, q2⟩ := q8 c hcM
        refine ⟨rfl, ?_⟩
        refine ⟨_, rfl, _, _, c, rfl, rfl, by show 7 ≤ 16777216; decide, by rw [S_list]; rfl, ?_⟩
        refine ⟨_, rfl, _, rfl, _, rfl, S (mtl w g c), rfl, by show 7 ≤ 16777216; decide, S [32, 48 + g.flatten.idxOf c / w], _, rfl, itx q1, by show 2 ≤ 640; decide, ?_⟩
        refine ⟨_, rfl, _, rfl, _, rfl, S (mtl w g c), rfl, by show 7 ≤ 16777216; decide, S [32, 48 + g.flatten.idxOf c % w], _, rfl, itx q2, by show 2 ≤ 640; decide, ?_⟩
        refine ⟨by show 2 ≤ sizeLine; decide, fun q4 hq => ⟨by show 2 ≤ sizeLine; decide, fun T_ hT => ?_⟩⟩
        have sq := same_new (o := .tup (plV w (g.flatten.idxOf c))) hq
        have st := same_new (o := .tup [sg c, V.ref q4]) hT
        obtain ⟨ps', qn', z1, z2⟩ := pd_step (T := T_) (q2 := q4) ndS hc hD1 ((hP.same sq).same st) ((s5.trans sq).trans st) upd_same (st _ _ upd_same)
        refine ⟨_, ((hP.same sq).same st).1, ?_, ps', qn', z1, z2⟩
        rw [List.length_map, List.length_take]
        show _ < 16777216
        omega
      rintro H5 ⟨ps, qn, s5, hP⟩
      rw [List.length_map, List.length_map, List.take_length] at hP
      have s45 := s4.trans s5
      refine ⟨_, rfl, p, d0, _, rfl, s45 _ _ e0, p, h, w, g, rfl, T0.same s45, hV, fun H6 s6 => ⟨_, rfl, fun D2 hD2 => ?_⟩⟩
      refine lc_it (walk_str (z := S (srt (mb g.flatten)))) (fun i H7 => ∃ ps2 qn2, Same H6 H7 ∧ PdAt H7 D2 w (fun m => g.flatten.idxOf m) ((srt (mb g.flatten)).take i) ps2 qn2)
        ⟨fun _ => 0, fun _ => 0, same_new hD2, upd_same, fun m hm => by simp at hm⟩ (fun _ _ _ _ => True.intro) ?_ ?_
      · rintro i x H8 H7 hi ⟨ps2, qn2, s7, hP2⟩ ⟨rfl, c, hc, rfl⟩
        rw [S_at] at hc
        have hcM := mem_srt.mp (List.mem_of_getElem? hc)
        have T2 := T0.same ((s45.trans s6).trans s7)
        obtain ⟨d2, a2, e2, _⟩ := id T2
        refine ⟨rfl, _, rfl, _, rfl, p, rfl, _, rfl, ⟨d2, _, e2⟩, call_ok T2 hV hcM fun H4 q4 s4 hq hq' => ?_⟩
        refine ⟨(by show 2 ≤ sizeLine; decide), fun T_ hT => ?_⟩
        have st := same_new (o := .tup [sg c, V.ref q4]) hT
        obtain ⟨ps', qn', z1, z2⟩ := pd_step (T := T_) (q2 := q4) ndS hc hD2 ((hP2.same s4).same st) ((s7.trans s4).trans st) upd_same (by rw [upd_ne (ne_of_none hq' hT)]; exact hq')
        refine ⟨_, ((hP2.same s4).same st).1, ?_, ps', qn', z1, z2⟩
        rw [List.length_map, List.length_take]
        show _ < 16777216
        omega
      rintro H7 ⟨ps2, qn2, s7, hP2⟩
      rw [S_size, List.take_length] at hP2
      have hP1 := (hP.same s6).same s7
      refine ⟨_, _, .lst (SqL.of hP1.1) (pd_all hP1.2), .lst (SqL.of hP2.1) (pd_all hP2.2), td_shaped let_, td_shaped let_, ?_⟩
      rw [td_same let_]
      exact ⟨false, rfl, iteF ⟨rfl, (s45.trans s6).trans s7⟩⟩
    rintro σ H5 ⟨rfl, s5⟩
    have el := enc_len hV
    have b8 := enc_b8 hV
    have w10 : (enc h w g).length ≤ 1000 := by omega
    have szM : (S (srt (mb g.flatten))).length ≤ sizeLine := by
      rw [S_len, lM]
      show _ ≤ 16777216
      omega
    refine ⟨fun σ H6 => ∃ v, σ = [some (.ref p), some (.ref l), some (.str (S (edg w))), none, some (.ref tb), none, some (.ref v), none, none, none] ∧ Same H H6 ∧ H6 v = some (.lst ((enc h w g).map V.int)), ?_, ?_⟩
    · exact ⟨_, rfl, p, h, w, g, rfl, T0.same s5, hV, fun H6 s6 => ⟨enc h w g, rfl, b8, w10, fun H7 v s7 _ hv => ⟨v, rfl, (s5.trans s6).trans s7, hv⟩⟩⟩
    rintro σ H6 ⟨v, rfl, s6, hv6⟩
    -- the head
    refine ⟨fun σ H7 => σ = [some (.ref p), some (.ref l), some (.str (S (edg w))), none, some (.ref tb), none, some (.ref v), none, none, none] ∧ Same H6 H7, ?_, ?_⟩
    · refine ⟨_, rfl, _, rfl, v, _, rfl, SqL.of hv6, fun q hq => ?_⟩
      have e4 : cutV ((enc h w g).map V.int) none (some (4 : Int)) = [.int 84, .int (h : Nat), .int (w : Nat), .int ((mb g.flatten).length : Nat)] := by
        rw [show (4 : Int) = ((4 : Nat) : Int) from rfl, cutV_tkN]
        rfl
      rw [e4]
      have sq := same_new (o := .lst [.int 84, .int (h : Nat), .int (w : Nat), .int ((mb g.flatten).length : Nat)]) hq
      have sH := s6.trans sq
      refine ⟨_, rfl, p, d0, _, rfl, sH _ _ e0, p, h, w, g, rfl, T0.same sH, hV, _, rfl, p, d0, _, rfl, sH _ _ e0, p, h, w, g, rfl, T0.same sH, hV, _, rfl, p, d0, _, rfl, sH _ _ e0, p, h, w, g, rfl, T0.same sH, hV, fun H8 s8 => ⟨_, rfl, szM, by show 4 ≤ sizeLine; decide, fun q2 hq2 => ?_⟩⟩
      rw [show (S (srt (mb g.flatten))).length = (mb g.flatten).length from (S_len _).trans lM]
      have s2' := same_new (o := .lst [.int 84, .int (h : Nat), .int (w : Nat), .int ((mb g.flatten).length : Nat)]) hq2
      have sT := (sq.trans s8).trans s2'
      refine ⟨.list [.int 84, .int (h : Nat), .int (w : Nat), .int ((mb g.flatten).length : Nat)], .list [.int 84, .int (h : Nat), .int (w : Nat), .int ((mb g.flatten).length : Nat)], .lst (SqL.of (s2' _ _ (s8 _ _ upd_same))) (.cons (.int _) (.cons (.int _) (.cons (.int _) (.cons (.int _) .nil)))), .lst (SqL.of upd_same) (.cons (.int _) (.cons (.int _) (.cons (.int _) (.cons (.int _) .nil)))), rfl, rfl, ?_⟩
      rw [SeqAt.eqv_refl _ rfl]
      refine ⟨false, rfl, iteF ?_⟩
      have sU := s6.trans sT
      refine ⟨_, rfl, v, _, rfl, .inl (SqL.of (sT _ _ hv6)), _, rfl, p, d0, _, rfl, sU _ _ e0, p, h, w, g, rfl, T0.same sU, hV, fun H9 s9 => ⟨_, rfl, szM, _, _, rfl, rfl, .inl ⟨by omega, by omega⟩, _, _, rfl, rfl, ?_⟩⟩
      rw [S_len, lM, List.length_map, el]
      refine ⟨rfl, false, ?_, iteF ⟨rfl, sT.trans s9⟩⟩
      show V.bl (!decide (V.int ((5 + 2 * (mb g.flatten).length : Nat) : Int) = V.int (5 + 2 * (((mb g.flatten).length : Nat) : Int)))) = _
      rw [show ((5 + 2 * (mb g.flatten).length : Nat) : Int) = 5 + 2 * (((mb g.flatten).length : Nat) : Int) by omega, decide_eq_true rfl]
      rfl
    rintro σ H7 ⟨rfl, s7⟩
    refine ⟨fun σ H8 => ∃ v7 v8 v9, σ = [some (.ref p), some (.ref l), some (.str (S (edg w))), none, some (.ref tb), none, some (.ref v), v7, v8, v9] ∧ Same H6 H8, ?_, ?_⟩
    · have sH := s6.trans s7
      refine ⟨_, rfl, p, d0, _, rfl, sH _ _ e0, p, h, w, g, rfl, T0.same sH, hV, fun H8 s8 => ⟨_, rfl, szM, ((mb g.flatten).length : Nat), ?_, by omega, by omega, ?_⟩⟩
      · rw [S_len, lM]
      refine for_it (n := (((mb g.flatten).length : Nat) : Int).toNat) walk_range (fun i σ H8 => ∃ v7 v8 v9, σ = [some (.ref p), some (.ref l), some (.str (S (edg w))), none, some (.ref tb), none, some (.ref v), v7, v8, v9] ∧ Same H6 H8) ⟨none, none, none, rfl, s7.trans s8⟩ (fun _ _ _ _ _ => True.intro) ?_ ?_
      · rintro i x σ H9 H8 hi ⟨v7, v8, v9, rfl, s8⟩ ⟨rfl, rfl⟩
        rw [Int.toNat_natCast] at hi
        show gName 7 (V.int (0 + (i : Int))) _ _ _
        rw [Int.zero_add]
        obtain ⟨m, hm⟩ : ∃ m, (srt (mb g.flatten))[i]? = some m := ⟨_, List.getElem?_eq_getElem (by rw [lM]; exact hi)⟩
        have mM : m ∈ mb g.flatten := mem_srt.mp (List.mem_of_getElem? hm)
        have m97 := mb_let hV m mM
        obtain ⟨e1, e2⟩ := enc_at hV hm
        have sH := s6.trans s8
        have hv8 := s8 _ _ hv6
        have a1 : atI ((enc h w g).map V.int) (4 + 2 * (i : Int)) = some (.int ((m - 97 : Nat) : Int)) := by
          rw [show (4 + 2 * (i : Int)) = ((4 + 2 * i : Nat) : Int) by omega]
          exact atI_nat (by rw [List.getElem?_map, e1]; rfl)
        have a2 : atI ((enc h w g).map V.int) (5 + 2 * (i : Int)) = some (.int ((g.flatten.idxOf m : Nat) : Int)) := by
          rw [show (5 + 2 * (i : Int)) = ((4 + 2 * i + 1 : Nat) : Int) by omega]
          exact atI_nat (by rw [List.getElem?_map, e2]; rfl)
        have aM : atI (S (srt (mb g.flatten))).cps.toList ((i : Nat) : Int) = some m := by rw [S_list]; exact atI_nat hm
        have aL : atI (S letters).cps.toList ((m - 97 : Nat) : Int) = some m := by
          rw [S_list]
          have all : ∀ i : Fin 26, letters[i.1]? = some (97 + i.1) := by decide
          have := all ⟨m - 97, by omega⟩
          rw [show 97 + (m - 97) = m by omega] at this
          exact atI_nat this
        refine ⟨fun σ H9 => σ = [some (.ref p), some (.ref l), some (.str (S (edg w))), none, some (.ref tb), none, some (.ref v), some (.int (i : Nat)), some (.int ((g.flatten.idxOf m : Int) / w)), some (.int ((g.flatten.idxOf m : Int) % w))] ∧ Same H6 H9, ?_, ?_⟩
        · refine ⟨_, rfl, _, rfl, _, _, rfl, rfl, .inl ⟨by omega, by omega⟩, _, _, rfl, rfl, v, _, _, _, rfl, rfl, SqL.of hv8, a2, _, rfl, p, d0, _, rfl, sH _ _ e0, p, h, w, g, rfl, T0.same sH, hV, _, _, rfl, ?_, fun q hq => ⟨q, _, rfl, SqT.of upd_same, rfl, _, _, rfl, _, _, rfl, rfl, rfl, s8.trans (same_new hq)⟩⟩
          exact ⟨by omega, by omega⟩
        rintro σ H9 ⟨rfl, s9⟩
        have sI := s6.trans s9
        have hv9 := s9 _ _ hv6
        refine ⟨_, rfl, _, rfl, _, _, rfl, rfl, .inl ⟨by omega, by omega⟩, _, _, rfl, rfl, v, _, _, _, rfl, rfl, SqL.of hv9, a1, S letters, _, m, rfl, rfl, by show 26 ≤ 16777216; decide, aL, _, rfl, p, d0, _, rfl, sI _ _ e0, p, h, w, g, rfl, T0.same sI, hV, fun H10 s10 => ⟨_, rfl, S (srt (mb g.flatten)), _, m, rfl, rfl, szM, aM, rfl, false, by simp, iteF ?_⟩⟩
        have sJ := sI.trans s10
        refine ⟨_, rfl, p, rfl, _, rfl, p, d0, _, rfl, sJ _ _ e0, p, h, w, g, rfl, T0.same sJ, hV, fun H11 s11 => ⟨_, rfl, S (srt (mb g.flatten)), _, m, rfl, rfl, szM, aM, ⟨d0, _, sJ.trans s11 _ _ e0⟩, call_ok (T0.same (sJ.trans s11)) hV mM fun H12 q s12 _ hq => ⟨_, rfl, _, rfl, by show 2 ≤ sizeLine; decide, fun t ht => ?_⟩⟩⟩
        have st := same_new (o := .tup [.int ((g.flatten.idxOf m : Int) / w), .int ((g.flatten.idxOf m : Int) % w)]) ht
        refine ⟨.tuple [.int ((g.flatten.idxOf m : Int) / w), .int ((g.flatten.idxOf m : Int) % w)], .tuple [.int ((g.flatten.idxOf m : Int) / w), .int ((g.flatten.idxOf m : Int) % w)], .tup (SqT.of (st _ _ hq)) (.cons (.int _) (.cons (.int _) .nil)), .tup (SqT.of upd_same) (.cons (.int _) (.cons (.int _) .nil)), rfl, rfl, ?_⟩
        rw [SeqAt.eqv_refl _ rfl]
        exact ⟨false, rfl, iteF ⟨_, _, _, rfl, ((s9.trans s10).trans (s11.trans s12)).trans st⟩⟩
      · rintro σ H8 h8
        exact h8
    rintro σ H8 ⟨v7, v8, v9, rfl, s8⟩
    have sH := s6.trans s8
    refine ⟨_, rfl, p, h, w, g, rfl, T0.same sH, hV, fun H9 s9 => ⟨h, w, g, rfl, hV, fun H10 r s10 T10 => ?_⟩⟩
    obtain ⟨d1, a1, e1, _⟩ := id T10
    have sK := (sH.trans s9).trans s10
    refine ⟨_, rfl, r, d1, _, rfl, e1, .inl ⟨p, d0, _, rfl, sK _ _ e0⟩, r, p, h, w, h, w, g, g, rfl, T10, T0.same sK, hV, hV, ?_⟩
    refine ⟨true, congrArg V.bl (decide_eq_true rfl), iteT ⟨_, rfl, v, enc h w g, rfl, SqL.of (s10 _ _ (s9 _ _ (s8 _ _ hv6))), b8, w10, fun H11 s11 => ⟨_, rfl, p, h, w, g, rfl, T0.same (sK.trans s11), hV, fun H12 s12 => ⟨rfl, ?_⟩⟩⟩⟩
    rw [decide_eq_true rfl]
    exact k _ ((sK.trans s11).trans s12)
end
end TR
end
section
set_option Elab.async false
set_option maxRecDepth 100000
set_option linter.all false
namespace TI
open PySem PySem.Spec PyProof.Rows L2 TM TK TB TP TH TU TW TR
section
variable {X : Cx}
theorem op_neDK {K : PySem.W.Frag} (h : X.K = K) (hu : X.A.units + 64 < cLine) : OpR X (compareOp .NotEq) (rNeD K) := by
  subst h
  exact op_neD hu
end
section
variable {P : Program} {w_ : World} {K : PySem.W.Frag} {mg : Str → Option Value} {base : Heap} {n : Nat} {C D CU CP fI fWc fIl fAt : Addr} {t0 : Tok} {pR gR pM gM : Addr} {fdR fdM fdWc fdIl fdAt : FuncData}
theorem scIl : FnScope ["value"] ["value"] (defScope sIsLetter) := ⟨rfl, rfl, rfl, by decide +kernel, rfl, by decide +kernel, by decide +kernel⟩
def spIl : Sp := fun vs H Q _ => ∃ c : Nat, vs = [sg c] ∧ 97 ≤ c ∧ c < 123 ∧ Q (.bl true) H
theorem ok_il {f : Addr} {fd : FuncData} (F : Fun K "_is_letter" "_is_letter" sIsLetter f fd) (T : TxtW K mg) (U : TxtT K mg t0) : FnOk P w_ K mg base CX0 1 f fd ["value"] spIl := by
  refine F.ok scIl (fun vs H Q E h => ?_) (fun cdv A outer s H vs Q E hr h => ?_)
  · obtain ⟨t, rfl, _⟩ := h
    rfl
  · obtain ⟨c, rfl, c1, c2, k⟩ := h
    refine ⟨_, pss_one (ps_ret (pe_and (pe_callB call_isi (by rfl) T.isi (by decide +kernel) (pa_cons (pv 0) (pa_cons (pe_bltn (v := .ty "str") (by rfl) T.str (by decide +kernel) rfl) pa_nil)))
      (pe_and (pe_cmpR op_eq (pe_callB call_len_str (by rfl) T.len PySem.boot_len (pa_cons (pv 0) pa_nil)) pe_int (nomark _))
        (pe_one (pe_cmpR op_in_sign (pv 0) (C8.pe_gc rfl U.LE) (by rfl)))))), ?_⟩
    refine ⟨_, rfl, _, _, _, _, true, rfl, .ty _, .base (.str _), kit_ty (by decide +kernel), true, rfl, iteT ?_⟩
    refine ⟨_, rfl, _, rfl, by show 1 ≤ sizeLine; decide, rfl, true, rfl, iteT ?_⟩
    refine ⟨_, rfl, c, _, rfl, rfl, ?_⟩
    have e4 : decide (c ∈ (S letters).cps.toList) = true := by
      rw [S_list]
      have all : ∀ k : Fin 26, (97 + k.1) ∈ letters := by decide +kernel
      have := all ⟨c - 97, by omega⟩
      rw [show 97 + (c - 97) = c by omega] at this
      exact decide_eq_true this
    rw [e4]
    exact k
abbrev NWc : List Str := ["tray", "place", "cell", "row", "column", "rows"]
theorem scWc : FnScope NWc ["tray", "place", "cell"] (defScope sWithCell) := ⟨rfl, rfl, rfl, by decide +kernel, rfl, by decide +kernel, by decide +kernel⟩
def spWc (K : PySem.W.Frag) (D : Addr) : Sp := fun vs H Q _ => ∃ (p q h w i j c : Nat) (g : Grid), vs = [.ref p, .ref q, sg c] ∧ TrayAt K D H p g ∧ VG h w g ∧ SqT K H q [.int (i : Nat), .int (j : Nat)] ∧ i < h ∧ j < w ∧ VG h w (putc g i j c) ∧ ∀ H' r, Same H H' → TrayAt K D H' r (putc g i j c) → Q (.ref r) H'
theorem ok_wc {f : Addr} {fd : FuncData} (F : Fun K "_with_cell" "_with_cell" sWithCell f fd) (hlst : mg "list" = none) (CT : ClsT K mg D) (PR : PropOf K D "rows" pR gR) (GR : FnOk P w_ K mg base CX0 1 gR fdR ["self"] (getSp D "_rows")) (bR : Binds K fdR ["self"] []) (M : Mk K D fI)
    (GI : FnR P w_ K mg base CX0 3 fI (fun vs H Q E => ∃ ws rest, vs = ws ++ rest ∧ ws.length = 1 ∧ rest.length ≤ sizeLine ∧ ∀ p, H p = Option.none → spTi K D (ws ++ [V.ref p]) (upd H p (.tup rest)) Q E)) : FnOk P w_ K mg base CX0 5 f fd ["tray", "place", "cell"] (spWc K D) := by
  refine F.ok scWc (fun vs H Q E h => ?_) (fun cdv A outer s H vs Q E hr h => ?_)
  · obtain ⟨p, q, h, w, i, j, c, g, rfl, _⟩ := h
    rfl
  · obtain ⟨p, q, h, w, i, j, c, g, rfl, T0, hV, hq, hi, hj, V1, k⟩ := h
    have nd := scWc.nd
    refine ⟨_, pss_cons (ps_asg (pv 1) (pg_tup (by rfl) (pgs_cons (pg_name (i := 3) nd rfl (.inl rfl)) (pgs_cons (pg_name (i := 4) nd rfl (.inl rfl)) pgs_nil))))
      (pss_cons (ps_set (i := 5) nd rfl (.inl rfl) (pe_callTy call_list_of (by rfl) hlst (by decide +kernel) (pa_cons (pe_prop (pv 0) CT.cl PR GR (hr.mono (by decide)) bR .nil pass0 rfl) pa_nil)))
      (pss_cons (ps_asg (pe_op op_add_str (pe_op op_add_str (pe_slice sl_str (pe_ix ix_list (pv 5) (pv 3) (fun _ _ => rfl)) po_none (po_some (pv 4))) (pv 2)) (pe_slice sl_str (pe_ix ix_list (pv 5) (pv 3) (fun _ _ => rfl)) (po_some (pe_op op_add (pv 4) pe_int)) po_none)) (pg_sub (pv 5) (pv 3) set_list))
      (pss_one (ps_ret (pe_makeS M GI hr rfl CT.mgC pass0 (pv 5)))))), ?_⟩
    obtain ⟨dp, ap, hp, hS⟩ := id T0
    obtain ⟨r, h1, h2, h3⟩ := row_at hV.rc hi
    have w8 := hV.m8
    have rl : (S r).length ≤ sizeLine := by
      rw [S_len]
      show _ ≤ 16777216
      omega
    refine ⟨_, rfl, q, _, rfl, hq, rfl, _, _, rfl, _, _, rfl, rfl, ?_⟩
    refine ⟨_, rfl, p, dp, _, rfl, hp, p, dp, _, _, rfl, hp, rfl, ap, rowV g, rfl, .inr hS, fun l hl => ?_⟩
    have s1 := same_new (o := .lst (rowV g)) hl
    have l1 : upd H l (.lst (rowV g)) l = some (.lst (rowV g)) := upd_same
    generalize upd H l (.lst (rowV g)) = H1 at s1 l1
    have rat : atI (rowV g) (i : Int) = some (.str (S r)) := atI_nat (by rw [List.getElem?_map, h1]; rfl)
    refine ⟨_, rfl, _, rfl, l, _, _, _, rfl, rfl, SqL.of l1, rat, _, rfl, _, rfl, S r, rfl, rl, ?_⟩
    rw [cut_lo (by omega)]
    refine ⟨_, rfl, _, _, rfl, rfl, ?_, ?_⟩
    · rw [S_len, List.length_take]
      show _ + 1 ≤ 16777216
      omega
    refine ⟨_, rfl, _, rfl, l, _, _, _, rfl, rfl, SqL.of l1, rat, _, rfl, _, _, rfl, rfl, _, rfl, S r, rfl, rl, ?_⟩
    rw [show ((j : Int) + 1) = ((j + 1 : Nat) : Int) by omega, cut_hi (by omega)]
    refine ⟨_, _, rfl, rfl, ?_, ?_⟩
    · show (((r.take j).toArray ++ #[c]).size + (S (r.drop (j + 1))).length) ≤ 16777216
      rw [S_len, List.length_drop]
      simp
      omega
    have ecat : (S (r.take j) ++ (⟨#[c]⟩ : Str)) ++ S (r.drop (j + 1)) = S (r.set j c) := by
      rw [set_split (by omega)]
      show Str.mk (((r.take j).toArray ++ #[c]) ++ (r.drop (j + 1)).toArray) = _
      simp
    rw [ecat]
    refine ⟨_, rfl, _, rfl, l, _, _, _, rfl, rfl, l1, ixN_nat (by rw [List.length_map, hV.rc.1]; exact hi), ?_⟩
    rw [show (rowV g).set i (.str (S (r.set j c))) = rowV (putc g i j c) from by
      unfold putc
      rw [h2]
      exact List.map_set.symm]
    have noL : H l = none := hl
    refine ⟨_, rfl, l, _, rfl, .inr (SqL.of upd_same), fun x dx nx ndx nex => ?_⟩
    refine ⟨[.ref x], rowV (putc g i j c), rfl, rfl, ?_, fun tp htp => ?_⟩
    · have := V1.len
      rw [List.length_map]
      show _ ≤ 16777216
      omega
    have hpx : x ≠ tp := fun z => by rw [← z, upd_same] at htp; cases htp
    refine ⟨x, dx, tp, h, w, _, rfl, by rw [upd_ne hpx, upd_same], SqT.of upd_same, V1, fun H' ht kp => ⟨rfl, ?_⟩⟩
    refine k _ _ (fun b o e => ?_) ht
    have bl : b ≠ l := fun z => by rw [z, noL] at e; cases e
    have e1 : upd H1 l (.lst (rowV (putc g i j c))) b = some o := by rw [upd_ne bl]; exact s1 _ _ e
    have hbx : b ≠ x := ne_of_none e1 nx
    have hbd : b ≠ dx := ne_of_none e1 ndx
    have e2 : (upd (upd (upd H1 l (.lst (rowV (putc g i j c)))) dx (.own x)) x (.ins D dx [])) b = some o := by rw [upd_ne hbx, upd_ne hbd]; exact e1
    exact kp b o (by rw [upd_ne (ne_of_none e2 htp)]; exact e2) hbx
abbrev NTk : List Str := ["tray", "marble", "place"]
theorem scTk_ : FnScope NTk ["tray", "marble"] (defScope sAfterTake) := ⟨rfl, rfl, rfl, by decide +kernel, rfl, by decide +kernel, by decide +kernel⟩
/-- a marble less: the tray, the place -/
def spAk (K : PySem.W.Frag) (D : Addr) : Sp := fun vs H Q _ => ∃ (p h w c k : Nat) (g : Grid), vs = [.ref p, sg c] ∧ TrayAt K D H p g ∧ VG h w g ∧ c ≠ 46 ∧ g.flatten[k]? = some c ∧
  ∀ H' tp r q, Same H H' → H' tp = some (.tup [.ref r, .ref q]) → TrayAt K D H' r (putc g (k / w) (k % w) 46) → VG h w (putc g (k / w) (k % w) 46) → H' q = some (.tup (plV w k)) → Q (.ref tp) H'
theorem ok_ak {f : Addr} {fd : FuncData} (F : Fun K "_after_take" "_after_take" sAfterTake f fd) (mEM : ∃ u, mg "EMPTY" = some u ∧ RelV (.str (S [46])) u)
    (CO : StX.CallO K D fI) (GC : FnR P w_ K mg base (L2.CX P w_) 4 fI (spCl K D CU)) (GW : FnOk P w_ K mg base CX0 5 fWc fdWc ["tray", "place", "cell"] (spWc K D)) (kW : PySem.W.keepIn K (.ref fWc) = true) (bW : Binds K fdWc ["tray", "place", "cell"] []) (mW : mg "_with_cell" = some (.ref fWc)) :
    FnOk P w_ K mg base CX0 6 f fd ["tray", "marble"] (spAk K D) := by
  refine F.ok scTk_ (fun vs H Q E h => ?_) (fun cdv A outer s H vs Q E hr h => ?_)
  · obtain ⟨p, h, w, c, k, g, rfl, _⟩ := h
    rfl
  · obtain ⟨p, h, w, c, k, g, rfl, T0, hV, hc, hk, kk⟩ := h
    have nd := scTk_.nd
    refine ⟨_, pss_cons (ps_set (i := 2) nd rfl (.inl rfl) (pe_callO (pv 0) CO GC (hr.mono (by decide)) passL (pa_cons (pv 1) pa_nil)))
      (pss_one (ps_ret (pe_tup (pa_cons (pe_call GW hr rfl mW kW bW .nil pass0 (pa_cons (pv 0) (pa_cons (pv 2) (pa_cons (C8.pe_gc rfl mEM) pa_nil)))) (pa_cons (pv 2) pa_nil))))), ?_⟩
    have hw1 := hV.m1
    have hkl : k < h * w := by
      have := (List.getElem?_eq_some_iff.mp hk).1
      rwa [flat_len hV.rc] at this
    have hi : k / w < h := (Nat.div_lt_iff_lt_mul hw1).mpr hkl
    have hj : k % w < w := Nat.mod_lt _ hw1
    have ek : k / w * w + k % w = k := by
      rw [Nat.mul_comm]
      exact Nat.div_add_mod k w
    have V1 : VG h w (putc g (k / w) (k % w) 46) := putc_VG hV hi hj (by rw [ek]; exact hk) (by unfold Cell; omega) (.inr rfl)
    obtain ⟨d0, a0, h0, _⟩ := id T0
    refine ⟨_, rfl, p, rfl, _, rfl, ⟨d0, _, h0⟩, p, _, h, w, g, rfl, T0, hV, .inl ⟨c, k, rfl, hc, hk, fun H1 q s1 hq hq1 => ?_⟩⟩
    have e1 : ([.int ((k : Int) / w), .int ((k : Int) % w)] : List V) = [.int ((k / w : Nat) : Int), .int ((k % w : Nat) : Int)] := rfl
    refine ⟨_, rfl, _, rfl, p, q, h, w, k / w, k % w, 46, g, rfl, T0.same s1, hV, SqT.of (by rw [hq1, e1]), hi, hj, V1, fun H2 r s2 t2 => ?_⟩
    refine ⟨_, rfl, (by show 2 ≤ sizeLine; decide), fun tp htp => ?_⟩
    have s3 := same_new (o := .tup [V.ref r, V.ref q]) htp
    exact kk _ tp r q ((s1.trans s2).trans s3) upd_same (t2.same s3) V1 ((s2.trans s3) _ _ hq1)
/-- how many marbles there are behind -/
theorem putc_more {h w : Nat} {g : Grid} (hV : VG h w g) {i j c : Nat} (hi : i < h) (hj : j < w) (hx : g.flatten[i * w + j]? = some 46) (hc : c ≠ 46) : (mb (putc g i j c).flatten).Perm (c :: mb g.flatten) := by
  have fl : (putc g i j c).flatten = g.flatten.take (i * w + j) ++ c :: g.flatten.drop (i * w + j + 1) := by
    rw [putc_flat hV.rc.2 (by rw [hV.rc.1]; exact hi) hj, set_split (List.getElem?_eq_some_iff.mp hx).1]
  have e2 : mb g.flatten = mb (g.flatten.take (i * w + j)) ++ mb (g.flatten.drop (i * w + j + 1)) := by
    conv => lhs; rw [own_split hx, mb_app]
    rw [show mb (46 :: g.flatten.drop (i * w + j + 1)) = mb (g.flatten.drop (i * w + j + 1)) by simp [mb]]
  rw [fl, mb_app, show mb (c :: g.flatten.drop (i * w + j + 1)) = c :: mb (g.flatten.drop (i * w + j + 1)) by simp [mb, hc], e2]
  exact List.perm_middle
abbrev NPt : List Str := ["tray", "marble", "place", "after"]
theorem scPt_ : FnScope NPt ["tray", "marble", "place"] (defScope sAfterPut) := ⟨rfl, rfl, rfl, by decide +kernel, rfl, by decide +kernel, by decide +kernel⟩
/-- a marble more: the tray, how many -/
def spAp (K : PySem.W.Frag) (D : Addr) : Sp := fun vs H Q _ => ∃ (p q h w c i j : Nat) (g : Grid), vs = [.ref p, sg c, .ref q] ∧ TrayAt K D H p g ∧ VG h w g ∧ 97 ≤ c ∧ c < 123 ∧ c ∉ mb g.flatten ∧ SqT K H q [.int (i : Nat), .int (j : Nat)] ∧ i < h ∧ j < w ∧ g.flatten[i * w + j]? = some 46 ∧
  ∀ H' tp r, Same H H' → H' tp = some (.tup [.ref r, .int (((mb g.flatten).length + 1 : Nat) : Int)]) → TrayAt K D H' r (putc g i j c) → VG h w (putc g i j c) → Q (.ref tp) H'
theorem ok_ap {f : Addr} {fd : FuncData} {fTc : Addr} (F : Fun K "_after_put" "_after_put" sAfterPut f fd) (hlen : mg "len" = none) (CT : ClsT K mg D)
    (GIl : FnOk P w_ K mg base CX0 1 fIl fdIl ["value"] spIl) (kIl : PySem.W.keepIn K (.ref fIl) = true) (bIl : Binds K fdIl ["value"] []) (mIl : mg "_is_letter" = some (.ref fIl))
    (hTc : PySem.W.findIn K (.ref D) "__contains__" = some (some (.ref fTc))) (iTc : PySem.W.isFn K (.ref fTc) = true) (GTc : FnR P w_ K mg base CX0 3 fTc (spTc K D))
    (MA : Meth K D "at" fAt) (GA : FnOk P w_ K mg base (L2.CX P w_) 4 fAt fdAt ["self", "place"] (spAt K D CU)) (bA : Binds K fdAt ["self", "place"] [])
    (PM : PropOf K D "marbles" pM gM) (GM : FnOk P w_ K mg base CX0 1 gM fdM ["self"] (spMb K D)) (bM : Binds K fdM ["self"] [])
    (GW : FnOk P w_ K mg base CX0 5 fWc fdWc ["tray", "place", "cell"] (spWc K D)) (kW : PySem.W.keepIn K (.ref fWc) = true) (bW : Binds K fdWc ["tray", "place", "cell"] []) (mW : mg "_with_cell" = some (.ref fWc)) :
    FnOk P w_ K mg base CX0 6 f fd ["tray", "marble", "place"] (spAp K D) := by
  refine F.ok scPt_ (fun vs H Q E h => ?_) (fun cdv A outer s H vs Q E hr h => ?_)
  · obtain ⟨p, q, h, w, c, i, j, g, rfl, _⟩ := h
    rfl
  · obtain ⟨p, q, h, w, c, i, j, g, rfl, T0, hV, c1, c2, hc, hq, hi, hj, hx, kk⟩ := h
    have nd := scPt_.nd
    refine ⟨_, pss_cons (ps_if (PW.pt (pw_or (pt_not (pt_val (pe_call GIl (hr.mono (by decide)) rfl mIl kIl bIl .nil pass0 (pa_cons (pv 1) pa_nil)))) (pw_or1 (pt_cmpR (op_inOwn hTc iTc GTc (hr.mono (by decide)) pass0) (pv 1) (pv 0) (by rfl))))) pss_never pss_nil)
      (pss_cons (ps_if (pt_cmpR op_notN (pe_meth (pv 0) CT.cl MA GA (hr.mono (by decide)) bA .nil passL (pa_cons (pv 2) pa_nil)) pe_non (nomark _)) pss_never pss_nil)
      (pss_cons (ps_set (i := 3) nd rfl (.inl rfl) (pe_call GW hr rfl mW kW bW .nil pass0 (pa_cons (pv 0) (pa_cons (pv 2) (pa_cons (pv 1) pa_nil)))))
      (pss_one (ps_ret (pe_tup (pa_cons (pv 3) (pa_cons (pe_callB call_len_str (by rfl) hlen PySem.boot_len (pa_cons (pe_prop (pv 3) CT.cl PM GM (hr.mono (by decide)) bM .nil pass0 rfl) pa_nil)) pa_nil))))))), ?_⟩
    have V1 : VG h w (putc g i j c) := putc_VG hV hi hj hx (by unfold Cell; omega) (.inl ⟨rfl, hc⟩)
    have hg0 : has g [c] = false := by
      show (true && decide (c ∈ mb g.flatten)) = false
      rw [decide_eq_false hc]
      rfl
    obtain ⟨d0, a0, h0, _⟩ := id T0
    refine ⟨_, rfl, c, rfl, c1, c2, true, rfl, iteF ?_⟩
    refine ⟨_, rfl, _, rfl, p, d0, _, rfl, h0, ?_⟩
    refine ⟨p, _, h, w, g, rfl, T0, hV, .inl ⟨[c], rfl, by simp, fun H1 s1 => ?_⟩⟩
    rw [hg0]
    have T1 := T0.same s1
    have q1 := s1.tup hq
    obtain ⟨d1, a1, h1, _⟩ := id T1
    have rg : g[i]? = some (g.getD i []) ∧ (g.getD i []).length = w := by
      obtain ⟨r, e1, e2, e3⟩ := row_at hV.rc hi
      rw [e2]
      exact ⟨e1, e3⟩
    have cell : (g.getD i []).getD j 46 = 46 := by
      have := flat_at hV.rc hi hj
      rw [hx] at this
      have e0 : (g.getD i []).getD j 0 = 46 := (Option.some.inj this).symm
      have lj : j < (g.getD i []).length := by rw [rg.2]; exact hj
      rw [List.getD_eq_getElem?_getD, List.getElem?_eq_getElem lj] at e0 ⊢
      exact e0
    have av : atV g i j = .non := by
      unfold atV
      rw [cell]
      rfl
    refine ⟨false, rfl, false, rfl, iteF ⟨_, rfl, p, d1, _, rfl, h1, rfl, _, rfl, p, _, h, w, g, rfl, T1, hV, .inl ⟨q, i, j, rfl, q1, hi, hj, ?_⟩⟩⟩
    rw [av]
    refine ⟨rfl, _, rfl, iteF ⟨_, rfl, _, rfl, _, rfl, p, q, h, w, i, j, c, g, rfl, T1, hV, q1, hi, hj, V1, fun H2 r s2 t2 => ?_⟩⟩
    obtain ⟨d2, a2, h2, _⟩ := id t2
    refine ⟨_, rfl, _, rfl, r, d2, _, rfl, h2, r, h, w, _, rfl, t2, V1, fun H3 s3 => ?_⟩
    have ln : (S (srt (mb (putc g i j c).flatten))).length = (mb g.flatten).length + 1 := by
      rw [S_len, (srt_perm _).length_eq, (putc_more hV hi hj hx (by omega)).length_eq]
      rfl
    have m26 := mb_26 hV
    refine ⟨_, rfl, by rw [ln]; show _ ≤ 16777216; omega, (by show 2 ≤ sizeLine; decide), fun tp htp => ?_⟩
    rw [ln]
    have s4 := same_new (o := .tup [V.ref r, V.int (((mb g.flatten).length + 1 : Nat) : Int)]) htp
    exact kk _ tp r (((s1.trans s2).trans s3).trans s4) upd_same ((t2.same s3).same s4) V1
abbrev NTl : List Str := ["tray", "tilt", "after", "moved", "marble"]
theorem scTl_ : FnScope NTl ["tray", "tilt"] (defScope sAfterTilt) := ⟨rfl, rfl, rfl, by decide +kernel, rfl, by decide +kernel, by decide +kernel⟩
/-- the marbles that move -/
def moves (g g' : Grid) : List Nat := (srt (mb g.flatten)).filter fun m => decide (g'.flatten.idxOf m ≠ g.flatten.idxOf m)
/-- a tilt: the tray, the marbles that move -/
def spAl_ (K : PySem.W.Frag) (D : Addr) : Sp := fun vs H Q _ => ∃ (p h w c : Nat) (g : Grid), vs = [.ref p, sg c] ∧ TrayAt K D H p g ∧ VG h w g ∧ isT c = true ∧
  ∀ H' tp r, Same H H' → H' tp = some (.tup [.ref r, .str (S (moves g (TM.tilt h w g c)))]) → TrayAt K D H' r (TM.tilt h w g c) → Q (.ref tp) H'
theorem ok_al_ {f : Addr} {fd : FuncData} {fRs fIt fWi fCl : Addr} {fdIt fdWi : FuncData} (F : Fun K "_after_tilt" "_after_tilt" sAfterTilt f fd) (b : Binds K fd ["tray", "tilt"] []) (CW : ClsW K mg C) (CT : ClsT K mg D) (hDC : D ≠ C)
    (sf : PySem.W.selfFirst K D = true) (NO : NoOp K C Operator.RShift.info.2) (hs : PySem.W.findIn K (.ref D) (PySem.dunder Operator.RShift.info.2) = some (some (.ref fRs))) (hf : PySem.W.isFn K (.ref fRs) = true) (GRs : FnRn n P w_ K mg base CX0 5 fRs (spRs K C D))
    (GIt : FnOk P w_ K mg base CX0 1 fIt fdIt ["value"] spIt) (kIt : PySem.W.keepIn K (.ref fIt) = true) (bIt : Binds K fdIt ["value"] []) (mIt : mg "is_tilt" = some (.ref fIt))
    (MW : Mk K C fWi) (GWi : FnOk P w_ K mg base CX0 3 fWi fdWi ["self", "text"] (spWi C)) (bWi : Binds K fdWi ["self", "text"] [])
    (CO : StX.CallO K D fCl) (GC : FnR P w_ K mg base (L2.CX P w_) 4 fCl (spCl K D CU))
    (PM : PropOf K D "marbles" pM gM) (GM : FnOk P w_ K mg base CX0 1 gM fdM ["self"] (spMb K D)) (bM : Binds K fdM ["self"] []) : FnRn n P w_ K mg base CX0 6 f (spAl_ K D) := by
  refine fn_n F b scTl_ (fun vs H Q E h => ?_) fun cdv A outer s H vs Q E hr h => ?_
  · obtain ⟨p, h, w, c, g, rfl, _⟩ := h
    rfl
  · obtain ⟨p, h, w, c, g, rfl, T0, hV, hc, kk⟩ := h
    have nd := scTl_.nd
    refine ⟨_, pssn_cons (PS.up (ps_if (pt_not (pt_val (pe_call GIt (hr.mono (by decide)) rfl mIt kIt bIt .nil pass0 (pa_cons (pv 1) pa_nil)))) pss_never pss_nil))
      (pssn_cons (psn_set (i := 2) nd rfl (.inr rfl) (pen_op (op_twoN hDC sf NO hs hf GRs hr pass0) (PE.up (pv 0)) (PE.up (pe_make MW GWi (hr.mono (by decide)) rfl CW.mgC bWi .nil pass0 (pa_cons (pv 1) pa_nil)))))
      (pssn_cut (PS.up (ps_setLc (i := 3) (own := [("marble", 4)]) (g := gName 4) rfl nd rfl rfl (sw_true rfl rfl rfl (by decide +kernel)) (pi_str (pe_prop (pv 0) CT.cl PM GM (hr.mono (by decide)) bM .nil pass0 rfl)) (blkOk_by (N := NTl) (sc := defScope sAfterTilt) (by decide +kernel)) (fun _ _ _ _ _ => pg_name (i := 4) nd rfl (.inl rfl))
          (fun _ _ _ _ _ => pts_one (pt_cmpR (op_neDK (K := K) rfl hr.units) (pe_callO (pv 2) CO GC (hr.mono (by decide)) passL (pa_cons (pv 4) pa_nil)) (pe_callO (pv 0) CO GC (hr.mono (by decide)) passL (pa_cons (pv 4) pa_nil)) (nomark _))) (fun _ _ _ _ _ => pv 4)))
      (pssn_one (PS.up (ps_ret (pe_tup (pa_cons (pv 2) (pa_cons (pe_join pe_str (pv 3)) pa_nil)))))))), ?_⟩
    have V1 : VG h w (TM.tilt h w g c) := VG.tilts [c] hV
    refine ⟨_, rfl, c, rfl, true, by rw [hc], iteF ?_⟩
    refine ⟨_, rfl, _, rfl, ?_⟩
    intro x dx nx ndx nex
    refine ⟨x, dx, [c], rfl, upd_same, ⟨by show 1 ≤ 60; decide, by simpa using hc⟩, fun H1 hw kp1 => ⟨rfl, ?_⟩⟩
    have s1 := Same.made nx ndx kp1
    have T1 := T0.same s1
    obtain ⟨d1, a1, h1, _⟩ := id T1
    obtain ⟨d2, h2⟩ := id hw
    refine ⟨p, d1, _, x, d2, _, rfl, rfl, h1, h2, p, x, h, w, g, [c], rfl, T1, hV, hw, fun H2 r s2 t2 => ?_⟩
    replace t2 : TrayAt K D H2 r (TM.tilt h w g c) := t2
    have T2 := T1.same s2
    refine ⟨fun σ H3 => ∃ l, σ = [some (.ref p), some (sg c), some (.ref r), some (.ref l), none] ∧ Same H H3 ∧ TrayAt K D H3 r (TM.tilt h w g c) ∧ H3 l = some (.lst ((moves g (TM.tilt h w g c)).map sg)), ?_, ?_⟩
    · obtain ⟨d3, a3, h3, _⟩ := id T2
      refine ⟨_, rfl, p, d3, _, rfl, h3, p, h, w, g, rfl, T2, hV, fun H3 s3 => ⟨_, rfl, fun l hl => ?_⟩⟩
      have T3 := T2.same s3
      have t3 := t2.same s3
      have keep : ∀ {H' : Hp} {o : HO}, Same H3 H' → Same H3 (upd H' l o) := fun {H' o} s b o' e => by rw [upd_ne (ne_of_none e hl)]; exact s b o' e
      refine lc_it (walk_str (z := S (srt (mb g.flatten)))) (fun i H4 => Same H3 H4 ∧ H4 l = some (.lst ((((srt (mb g.flatten)).take i).filter fun m => decide ((TM.tilt h w g c).flatten.idxOf m ≠ g.flatten.idxOf m)).map sg)))
        ⟨keep (Same.refl H3), upd_same⟩ (fun _ _ _ _ => True.intro) ?_ ?_
      · rintro i v H4 H5 hi ⟨s4, l4⟩ ⟨rfl, m, hm, rfl⟩
        rw [S_at] at hm
        have hmb := mem_srt.mp (List.mem_of_getElem? hm)
        have mtl : m ∈ mb (TM.tilt h w g c).flatten := (like_tilts [c] hV.rc).pm.mem_iff.mpr hmb
        have t4 := t3.same s4
        obtain ⟨d4, a4, h4, _⟩ := id t4
        refine ⟨rfl, _, rfl, r, rfl, _, rfl, ⟨d4, _, h4⟩, call_ok t4 V1 mtl fun H6 q6 s6 hq6 hp6 => ?_⟩
        have T6 := (T3.same s4).same s6
        obtain ⟨d5, a5, h5, _⟩ := id T6
        refine ⟨_, rfl, p, rfl, _, rfl, ⟨d5, _, h5⟩, call_ok T6 hV hmb fun H7 q7 s7 hq7 hp7 => ?_⟩
        have p6 := s7 _ _ hp6
        unfold PlcAt at p6 hp7
        refine ⟨_, _, pl_dp p6, pl_dp hp7, pl_shaped _ _, pl_shaped _ _, _, rfl, ?_⟩
        rw [pl_eqv]
        have s47 := (s4.trans s6).trans s7
        have l7 := (s6.trans s7) _ _ l4
        have tk : (srt (mb g.flatten)).take (i + 1) = (srt (mb g.flatten)).take i ++ [m] := by rw [List.take_add_one, hm]; rfl
        rw [tk, List.filter_append, List.map_append]
        by_cases e : (TM.tilt h w g c).flatten.idxOf m = g.flatten.idxOf m
        · rw [decide_eq_true e]
          refine iteF ⟨s47, ?_⟩
          rw [l7]
          simp [e]
        · rw [decide_eq_false e]
          refine iteT ⟨_, rfl, _, l7, ?_, keep s47, ?_⟩
          · have := List.length_filter_le (fun m => decide ((TM.tilt h w g c).flatten.idxOf m ≠ g.flatten.idxOf m)) ((srt (mb g.flatten)).take i)
            have m26 := mb_26 hV
            rw [List.length_take, (srt_perm _).length_eq] at this
            rw [List.length_map]
            show _ < 16777216
            omega
          · rw [upd_same]
            simp [e]
      · rintro H4 ⟨s4, l4⟩
        rw [S_size, List.take_length] at l4
        exact ⟨l, rfl, ((s1.trans s2).trans s3).trans s4, t3.same s4, l4⟩
    rintro σ H3 ⟨l, rfl, s3, t3, hl⟩
    have m26 := mb_26 hV
    have ml : (moves g (TM.tilt h w g c)).length ≤ 26 := by
      have := List.length_filter_le (fun m => decide ((TM.tilt h w g c).flatten.idxOf m ≠ g.flatten.idxOf m)) (srt (mb g.flatten))
      rw [(srt_perm _).length_eq] at this
      unfold moves
      omega
    refine ⟨_, rfl, ⟨_, rfl⟩, _, rfl, _, l, (moves g (TM.tilt h w g c)).map fun m => S [m], rfl, rfl, .inl ?_, ?_, ?_⟩
    · rw [List.map_map]
      exact SqL.of hl
    · have sm1 : ∀ L : List Nat, ((L.map fun m => S [m]).map (fun x => x.length)).sum = L.length := fun L => by
        induction L with
        | nil => rfl
        | cons a L ih =>
          rw [List.map_cons, List.map_cons, List.sum_cons, ih, List.length_cons, S_len]
          show 1 + L.length = L.length + 1
          omega
      rw [sm1, List.length_map]
      show _ + _ * 0 ≤ 16777216
      omega
    · rw [join_signs]
      refine ⟨(by show 2 ≤ sizeLine; decide), fun tp htp => ?_⟩
      have s4 := same_new (o := .tup [V.ref r, V.str (S (moves g (TM.tilt h w g c)))]) htp
      exact kk _ tp r (s3.trans s4) upd_same (t3.same s4)
end
end TI
end
section
set_option Elab.async false
set_option maxRecDepth 100000
set_option linter.all false
namespace TI
open PySem PySem.Spec PyProof.Rows L2 TM TK TB TP TH TU TW TR
section
variable {prog : Program} {w : World} {A : Around} {E : Value → Shared → Prop} {s : Shared}
theorem walks_from (hh : A.handled = none) (I ax : Addr) (hne : ax ≠ I) (items : Array Value) (d : Nat) (hd : d ≤ items.size) :
    Walks prog w A I [I, ax] [I] (items.size - d) (fun i v => items[d + i]? = some v) (fun i h => h.IsTupleIter I ax (d + i) ∧ h.IsTuple ax items) where
  sub := fun b hb => by simp at hb; simp [hb]
  frame := fun _ _ _ st hk => ⟨st.1.at fun o e => hk I (by simp) o e, st.2.at fun o e => hk ax (by simp) o e⟩
  item := fun i s Q E hi st hQ => by
    have hlt : d + i < items.size := by omega
    refine wpAny_pyNext_tuple_item st.1 st.2 (x := items[d + i]) (by simp [hlt]) fun h' hit' hs' => ?_
    exact hQ _ h' s.toks (by simp [hlt]) ⟨hit', st.2.extBut hs'.extBut hne⟩ fun b o hb e => hs'.extBut b o (fun h => hb (by simp [h])) e
  done := fun s Q E st hQ => wpAny_pyNext_tuple_end hh st.1 st.2 (by simp; omega) fun h' he' => hQ h' s.toks fun b o hb e => he' b o (fun h => hb (by simp [h])) e
  self := fun _ _ _ _ st hQ => wpAny_pyIter_tupleiter st.1 hQ
theorem unpackItems_star {t : Addr} {x : Value} {r : List Value} {Q : List Value → Shared → Prop} (hh : A.handled = none) (ht : IsTup s.heap t (x :: r).toArray) (hz : r.length ≤ sizeLine)
    (hQ : ∀ (h' : Heap) (tk : Nat), (∀ b o, s.heap.get? b = some o → h'.get? b = some o) → Q [x, .ref h'.objs.size] { s with heap := h'.push { cls := .type "list", data := .seq r.toArray }, toks := tk }) : wpAny (model prog w) A (unpackItems (.ref t) 2 (some 1)) Q E s := by
  have hlt : t ≠ s.heap.objs.size := by obtain ⟨o, ho, _⟩ := ht; exact Nat.ne_of_lt (Heap.lt_size ho)
  unfold unpackItems
  refine wpAny_bind ?_
  unfold notIterableAtAll
  refine wpAny_bind (wpAny_specialOf ht.typeIs slot_tuple_iter.lookup ?_)
  refine wpAny_pure ?_
  simp only [Bool.false_eq_true, if_false]
  refine wpAny_bind (wpAny_holding (iter_tuple ht ?_))
  have k0 : ∀ b o, s.heap.get? b = some o → (s.heap.push { cls := .type "tuple_iterator", data := .fields #[.ref t, .int 0 0] }).get? b = some o := fun b o e => Heap.get?_push_of_some _ e
  refine wpAny_bind (wpAny_holding (draw_tuple hlt 1 0 _ _ ⟨_, Heap.get?_push_size _ rfl, rfl, rfl⟩ (ht.push _) (by simp) fun h₁ hit₁ hs₁ => ?_))
  have hall : List.take 1 (List.drop 0 (x :: r).toArray.toList) = [x] := by simp
  rw [hall, if_neg (by simp)]
  have ht₁ : IsTup h₁ t (x :: r).toArray := (ht.push _).extBut hs₁.extBut hlt
  have k1 : ∀ b o, s.heap.get? b = some o → h₁.get? b = some o := fun b o e => hs₁.extBut b o (Nat.ne_of_lt (Heap.lt_size e)) (k0 b o e)
  have sz : s.heap.objs.size < h₁.objs.size := by
    obtain ⟨o, ho, _⟩ := hit₁
    exact Heap.lt_size ho
  refine wpAny_bind (wpAny_holding (wpAny_collect_iter (T := "tuple_iterator") (.inr (.inr (.inr rfl))) (walks_from (A := A.in1) hh s.heap.objs.size t hlt (x :: r).toArray 1 (by simp)).toS (fun _ _ st => let ⟨o, ho, hc, _⟩ := st.1; ⟨o, ho, hc⟩) ⟨hit₁, ht₁⟩ (fun b hb => ?_) (by simp) (fun s' acc hm hacc => ?_) (by simp; exact hz)))
  · simp only [List.mem_cons, List.not_mem_nil, or_false] at hb
    rcases hb with rfl | rfl
    · exact sz
    · obtain ⟨o, ho, _⟩ := ht₁
      exact Heap.lt_size ho
  have ea : acc.toList = r := by
    refine List.ext_getElem? fun k => ?_
    have hs : acc.size = r.length := by
      have := hacc.1
      simpa using this
    rcases Nat.lt_or_ge k r.length with hk | hk
    · have hk2 : k < acc.size := by omega
      have := hacc.2 k acc[k] (by simp [hk2])
      rw [List.getElem?_eq_getElem (by rw [Array.length_toList]; exact hk2), Array.getElem_toList]
      rw [← this]
      simp [Nat.add_comm]
    · rw [List.getElem?_eq_none_iff.mpr (by rw [Array.length_toList]; omega), List.getElem?_eq_none_iff.mpr hk]
  obtain ⟨h', gens, drawn, tk', os⟩ := s'
  have g1 : gens = s.gens := hm.gens
  have g2 : drawn = s.drawn := hm.drawn
  have g3 : os = s.os := hm.os
  subst g1 g2 g3
  rw [ea]
  show wpAny (model prog w) A (if r.length < 0 then _ else _) Q E _
  rw [if_neg (Nat.not_lt_zero _)]
  show wpAny (model prog w) A (newList (r.take (r.length - 0)) >>= _) Q E _
  rw [Nat.sub_zero, List.take_length]
  refine wpAny_bind (wpAny_newObj_type (wpAny_pure ?_) (by first | exact hz | (simp; exact hz)))
  rw [List.drop_length, List.append_nil]
  exact hQ h' tk' fun b o e => hm.heap b o (fun z => Nat.ne_of_lt (Heap.lt_size e) (List.mem_singleton.mp z)) (k1 b o e)
end
section
variable {X : Cx}
/-- (a, *b) = a tuple with an item or more -/
def gStar (K : PySem.W.Frag) (t : TGs) : TG := fun v σ H Q => ∃ a x xs, v = .ref a ∧ SqT K H a (x :: xs) ∧ ∀ l, H l = none → t [x, .ref l] σ (upd H l (.lst xs)) Q
theorem pg_star {e1 e2 : Expr} {k : Nat} {t : TGs} {p pos : Pos} (hc : X.calm = true) (h : PGs X [e1, e2] t)
    (h1 : assignEach [e1, .Starred e2 p] X.env = [(false, assign e1 X.env), (true, assign e2 X.env)] := by rfl) (h2 : (assignEach [e1, e2] X.env).map (·.2) = [assign e1 X.env, assign e2 X.env] := by rfl) : PG X (.Tuple [e1, .Starred e2 p] k pos) (gStar X.K t) := by
  refine ⟨fun pins s σ H v u Q I r hw => ?_⟩
  obtain ⟨a, x, xs, rfl, hq, hw⟩ := hw
  cases r
  obtain ⟨its, rv, ht, hz⟩ := I.tuple hq
  cases rv with
  | cons r1 r2 =>
    rename_i u0 ur
    have hl := r2.length
    have hz2 : ur.length ≤ sizeLine := by
      rw [List.length_cons] at hz
      omega
    rw [assign_Tuple]
    refine wpAny_bind (wpAny_standAt ?_)
    unfold unpack
    rw [h1]
    refine wpAny_bind (wpAny_holding (unpackItems_star (I.ok.hd hc) ht hz2 fun h' tk kp => ?_))
    have I1 : Inv X pins σ H { s with heap := h', toks := tk } := I.kept (t' := tk) kp
    have hf : H h'.objs.size = none := I1.hok.fresh (Nat.le_refl _)
    have I2 : Inv X pins σ (upd H h'.objs.size (.lst xs)) { s with heap := h'.push { cls := .type "list", data := .seq ur.toArray }, toks := tk } := I1.laid (t' := tk) (fun b o e => Heap.get?_push_of_some _ e) (Nat.le_refl _) ⟨by rw [hl]; exact hz2, ur, 0, r2, Heap.get?_push_size _ rfl⟩
    have := h.run pins _ σ _ [x, .ref h'.objs.size] [u0, .ref h'.objs.size] Q I2 (.cons r1 (.cons rfl .nil)) (hw _ hf)
    rw [h2] at this
    exact this
end
end TI
end
section
set_option Elab.async false
set_option maxRecDepth 100000
set_option linter.all false
namespace TI
open PySem PySem.Spec PyProof.Rows L2 TM TK TB TP TH TU TW TR
section
variable {X : Cx} {CX : CXT} {n k : Nat}
/-- which def, with which promise -/
def tCallVS (G : Addr → Prop) (sps : Addr → Sp) (E : XK) (tf : TE) (t : TA) : TE := fun σ H Q => tf σ H fun v H1 => ∃ g, v = .ref g ∧ G g ∧ t σ H1 fun vs H2 => sps g vs H2 Q E
theorem pen_callVS {G : Addr → Prop} {sps : Addr → Sp} {E : XK} {b : Str} {tf : TE} {e : Expr} {es : List Expr} {t : TA} {p pos : Pos} (F : ∀ g, G g → FnRn n X.prog X.w X.K X.mg X.base CX k g (sps g) ∧ PySem.W.keepIn X.K (.ref g) = true) (hr : Room k X.A) (hx : Passes CX X E) (hf : PE X (.Name b p) tf) (ha : PA X (e :: es) t)
    (he : starEach (e :: es) X.env = (false, eval e X.env) :: starEach es X.env := by rfl) (hst : (backTo pos (starEach es X.env)).any (·.1) = true := by rfl) :
    PEn n X (.Call (.Name b p) (e :: es) [] pos) (tCallVS G sps E tf t) := by
  intro pins s σ H Q hn I h
  refine wpAny_Call_Name_kw (thnN hn (hf.run pins s σ H _ I h) fun u s1 hn1 ⟨v, H1, I1, r1, g, ev, hg, q1⟩ => ?_)
  subst ev
  obtain rfl : u = Value.ref g := r1
  obtain ⟨FG, hk⟩ := F g hg
  refine PySem.W.callWith_S2 (h₀ := X.base) I.ok.mod.kin hk (thnN hn1 (ha.run pos pins s1 σ H1 _ I1 q1) fun us s2 hn2 ⟨vs, H2, I2, r, q⟩ => ⟨I2.kIn, ?_⟩) he hst
  exact wpAny_call (run_fnRn hn2 FG hr hx I2 r q)
end
/-- def f(a, .., *v), its body wants n tokens out -/
theorem fn_starN {CX : CXT} {P : Program} {w : World} {K : PySem.W.Frag} {mg : Str → Option Value} {base : Heap} {n k : Nat} {f : Addr} {x qual va : Str} {st : Stmt} {fd : FuncData} {N ps : List Str} {sp : Sp} (F : L2.Fun K x qual st f fd) (S : FnScope N (ps ++ [va]) (defScope st)) (hCX : StX.CXUp CX)
    (hb : ∀ us rest : List Value, us.length = ps.length → bindArgs fd ⟨us ++ rest, []⟩ = (newTuple rest >>= fun t => pure (ps.zip us ++ [(va, t)])))
    (hbody : ∀ (cdv : Value) (A : Around) (outer : List Env) (s : Shared) (H : Hp) (vs : List V) (Q : VK) (E : XK), Room k (A.deeper (envOfC qual (defScope st) s.heap.objs.size f cdv)) → sp vs H Q E →
      ∃ t, PSsn n (cxOf CX P w K mg base N qual (defScope st) f cdv A outer s H E).nox (defBody st) t ∧ t { nx := fun _ H' => Q .non H', rt := Q } (start N vs) H) :
    FnRn n P w K mg base CX (k + 1) f (fun vs H Q E => ∃ ws rest, vs = ws ++ rest ∧ ws.length = ps.length ∧ rest.length ≤ sizeLine ∧ ∀ p, H p = none → sp (ws ++ [V.ref p]) (upd H p (.tup rest)) Q E) := by
  obtain ⟨oc, od, kV, doc, pm, an, cdv, ct, osl, rfl, lk, hcd⟩ := F.ex
  intro A outer s H us vs Q E hn hr e0 r hsp
  obtain ⟨ws, rest, rfl, hl, hz, hq⟩ := hsp
  obtain ⟨u1, u2, rfl, r1, r2⟩ := StX.vals_split r
  have KX : K.In s.heap := e0.mod.kin.keeps fun b o e => (e0.bs b o e).1
  have hf : H s.heap.objs.size = none := e0.hok.fresh (Nat.le_refl _)
  have l1 : u1.length = ps.length := by rw [← r1.length]; exact hl
  have l2 : u2.length ≤ sizeLine := by rw [← r2.length]; exact hz
  refine codeAny_call_function hr.depth (KX _ _ lk) rfl S.co S.gen rfl (PySem.W.codeRec_of KX hcd) ?_
  rw [hb u1 u2 l1]
  have tupAt : ObjOk P w (upd H s.heap.objs.size (.tup rest)) (s.heap.push ({ cls := .type "tuple", data := .seq u2.toArray } : Obj)) s.heap.objs.size (.tup rest) := ⟨hz, u2, r2, ⟨_, Heap.get?_push_size _ rfl, rfl, _, rfl⟩⟩
  have e2 := StX.env0_laid e0 tupAt
  have un := StX.un_laid (fs := frs outer) (s := s) (o := ({ cls := .type "tuple", data := .seq u2.toArray } : Obj)) (u := .tup rest) hf
  have r3 : Vals (ws ++ [V.ref s.heap.objs.size]) (u1 ++ [Value.ref s.heap.objs.size]) := r1.append (.cons rfl .nil)
  have l3 : (ws ++ [V.ref s.heap.objs.size]).length = (ps ++ [va]).length := by
    rw [List.length_append, List.length_append, hl]
    rfl
  have q3 := hq _ hf
  generalize upd H s.heap.objs.size (.tup rest) = H2 at e2 un q3
  refine wpAny_bind (wpAny_newTuple (wpAny_pure ?_) l2)
  have zp : ps.zip u1 ++ [(va, Value.ref s.heap.objs.size)] = (ps ++ [va]).zip (u1 ++ [Value.ref s.heap.objs.size]) := by
    rw [List.zip_append l1.symm]
    rfl
  rw [zp]
  generalize hs2 : ({ s with heap := s.heap.push ({ cls := .type "tuple", data := .seq u2.toArray } : Obj) } : Shared) = s2 at e2
  have hn2 : n ≤ s2.toks := by rw [← hs2]; exact hn
  have os2 : s2.os = s.os := by rw [← hs2]
  have kp2 : ∀ b o, s.heap.get? b = some o → s2.heap.get? b = some o := by rw [← hs2]; exact fun b o e => Heap.get?_push_of_some _ e
  have un2 : Un (frs outer) [] H H2 s.heap s2.heap := by rw [← hs2]; exact un
  have lim : s2.heap.NoLimit := e0.mod.nolimit.keeps fun b o e => (e2.bs b o e).1
  have hkind : ∀ y ∈ (ps ++ [va]).zip (u1 ++ [Value.ref s.heap.objs.size]), (defScope st).names.lookup y.1 = some .local ∨ ((defScope st).names.lookup y.1 = some .cell ∧ ((cellsFrom (s2.heap.objs.size + 1) (defScope st).names []).lookup y.1).isSome = true) := fun ⟨m, v⟩ hy => by
    rcases S.par m (List.of_mem_zip hy).1 with q | q
    · exact .inl q
    · exact .inr ⟨q, PySem.W.cellsFrom_some _ _ _ (.inl q)⟩
  show wpAny _ _ _ _ _ s2
  refine wpAny_with_toks hn2 (wpAny_mono (wpAny_newFunctionEnv_cells (Q := fun env s1 => n ≤ s1.toks → _) S.kind hkind fun env he s1 x hn1 => ?_) (fun _ _ z => z) fun _ _ z _ => z)
  subst he
  refine ⟨lim.keeps x.toInCall.keep, codeAny_func ?_⟩
  obtain ⟨t, ht, hq'⟩ := hbody cdv A outer s2 H2 _ Q E (hr.deeper _) q3
  have I : Inv (cxOf CX P w K mg base N qual (defScope st) f cdv A outer s2 H2 E) [] (start N (ws ++ [V.ref s.heap.objs.size])) H2 s1 := inv_start S hr.hd e2 l3 r3 x
  refine wpAny_mono (pssn_nox ht [] s1 _ H2 _ hn1 I hq') (fun fl s' hs => ?_) fun e s' hs => ?_
  rotate_left
  · exact wpAny_mono hs (fun _ s'' z => hCX outer s H s2 H2 E _ s'' un2 kp2 os2 z) fun e' s'' z => hCX outer s H s2 H2 E e' s'' un2 kp2 os2 z
  have fin : ∀ {σ' : L2.St} {H' : Hp} {v : V} {u : Value}, Inv (cxOf CX P w K mg base N qual (defScope st) f cdv A outer s2 H2 E) [] σ' H' s' → RelV v u → Q v H' → CE outer P w H s Q u s' :=
    fun {σ' H' v u} J rv q => ⟨v, H', J.os.trans os2, J.bare, un2.trans J.base, J.hok, rv, q⟩
  cases fl with
  | ret u =>
    obtain ⟨v, σ', H', J, rv, q⟩ := hs
    exact fin J rv q
  | next =>
    obtain ⟨σ', H', J, q⟩ := hs
    exact fin (v := V.non) (u := Value.none) J rfl q
  | brk =>
    obtain ⟨_, _, _, q⟩ := hs
    exact q.elim
  | cont =>
    obtain ⟨_, _, _, q⟩ := hs
    exact q.elim
end TI
end
section
set_option Elab.async false
set_option maxRecDepth 100000
set_option linter.all false
namespace TI
open PySem PySem.Spec PyProof.Rows L2 TM TK TB TP TH TU TW TR
def rInKd (K : PySem.W.Frag) (w : World) : R2 := fun y x H Q => ∃ p z v, x = .ref p ∧ y = .str z ∧ (p == sysModules) = false ∧ KDct K w p z v ∧ Q (.bl true) H
section
variable {X : Cx}
/-- x in a dict of the module -/
theorem op_inKd : OpR X (compareOp .In) (rInKd X.K X.w) := by
  intro pins s σ H y x v u Q I ry rx h
  obtain ⟨p, z, r, rfl, rfl, hp, ⟨es, n, u0, hl, hk, e, ru⟩, q⟩ := h
  obtain rfl : u = Value.ref p := rx
  obtain ⟨t, rfl⟩ := ry
  have hm := PySem.W.mapOf_K (prog := X.prog) (w := X.w) I.kIn hl hk
  have hv := PySem.W.find_K hl e
  refine wpAny_in_of (strKind_is X.prog X.w z t) hp hm ?_
  rw [hv]
  exact ⟨.bl true, H, I.tok _, rfl, q⟩
end
section
variable {P : Program} {w_ : World} {K : PySem.W.Frag} {mg : Str → Option Value} {base : Heap} {n : Nat} {aS : Addr}
theorem scIo : FnScope ["value", "name"] ["value"] (defScope sIsOperation) := ⟨rfl, rfl, rfl, by decide +kernel, rfl, by decide +kernel, by decide +kernel⟩
def spIo (K : PySem.W.Frag) (w_ : World) (aS : Addr) : Sp := fun vs H Q _ => ∃ (a : Addr) (z : Str) (xs : List V), vs = [.ref a] ∧ SqT K H a (.str z :: xs) ∧ xs.length ≤ 100 ∧ KDct K w_ aS z (.int ((xs.length + 1 : Nat) : Int)) ∧ Q (.bl true) H
theorem ok_io {f : Addr} {fd : FuncData} (F : Fun K "_is_operation" "_is_operation" sIsOperation f fd) (T : TxtW K mg) (htup : mg "tuple" = none) (mS : mg "SIZES" = some (.ref aS)) (nS : (aS == sysModules) = false) : FnOk P w_ K mg base CX0 1 f fd ["value"] (spIo K w_ aS) := by
  refine F.ok scIo (fun vs H Q E h => ?_) (fun cdv A outer s H vs Q E hr h => ?_)
  · obtain ⟨a, z, xs, rfl, _⟩ := h
    rfl
  · obtain ⟨a, z, xs, rfl, hS, hl, hK, k⟩ := h
    have nd := scIo.nd
    refine ⟨_, pss_cons (ps_if (PW.pt (pw_or (pt_not (pt_val (pe_callB call_isi (by rfl) T.isi (by decide +kernel) (pa_cons (pv 0) (pa_cons (pe_bltn (v := .ty "tuple") (by rfl) htup (by decide +kernel) rfl) pa_nil))))) (pw_or1 (pt_cmpR op_eq (pe_callB call_len_seq (by rfl) T.len PySem.boot_len (pa_cons (pv 0) pa_nil)) pe_int (nomark _))))) pss_never pss_nil)
      (pss_cons (ps_set (i := 1) nd rfl (.inl rfl) (pe_ix ix_tup (pv 0) pe_int (fun _ _ => rfl)))
      (pss_one (ps_ret (pe_and (pe_callB call_isi (by rfl) T.isi (by decide +kernel) (pa_cons (pv 1) (pa_cons (pe_bltn (v := .ty "str") (by rfl) T.str (by decide +kernel) rfl) pa_nil)))
        (pe_and (pe_cmpR op_inKd (pv 1) (pe_glob (v := .ref aS) rfl mS rfl) (by rfl))
          (pe_one (pe_cmpR op_eq (pe_callB call_len_seq (by rfl) T.len PySem.boot_len (pa_cons (pv 0) pa_nil)) (pe_ix ix_kdict (pe_glob (v := .ref aS) rfl mS rfl) (pv 1) (fun _ _ => rfl)) (nomark _)))))))), ?_⟩
    refine ⟨_, rfl, _, _, _, _, true, rfl, .ty _, TA.sq_ty (.tup hS), kit_ty (TA.tup_kit true), true, rfl, iteF ?_⟩
    refine ⟨_, rfl, a, _, rfl, .inr hS, rfl, _, rfl, ?_⟩
    rw [show decide (V.int (((V.str z :: xs).length : Nat) : Int) = V.int 0) = false from decide_eq_false fun y => by
      have := V.int.inj y
      rw [List.length_cons] at this
      omega]
    refine iteF ⟨_, rfl, a, _, 0, _, rfl, rfl, hS, atI_nat (xs := V.str z :: xs) (j := 0) rfl, ?_⟩
    refine ⟨_, rfl, _, _, _, _, true, rfl, .ty _, .base (.str _), kit_ty (by decide +kernel), true, rfl, iteT ?_⟩
    refine ⟨_, rfl, aS, z, _, rfl, rfl, nS, hK, true, rfl, iteT ?_⟩
    refine ⟨_, rfl, a, _, rfl, .inr hS, _, rfl, aS, z, _, rfl, rfl, hK, rfl, ?_⟩
    rw [show decide (V.int (((V.str z :: xs).length : Nat) : Int) = V.int ((xs.length + 1 : Nat) : Int)) = true from decide_eq_true rfl]
    exact k
end
end TI
end
section
set_option Elab.async false
set_option maxRecDepth 100000
set_option linter.all false
namespace TI
open PySem PySem.Spec PyProof.Rows L2 TM TK TB TP TH TU TW TR
inductive Op where
  | tl (c : Nat)
  | pt (c i j : Nat)
  | tk (c : Nat)
/-- an operation's tuple -/
def opV (H : Hp) (K : PySem.W.Frag) : Op → List V → Prop
  | .tl c, xs => xs = [.str (Str.ofString "tilt"), sg c]
  | .pt c i j, xs => ∃ q, xs = [.str (Str.ofString "put"), sg c, .ref q] ∧ SqT K H q [.int (i : Nat), .int (j : Nat)]
  | .tk c, xs => xs = [.str (Str.ofString "take"), sg c]
def OpAt (K : PySem.W.Frag) (H : Hp) (x : V) (o : Op) : Prop := ∃ a xs, x = .ref a ∧ SqT K H a xs ∧ opV H K o xs
theorem OpAt.same {K : PySem.W.Frag} {H H' : Hp} {x : V} {o : Op} (h : OpAt K H x o) (s : Same H H') : OpAt K H' x o := by
  obtain ⟨a, xs, h1, h2, h3⟩ := h
  refine ⟨a, xs, h1, s.tup h2, ?_⟩
  cases o with
  | tl c => exact h3
  | pt c i j =>
    obtain ⟨q, e, hq⟩ := h3
    exact ⟨q, e, s.tup hq⟩
  | tk c => exact h3
def TrV (K : PySem.W.Frag) (D : Addr) (H : Hp) (x : V) (g : Grid) : Prop := ∃ r, x = .ref r ∧ TrayAt K D H r g
def All2 {α : Type} (R : V → α → Prop) (xs : List V) (ys : List α) : Prop := xs.length = ys.length ∧ ∀ (k : Nat) x y, xs[k]? = some x → ys[k]? = some y → R x y
theorem All2.imp {α : Type} {R S : V → α → Prop} {xs : List V} {ys : List α} (h : All2 R xs ys) (f : ∀ x y, R x y → S x y) : All2 S xs ys := ⟨h.1, fun k x y a b => f x y (h.2 k x y a b)⟩
theorem All2.take {α : Type} {R : V → α → Prop} {xs : List V} {ys : List α} (h : All2 R xs ys) (d : Nat) : All2 R (xs.take d) (ys.take d) := by
  refine ⟨by rw [List.length_take, List.length_take, h.1], fun k x y a b => ?_⟩
  have l1 := (List.getElem?_eq_some_iff.mp a).1
  rw [List.length_take] at l1
  have l2 : k < d := by omega
  rw [List.getElem?_take_of_lt l2] at a b
  exact h.2 k x y a b
theorem All2.app {α : Type} {R : V → α → Prop} {xs us : List V} {ys vs : List α} (h : All2 R xs ys) (g : All2 R us vs) : All2 R (xs ++ us) (ys ++ vs) := by
  refine ⟨by rw [List.length_append, List.length_append, h.1, g.1], fun k x y a b => ?_⟩
  rcases Nat.lt_or_ge k xs.length with l | l
  · rw [List.getElem?_append_left l] at a
    rw [List.getElem?_append_left (by rw [← h.1]; exact l)] at b
    exact h.2 k x y a b
  · rw [List.getElem?_append_right l] at a
    rw [List.getElem?_append_right (by rw [← h.1]; exact l), ← h.1] at b
    exact g.2 _ x y a b
/-- the state's tuple: all operations, all trays, how many are in effect -/
structure StAt (K : PySem.W.Frag) (D : Addr) (H : Hp) (st : Addr) (os : List Op) (gs : List Grid) (d : Nat) : Prop where
  at_ : ∃ o tr xs ts, SqT K H st [.ref o, .ref tr, .int (d : Nat)] ∧ SqT K H o xs ∧ SqT K H tr ts ∧ All2 (OpAt K H) xs os ∧ All2 (TrV K D H) ts gs
  le : d ≤ os.length
  len : gs.length = os.length + 1
theorem StAt.same {K : PySem.W.Frag} {D : Addr} {H H' : Hp} {st d : Nat} {os : List Op} {gs : List Grid} (h : StAt K D H st os gs d) (s : Same H H') : StAt K D H' st os gs d := by
  obtain ⟨⟨o, tr, xs, ts, h1, h2, h3, h4, h5⟩, h6, h7⟩ := h
  exact ⟨⟨o, tr, xs, ts, s.tup h1, s.tup h2, s.tup h3, h4.imp fun x y z => z.same s, h5.imp fun x y ⟨r, e, t⟩ => ⟨r, e, t.same s⟩⟩, h6, h7⟩
/-- a live tray, no block open -/
def LvAt (K : PySem.W.Frag) (L D : Addr) (H : Hp) (p : Addr) (os : List Op) (gs : List Grid) (d : Nat) : Prop := ∃ dx st, H p = some (.ins L dx [("_state", .ref st), ("_state_before_block", .non)]) ∧ StAt K D H st os gs d
theorem LvAt.same {K : PySem.W.Frag} {L D : Addr} {H H' : Hp} {p d : Nat} {os : List Op} {gs : List Grid} (h : LvAt K L D H p os gs d) (s : Same H H') : LvAt K L D H' p os gs d := by
  obtain ⟨dx, st, h1, h2⟩ := h
  exact ⟨dx, st, s _ _ h1, h2.same s⟩
structure ClsL (K : PySem.W.Frag) (mg : Str → Option Value) (L : Addr) : Prop where
  cl : Cls K L
  n1 : NoAttr K L "_state"
  n2 : NoAttr K L "_state_before_block"
  mgL : mg "LiveTray" = some (.ref L)
section
variable {P : Program} {w_ : World} {K : PySem.W.Frag} {mg : Str → Option Value} {base : Heap} {n : Nat} {L D : Addr}
abbrev NPr : List Str := ["self", "_", "trays", "done"]
theorem scPr : FnScope NPr ["self"] (defScope sLiveTrayPresentTray) := ⟨rfl, rfl, rfl, by decide +kernel, rfl, by decide +kernel, by decide +kernel⟩
def spPr (K : PySem.W.Frag) (L D : Addr) : Sp := fun vs H Q _ => ∃ (p d : Nat) (os : List Op) (gs : List Grid) (g : Grid), vs = [.ref p] ∧ LvAt K L D H p os gs d ∧ gs[d]? = some g ∧ ∀ r, TrayAt K D H r g → Q (.ref r) H
theorem ok_pr {f : Addr} {fd : FuncData} (F : Fun K "present_tray" "LiveTray.present_tray" sLiveTrayPresentTray f fd) (CL : ClsL K mg L) : FnOk P w_ K mg base CX0 1 f fd ["self"] (spPr K L D) := by
  refine F.ok scPr (fun vs H Q E h => ?_) (fun cdv A outer s H vs Q E hr h => ?_)
  · obtain ⟨p, d, os, gs, g, rfl, _⟩ := h
    rfl
  · obtain ⟨p, d, os, gs, g, rfl, hL, hg, k⟩ := h
    have nd := scPr.nd
    obtain ⟨dx, st, hp, ⟨⟨o, tr, xs, ts, h1, h2, h3, h4, h5⟩, h6, h7⟩⟩ := hL
    refine ⟨_, pss_cons (ps_asg (pe_fld (pv 0) rfl) (pg_tup (by rfl) (pgs_cons (pg_name (i := 1) nd rfl (.inl rfl)) (pgs_cons (pg_name (i := 2) nd rfl (.inl rfl)) (pgs_cons (pg_name (i := 3) nd rfl (.inl rfl)) pgs_nil)))))
      (pss_one (ps_ret (pe_ix ix_tup (pv 2) (pv 3) (fun _ _ => rfl)))), ?_⟩
    refine ⟨_, rfl, p, L, dx, _, _, rfl, hp, CL.cl, CL.n1, rfl, st, _, rfl, h1, rfl, _, _, rfl, _, _, rfl, _, _, rfl, rfl, ?_⟩
    have hd : d < gs.length := (List.getElem?_eq_some_iff.mp hg).1
    obtain ⟨x, hx⟩ : ∃ x, ts[d]? = some x := ⟨_, List.getElem?_eq_getElem (by rw [h5.1]; exact hd)⟩
    obtain ⟨r, rfl, tr_⟩ := h5.2 d x g hx hg
    exact ⟨_, rfl, _, rfl, tr, ts, _, _, rfl, rfl, h3, atI_nat hx, k r tr_⟩
end
end TI
end
section
set_option Elab.async false
set_option maxRecDepth 100000
set_option linter.all false
namespace TI
open PySem PySem.Spec PyProof.Rows L2 TM TK TB TP TH TU TW TR
theorem sl_of {K : PySem.W.Frag} {H : Hp} {a : Addr} {xs : List V} {lo hi : Option Int} {Q : VK} (h : SqT K H a xs) (k : ∀ H' r, Same H H' → SqT K H' r (cutV xs lo hi) → Q (.ref r) H') : rSlA K (.ref a) lo hi H Q := by
  refine ⟨a, xs, rfl, h, fun z => ?_, fun z p hp => ?_⟩
  · refine k H a (Same.refl H) ?_
    have e : cutV xs lo hi = xs := by
      unfold cutV
      rw [z.1, z.2, List.drop_zero, Nat.sub_zero, List.take_length]
    rw [e]
    exact h
  · exact k _ p (same_new hp) (SqT.of upd_same)
theorem cat_of {K : PySem.W.Frag} {H : Hp} {a b : Addr} {xs ys : List V} {Q : VK} (ha : SqT K H a xs) (hb : SqT K H b ys) (hz : xs.length + ys.length ≤ sizeLine) (k : ∀ H' r, Same H H' → SqT K H' r (xs ++ ys) → Q (.ref r) H') : rCatA K (.ref a) (.ref b) H Q := by
  refine ⟨a, b, xs, ys, rfl, rfl, ha, hb, hz, fun z => k H b (Same.refl H) (by rw [z]; exact hb), fun _ z => k H a (Same.refl H) (by rw [z, List.append_nil]; exact ha), fun _ _ p hp => k _ p (same_new hp) (SqT.of upd_same)⟩
theorem cutT_tk (t : List V) (d : Nat) : cutV t none (some (d : Int)) = t.take d := by
  unfold cutV
  rw [show HT.sIx t.length 0 none = 0 from rfl, HT.sIx_nat, Nat.sub_zero, List.drop_zero]
  rcases Nat.le_total d t.length with h | h
  · rw [Nat.min_eq_left h]
  · rw [Nat.min_eq_right h, List.take_length, List.take_of_length_le h]
/-- what stands while a live tray changes -/
abbrev LO (L dx st : Addr) (u : V) : HO := .ins L dx [("_state", .ref st), ("_state_before_block", u)]
section
variable {K : PySem.W.Frag} {L D dx st p : Addr} {u : V} {H H' : Hp}
theorem seq_lv {a : Addr} {xs : List V} (h : SqT K H a xs) (hp : H p = some (LO L dx st u)) (kp : But p H H') : SqT K H' a xs := seq_but h hp (fun _ _ => ⟨by simp, by simp⟩) kp
theorem tray_lv {r : Addr} {g : Grid} (h : TrayAt K D H r g) (hp : H p = some (LO L dx st u)) (kp : But p H H') : TrayAt K D H' r g := by
  obtain ⟨d, a, e, q⟩ := h
  refine ⟨d, a, kp _ _ e fun z => ?_, seq_lv q hp kp⟩
  rw [z, hp] at e
  have e := Option.some.inj e
  simp at e
theorem op_lv {x : V} {o : Op} (h : OpAt K H x o) (hp : H p = some (LO L dx st u)) (kp : But p H H') : OpAt K H' x o := by
  obtain ⟨a, xs, h1, h2, h3⟩ := h
  refine ⟨a, xs, h1, seq_lv h2 hp kp, ?_⟩
  cases o with
  | tl c => exact h3
  | pt c i j =>
    obtain ⟨q, e, hq⟩ := h3
    exact ⟨q, e, seq_lv hq hp kp⟩
  | tk c => exact h3
theorem st_lv {s d : Nat} {os : List Op} {gs : List Grid} (h : StAt K D H s os gs d) (hp : H p = some (LO L dx st u)) (kp : But p H H') : StAt K D H' s os gs d := by
  obtain ⟨⟨o, tr, xs, ts, h1, h2, h3, h4, h5⟩, h6, h7⟩ := h
  exact ⟨⟨o, tr, xs, ts, seq_lv h1 hp kp, seq_lv h2 hp kp, seq_lv h3 hp kp, h4.imp fun x y z => op_lv z hp kp, h5.imp fun x y ⟨r, e, t⟩ => ⟨r, e, tray_lv t hp kp⟩⟩, h6, h7⟩
end
section
variable {P : Program} {w_ : World} {K : PySem.W.Frag} {mg : Str → Option Value} {base : Heap} {n : Nat} {L D : Addr}
abbrev NEs : List Str := ["self", "operations", "later_trays", "earlier", "trays", "done"]
theorem scEs : FnScope NEs ["self", "operations", "later_trays"] (defScope sLiveTrayExtendState) := ⟨rfl, rfl, rfl, by decide +kernel, rfl, by decide +kernel, by decide +kernel⟩
def spEs (K : PySem.W.Frag) (L D : Addr) : Sp := fun vs H Q _ => ∃ (p o2 t2 d : Nat) (os os2 : List Op) (gs gs2 : List Grid) (xs2 ts2 : List V), vs = [.ref p, .ref o2, .ref t2] ∧ LvAt K L D H p os gs d ∧ SqT K H o2 xs2 ∧ All2 (OpAt K H) xs2 os2 ∧ SqT K H t2 ts2 ∧ All2 (TrV K D H) ts2 gs2 ∧ gs2.length = os2.length ∧ os.length + os2.length ≤ 1000 ∧
  ∀ H', LvAt K L D H' p (os.take d ++ os2) (gs.take (d + 1) ++ gs2) (d + os2.length) → But p H H' → Q .non H'
theorem ok_es {f : Addr} {fd : FuncData} (F : Fun K "_extend_state" "LiveTray._extend_state" sLiveTrayExtendState f fd) (CL : ClsL K mg L) (hlen : mg "len" = none) : FnOk P w_ K mg base CX0 1 f fd ["self", "operations", "later_trays"] (spEs K L D) := by
  refine F.ok scEs (fun vs H Q E h => ?_) (fun cdv A outer s H vs Q E hr h => ?_)
  · obtain ⟨p, o2, t2, d, os, os2, gs, gs2, xs2, ts2, rfl, _⟩ := h
    rfl
  · obtain ⟨p, o2, t2, d, os, os2, gs, gs2, xs2, ts2, rfl, ⟨dx, st, hp, ⟨⟨o, tr, xs, ts, h1, h2, h3, h4, h5⟩, h6, h7⟩⟩, ho2, ao2, ht2, at2, hl2, hz, k⟩ := h
    have nd := scEs.nd
    refine ⟨_, pss_cons (ps_asg (pe_fld (pv 0) rfl) (pg_tup (by rfl) (pgs_cons (pg_name (i := 3) nd rfl (.inl rfl)) (pgs_cons (pg_name (i := 4) nd rfl (.inl rfl)) (pgs_cons (pg_name (i := 5) nd rfl (.inl rfl)) pgs_nil)))))
      (pss_one (ps_fld (pv 0) (pe_tup (pa_cons (pe_op op_catA (pe_slice sl_tupA (pv 3) po_none (po_some (pv 5))) (pv 1)) (pa_cons (pe_op op_catA (pe_slice sl_tupA (pv 4) po_none (po_some (pe_op op_add (pv 5) pe_int))) (pv 2)) (pa_cons (pe_op op_add (pv 5) (pe_callB call_len_seq (by rfl) hlen PySem.boot_len (pa_cons (pv 1) pa_nil))) pa_nil)))) rfl)), ?_⟩
    have lx := h4.1
    have lt_ := h5.1
    have lx2 := ao2.1
    have lt2 := at2.1
    refine ⟨_, rfl, p, L, dx, _, _, rfl, hp, CL.cl, CL.n1, rfl, st, _, rfl, h1, rfl, _, _, rfl, _, _, rfl, _, _, rfl, rfl, ?_⟩
    refine ⟨_, rfl, _, rfl, _, rfl, ?_⟩
    refine sl_of h2 fun H1 r1 s1 q1 => ?_
    rw [cutT_tk] at q1
    refine ⟨_, rfl, cat_of q1 (s1.tup ho2) (by rw [List.length_take]; show _ ≤ 16777216; omega) fun H2 r2 s2 q2 => ?_⟩
    have s12 := s1.trans s2
    refine ⟨_, rfl, _, rfl, _, _, rfl, rfl, _, rfl, ?_⟩
    refine sl_of (s12.tup h3) fun H3 r3 s3 q3 => ?_
    rw [show (d : Int) + 1 = ((d + 1 : Nat) : Int) by omega, cutT_tk] at q3
    have s13 := s12.trans s3
    refine ⟨_, rfl, cat_of q3 (s13.tup ht2) (by rw [List.length_take]; show _ ≤ 16777216; omega) fun H4 r4 s4 q4 => ?_⟩
    have s14 := s13.trans s4
    refine ⟨_, rfl, _, rfl, o2, xs2, rfl, .inr (s14.tup ho2), _, _, rfl, rfl, (by show 3 ≤ sizeLine; decide), fun tp htp => ?_⟩
    have s5 := same_new (o := .tup [V.ref r2, V.ref r4, V.int ((d : Int) + ((xs2.length : Nat) : Int))]) htp
    have e5 : upd H4 tp (.tup [V.ref r2, V.ref r4, V.int ((d : Int) + ((xs2.length : Nat) : Int))]) tp = some (.tup [V.ref r2, V.ref r4, V.int ((d : Int) + ((xs2.length : Nat) : Int))]) := upd_same
    generalize upd H4 tp (.tup [V.ref r2, V.ref r4, V.int ((d : Int) + ((xs2.length : Nat) : Int))]) = H5 at s5 e5
    have s15 := s14.trans s5
    have hp5 := s15 _ _ hp
    have tk1 : (os.take d).length = d := by rw [List.length_take]; omega
    have tk2 : (gs.take (d + 1)).length = d + 1 := by rw [List.length_take]; omega
    have S5 : StAt K D H5 tp (os.take d ++ os2) (gs.take (d + 1) ++ gs2) (d + os2.length) := by
      refine ⟨⟨r2, r4, xs.take d ++ xs2, ts.take (d + 1) ++ ts2, SqT.of (by rw [e5, lx2, show ((d + os2.length : Nat) : Int) = (d : Int) + ((os2.length : Nat) : Int) by omega]), ((s3.trans s4).trans s5).tup q2, s5.tup q4, ?_, ?_⟩, ?_, ?_⟩
      · exact ((h4.take d).app ao2).imp fun x y z => z.same s15
      · exact ((h5.take (d + 1)).app at2).imp fun x y ⟨r, e, t⟩ => ⟨r, e, t.same s15⟩
      · rw [List.length_append, tk1]
        exact Nat.le_refl _
      · rw [List.length_append, List.length_append, tk1, tk2, hl2]
        omega
    have kp5 : ∀ o', But p H5 (upd H5 p o') := fun o' b o e hb => by rw [upd_ne hb]; exact e
    refine ⟨_, rfl, p, L, dx, _, rfl, hp5, CL.cl, CL.n1, (by show 2 < 1000; decide), ?_⟩
    exact k _ ⟨dx, tp, upd_same, st_lv S5 hp5 (kp5 _)⟩ ((But.same s15).trans (kp5 _))
end
end TI
end
section
set_option Elab.async false
set_option maxRecDepth 100000
set_option linter.all false
namespace TI
open PySem PySem.Spec PyProof.Rows L2 TM TK TB TP TH TU TW TR
def stepG (h w : Nat) (g : Grid) : Op → Grid
  | .tl c => TM.tilt h w g c
  | .pt c i j => putc g i j c
  | .tk c => putc g (g.flatten.idxOf c / w) (g.flatten.idxOf c % w) 46
def okOp (h w : Nat) (g : Grid) : Op → Prop
  | .tl c => isT c = true
  | .pt c i j => 97 ≤ c ∧ c < 123 ∧ c ∉ mb g.flatten ∧ i < h ∧ j < w ∧ g.flatten[i * w + j]? = some 46
  | .tk c => c ∈ mb g.flatten
def resV (K : PySem.W.Frag) (H : Hp) (h w : Nat) (g : Grid) : Op → V → Prop
  | .tl c, v => v = .str (S (moves g (TM.tilt h w g c)))
  | .pt _ _ _, v => v = .int (((mb g.flatten).length + 1 : Nat) : Int)
  | .tk c, v => ∃ q, v = .ref q ∧ H q = some (.tup (plV w (g.flatten.idxOf c)))
theorem resV_same {K : PySem.W.Frag} {H H' : Hp} {h w : Nat} {g : Grid} {o : Op} {v : V} (r : resV K H h w g o v) (kp : ∀ b xs, H b = some (.tup xs) → H' b = some (.tup xs)) : resV K H' h w g o v := by
  cases o with
  | tl c => exact r
  | pt c i j => exact r
  | tk c =>
    obtain ⟨q, e, hq⟩ := r
    exact ⟨q, e, kp _ _ hq⟩
theorem tk_place {h w : Nat} {g : Grid} (hV : VG h w g) {c : Nat} (hc : c ∈ mb g.flatten) : c ≠ 46 ∧ g.flatten[g.flatten.idxOf c]? = some c ∧ g.flatten.idxOf c / w < h ∧ g.flatten.idxOf c % w < w ∧ g.flatten.idxOf c / w * w + g.flatten.idxOf c % w = g.flatten.idxOf c := by
  have m := mem_mb.mp hc
  have at_ := (idx_at m.1).2
  have lt := (List.getElem?_eq_some_iff.mp at_).1
  rw [flat_len hV.rc] at lt
  have hw1 := hV.m1
  refine ⟨m.2, at_, (Nat.div_lt_iff_lt_mul hw1).mpr lt, Nat.mod_lt _ hw1, ?_⟩
  rw [Nat.mul_comm]
  exact Nat.div_add_mod _ w
theorem stepG_VG {h w : Nat} {g : Grid} (hV : VG h w g) {o : Op} (ho : okOp h w g o) : VG h w (stepG h w g o) := by
  cases o with
  | tl c => exact VG.tilts [c] hV
  | pt c i j =>
    obtain ⟨c1, c2, hn, hi, hj, hx⟩ := ho
    exact putc_VG hV hi hj hx (by unfold Cell; omega) (.inl ⟨rfl, hn⟩)
  | tk c =>
    obtain ⟨_, e, hi, hj, ek⟩ := tk_place hV ho
    exact putc_VG hV hi hj (by rw [ek]; exact e) (by unfold Cell; omega) (.inr rfl)
/-- the trays behind each operation -/
def runG (h w : Nat) : Grid → List Op → List Grid
  | _, [] => []
  | g, o :: r => stepG h w g o :: runG h w (stepG h w g o) r
def okAll (h w : Nat) : Grid → List Op → Prop
  | _, [] => True
  | g, o :: r => okOp h w g o ∧ okAll h w (stepG h w g o) r
theorem runG_len (h w : Nat) : ∀ (os : List Op) (g : Grid), (runG h w g os).length = os.length
  | [], _ => rfl
  | o :: r, g => by
    show (runG h w (stepG h w g o) r).length + 1 = r.length + 1
    rw [runG_len h w r]
/-- the tray ahead of an operation -/
def atG (h w : Nat) (g : Grid) (os : List Op) (k : Nat) : Grid := (os.take k).foldl (stepG h w) g
theorem atG_ok {h w : Nat} : ∀ {os : List Op} {g : Grid} {k : Nat} {o : Op}, okAll h w g os → os[k]? = some o → okOp h w (atG h w g os k) o
  | o' :: r, g, 0, o, h1, h2 => by
    cases h2
    exact h1.1
  | o' :: r, g, k + 1, o, h1, h2 => by
    show okOp h w (atG h w (stepG h w g o') r k) o
    exact atG_ok h1.2 h2
theorem atG_VG {h w : Nat} : ∀ {os : List Op} {g : Grid} (k : Nat), VG h w g → okAll h w g os → VG h w (atG h w g os k)
  | [], g, k, hV, _ => by
    unfold atG
    rw [List.take_nil]
    exact hV
  | o :: r, g, 0, hV, _ => hV
  | o :: r, g, k + 1, hV, h1 => atG_VG (os := r) k (stepG_VG hV h1.1) h1.2
theorem atG_next {h w : Nat} {os : List Op} {g : Grid} {k : Nat} {o : Op} (e : os[k]? = some o) : atG h w g os (k + 1) = stepG h w (atG h w g os k) o := by
  unfold atG
  rw [List.take_add_one, e, List.foldl_append]
  rfl
theorem runG_at {h w : Nat} : ∀ {os : List Op} {g : Grid} {k : Nat} {o : Op}, os[k]? = some o → (runG h w g os)[k]? = some (atG h w g os (k + 1))
  | o' :: r, g, 0, o, e => rfl
  | o' :: r, g, k + 1, o, e => by
    show (runG h w (stepG h w g o') r)[k]? = some (atG h w (stepG h w g o') r (k + 1))
    exact runG_at (o := o) e
theorem runG_take {h w : Nat} {os : List Op} {g : Grid} {k : Nat} {o : Op} (e : os[k]? = some o) : (runG h w g os).take (k + 1) = (runG h w g os).take k ++ [atG h w g os (k + 1)] := by
  rw [List.take_add_one, runG_at e]
  rfl
section
variable {P : Program} {w_ : World} {K : PySem.W.Frag} {mg : Str → Option Value} {base : Heap} {n : Nat} {L D fTl fPt fTk : Addr} {fdPt fdTk : FuncData}
/-- which action -/
def actOf (fTl fPt fTk : Addr) : Op → Addr
  | .tl _ => fTl
  | .pt _ _ _ => fPt
  | .tk _ => fTk
/-- the three actions -/
def actG (fTl fPt fTk : Addr) (g : Addr) : Prop := g = fTl ∨ g = fPt ∨ g = fTk
def actS (K : PySem.W.Frag) (D fTl fPt fTk : Addr) (g : Addr) : Sp := fun vs H Q E => (g = fTl ∧ spAl_ K D vs H Q E) ∨ (g = fPt ∧ spAp K D vs H Q E) ∨ (g = fTk ∧ spAk K D vs H Q E)
theorem act_ok (GTl : FnRn n P w_ K mg base CX0 6 fTl (spAl_ K D)) (kTl : PySem.W.keepIn K (.ref fTl) = true) (GPt : FnRn n P w_ K mg base CX0 6 fPt (spAp K D)) (kPt : PySem.W.keepIn K (.ref fPt) = true) (GTk : FnRn n P w_ K mg base CX0 6 fTk (spAk K D)) (kTk : PySem.W.keepIn K (.ref fTk) = true) :
    ∀ g, actG fTl fPt fTk g → FnRn n P w_ K mg base CX0 6 g (actS K D fTl fPt fTk g) ∧ PySem.W.keepIn K (.ref g) = true := fun g hg => by
  refine ⟨fun A outer s H us vs Q E hn hr e0 r hsp => ?_, ?_⟩
  · rcases hsp with ⟨rfl, z⟩ | ⟨rfl, z⟩ | ⟨rfl, z⟩
    · exact GTl A outer s H us vs Q E hn hr e0 r z
    · exact GPt A outer s H us vs Q E hn hr e0 r z
    · exact GTk A outer s H us vs Q E hn hr e0 r z
  · rcases hg with rfl | rfl | rfl
    · exact kTl
    · exact kPt
    · exact kTk
/-- an action on a tray: what it gives, in one word -/
theorem act_do {H : Hp} {p h w : Nat} {g : Grid} {o : Op} {xs : List V} {z : Str} {Q : VK} {E : XK} (T0 : TrayAt K D H p g) (hV : VG h w g) (ho : okOp h w g o) (hx : opV H K o (.str z :: xs)) (f : Addr)
    (hf : f = actOf fTl fPt fTk o)
    (k : ∀ H' tp r v, Same H H' → H' tp = some (.tup [.ref r, v]) → TrayAt K D H' r (stepG h w g o) → resV K H' h w g o v → Q (.ref tp) H') : actS K D fTl fPt fTk f (.ref p :: xs) H Q E := by
  cases o with
  | tl c =>
    have e : V.str z :: xs = [.str (Str.ofString "tilt"), sg c] := hx
    injection e with e1 e2
    subst e2
    exact .inl ⟨hf, p, h, w, c, g, rfl, T0, hV, ho, fun H' tp r s e t => k H' tp r _ s e t rfl⟩
  | pt c i j =>
    obtain ⟨q, e, hq⟩ := hx
    injection e with e1 e2
    subst e2
    obtain ⟨c1, c2, hn, hi, hj, hc⟩ := ho
    exact .inr (.inl ⟨hf, p, q, h, w, c, i, j, g, rfl, T0, hV, c1, c2, hn, hq, hi, hj, hc, fun H' tp r s e t _ => k H' tp r _ s e t rfl⟩)
  | tk c =>
    have e : V.str z :: xs = [.str (Str.ofString "take"), sg c] := hx
    injection e with e1 e2
    subst e2
    obtain ⟨c46, e, hi, hj, ek⟩ := tk_place hV ho
    exact .inr (.inr ⟨hf, p, h, w, c, g.flatten.idxOf c, g, rfl, T0, hV, c46, e, fun H' tp r q s e t _ hq => k H' tp r _ s e t ⟨q, rfl, hq⟩⟩)
end
end TI
end
section
set_option Elab.async false
set_option maxRecDepth 100000
set_option linter.all false
namespace TI
open PySem PySem.Spec PyProof.Rows L2 TM TK TB TP TH TU TW TR
theorem tray_but {K : PySem.W.Frag} {D p r : Addr} {H H' : Hp} {g : Grid} {xs : List V} (h : TrayAt K D H p g) (hr : H r = some (.lst xs)) (b : But r H H') : TrayAt K D H' p g := by
  obtain ⟨dx, a, h1, h2⟩ := h
  have ne : p ≠ r := fun e => by
    rw [e, hr] at h1
    cases h1
  refine ⟨dx, a, b _ _ h1 ne, ?_⟩
  rcases h2 with (h2 | ⟨u, h2⟩) | h2
  · exact .inl (.inl (b _ _ h2 fun e => by rw [e, hr] at h2; cases h2))
  · exact .inl (.inr ⟨u, b _ _ h2 fun e => by rw [e, hr] at h2; cases h2⟩)
  · exact .inr h2
theorem seq_lb {K : PySem.W.Frag} {H H' : Hp} {a r : Addr} {xs ys : List V} (h : SqT K H a xs) (hr : H r = some (.lst ys)) (b : But r H H') : SqT K H' a xs := seq_but h hr (fun _ _ => ⟨by simp, by simp⟩) b
theorem op_head {K : PySem.W.Frag} {H : Hp} {o : Op} {xs : List V} (h : opV H K o xs) : ∃ z r, xs = V.str z :: r ∧ r.length ≤ 2 := by
  cases o with
  | tl c => exact ⟨_, _, h, by simp⟩
  | pt c i j =>
    obtain ⟨q, e, _⟩ := h
    exact ⟨_, _, e, by simp⟩
  | tk c => exact ⟨_, _, h, by simp⟩
theorem act_kd {K : PySem.W.Frag} {w_ : World} {H : Hp} {aA fTl fPt fTk : Addr} {op : Op} {z : Str} {xs : List V} (hx : opV H K op (V.str z :: xs)) (dTl : KDct K w_ aA (Str.ofString "tilt") (.ref fTl)) (dPt : KDct K w_ aA (Str.ofString "put") (.ref fPt)) (dTk : KDct K w_ aA (Str.ofString "take") (.ref fTk)) :
    ∃ fa, actG fTl fPt fTk fa ∧ KDct K w_ aA z (.ref fa) ∧ fa = actOf fTl fPt fTk op := by
  cases op with
  | tl c =>
    have e : V.str z :: xs = [.str (Str.ofString "tilt"), sg c] := hx
    injection e with e1 _
    rw [V.str.inj e1]
    exact ⟨fTl, .inl rfl, dTl, rfl⟩
  | pt c i j =>
    obtain ⟨q, e, hq⟩ := hx
    injection e with e1 _
    rw [V.str.inj e1]
    exact ⟨fPt, .inr (.inl rfl), dPt, rfl⟩
  | tk c =>
    have e : V.str z :: xs = [.str (Str.ofString "take"), sg c] := hx
    injection e with e1 _
    rw [V.str.inj e1]
    exact ⟨fTk, .inr (.inr rfl), dTk, rfl⟩
section
variable {X : Cx} {n : Nat}
theorem psn_asg {tg e : Expr} {te : TE} {g : TG} {pos : Pos} (he : PEn n X e te) (hg : PG X tg g) (hs : swapsWithSole [tg] e pos.line X.env = pure false := by rfl) (hw : swappedStores [tg] e X.env = pure none := by rfl)
    (h1 : (assignEach [tg] X.env).map (·.2) = [assign tg X.env] := by rfl) : PSn n X (.Assign [tg] e pos) (tAsg te g) := by
  intro pins s σ H D hn I h
  refine wpAny_Assign_stores (thn (he pins s σ H _ hn I h) fun v s1 ⟨x, H1, I1, r1, q1⟩ => ?_) hs hw
  rw [h1]
  exact thn (hg.run pins s1 σ H1 x v _ I1 r1 q1) fun _ s2 q => q
end
section
variable {P : Program} {w_ : World} {K : PySem.W.Frag} {mg : Str → Option Value} {base : Heap} {n : Nat} {L D fTl fPt fTk fIo fEs aS aA pP gP : Addr} {fdIo fdEs fdP : FuncData}
/-- what apply uses -/
structure ApF (P : Program) (w_ : World) (K : PySem.W.Frag) (mg : Str → Option Value) (base : Heap) (n : Nat) (L D aS : Addr) : Prop where
  cl : ClsL K mg L
  enu : mg "enumerate" = none
  tup : mg "tuple" = none
  fIo : ∃ g fd, FnOk P w_ K mg base CX0 1 g fd ["value"] (spIo K w_ aS) ∧ PySem.W.keepIn K (.ref g) = true ∧ Binds K fd ["value"] [] ∧ mg "_is_operation" = some (.ref g)
  pPr : ∃ p g fd, PropOf K L "present_tray" p g ∧ FnOk P w_ K mg base CX0 1 g fd ["self"] (spPr K L D) ∧ Binds K fd ["self"] []
  mEs : ∃ g fd, Meth K L "_extend_state" g ∧ FnOk P w_ K mg base CX0 1 g fd ["self", "operations", "later_trays"] (spEs K L D) ∧ Binds K fd ["self", "operations", "later_trays"] []
  act : ∃ aA fTl fPt fTk, mg "ACTIONS" = some (.ref aA) ∧ KDct K w_ aA (Str.ofString "tilt") (.ref fTl) ∧ KDct K w_ aA (Str.ofString "put") (.ref fPt) ∧ KDct K w_ aA (Str.ofString "take") (.ref fTk) ∧
    ∀ g, actG fTl fPt fTk g → FnRn n P w_ K mg base CX0 6 g (actS K D fTl fPt fTk g) ∧ PySem.W.keepIn K (.ref g) = true
  siz : KDct K w_ aS (Str.ofString "tilt") (.int 2) ∧ KDct K w_ aS (Str.ofString "put") (.int 3) ∧ KDct K w_ aS (Str.ofString "take") (.int 2)
abbrev NAp : List Str := ["self", "operations", "index", "operation", "present", "later_trays", "results", "name", "details", "action", "result"]
theorem scAp : FnScope NAp ((["self"] : List Str) ++ (["operations"] : List Str)) (defScope sLiveTrayApply) := ⟨rfl, rfl, rfl, by decide +kernel, rfl, by decide +kernel, by decide +kernel⟩
/-- behind apply -/
def spApC (K : PySem.W.Frag) (L D : Addr) : Sp := fun vs H Q _ => ∃ (p o d h w : Nat) (os ops : List Op) (gs : List Grid) (g : Grid) (xs : List V), vs = [.ref p, .ref o] ∧ LvAt K L D H p os gs d ∧ gs[d]? = some g ∧ VG h w g ∧ SqT K H o xs ∧ All2 (OpAt K H) xs ops ∧ okAll h w g ops ∧ os.length + ops.length ≤ 1000 ∧
  ∀ H' l rs, H' l = some (.lst rs) → rs.length = ops.length → (∀ (k : Nat) v op, rs[k]? = some v → ops[k]? = some op → resV K H' h w (atG h w g ops k) op v) →
    (ops = [] → LvAt K L D H' p os gs d) → (ops ≠ [] → LvAt K L D H' p (os.take d ++ ops) (gs.take (d + 1) ++ runG h w g ops) (d + ops.length)) → But p H H' → Q (.ref l) H'
set_option maxHeartbeats 2000000 in
theorem ok_apC {f : Addr} {fd : FuncData} (F : Fun K "apply" "LiveTray.apply" sLiveTrayApply f fd) (A_ : ApF P w_ K mg base n L D aS) (hb : ∀ us rest : List Value, us.length = (["self"] : List Str).length → bindArgs fd ⟨us ++ rest, []⟩ = (newTuple rest >>= fun t => pure ((["self"] : List Str).zip us ++ [(("operations" : Str), t)]))) :
    FnRn n P w_ K mg base CX0 7 f (fun vs H Q E => ∃ ws rest, vs = ws ++ rest ∧ ws.length = (["self"] : List Str).length ∧ rest.length ≤ sizeLine ∧ ∀ p, H p = none → spApC K L D (ws ++ [V.ref p]) (upd H p (.tup rest)) Q E) := by
  obtain ⟨gIo, fdIo, GIo, kIo, bIo, mIo⟩ := A_.fIo
  obtain ⟨pP, gP, fdP, PP, GP_, bP⟩ := A_.pPr
  obtain ⟨gE, fdE, ME, GE, bE⟩ := A_.mEs
  obtain ⟨aA, fTl, fPt, fTk, mA, dTl, dPt, dTk, GA⟩ := A_.act
  obtain ⟨zTl, zPt, zTk⟩ := A_.siz
  have CL := A_.cl
  refine fn_starN F scAp StX.cxUp_none hb fun cdv A outer s H vs Q E hr h => ?_
  obtain ⟨p, o, d, h, w, os, ops, gs, g, xs, rfl, hL, hg, hV, ho, ao, hok, hz, k⟩ := h
  have nd := scAp.nd
  have r1 : Room 1 _ := hr.mono (by decide)
  have r2 : Room 2 _ := hr.mono (by decide)
  refine ⟨_, pssn_cut (PS.up (ps_for PassesOwn.never rfl (pi_enumT (by rfl) A_.enu (pa_cons (pv 1) pa_nil)) (pg_tup rfl (pgs_cons (pg_name (i := 2) nd rfl (.inl rfl)) (pgs_cons (pg_name (i := 3) nd rfl (.inl rfl)) pgs_nil)))
      (pss_one (ps_if (pt_not (pt_val (pe_call GIo r1 rfl mIo kIo bIo .nil pass0 (pa_cons (pv 3) pa_nil)))) pss_never pss_nil))))
    (pssn_cut (PS.up (ps_set (i := 4) nd rfl (.inl rfl) (pe_prop (pv 0) CL.cl PP GP_ r2 bP .nil pass0 rfl)))
    (pssn_cut (PS.up (ps_set (i := 5) nd rfl (.inl rfl) (pe_lst pa_nil)))
    (pssn_cut (PS.up (ps_set (i := 6) nd rfl (.inl rfl) (pe_lst pa_nil)))
    (pssn_cut (psn_for PassesOwn.never rfl (pi_tup (pv 1)) (pg_star rfl (pgs_cons (pg_name (i := 7) nd rfl (.inl rfl)) (pgs_cons (pg_name (i := 8) nd rfl (.inl rfl)) pgs_nil)))
      (pssn_cut (PS.up (ps_set (i := 9) nd rfl (.inl rfl) (pe_ix ix_kdict (pe_glob (v := .ref aA) rfl mA rfl) (pv 7) (fun _ _ => rfl))))
      (pssn_cut (psn_asg (pen_callVS GA hr pass0 (pv 9) (pa_cons (pv 4) (StX.pa_star (pv 8) pa_nil))) (pg_tup (by rfl) (pgs_cons (pg_name (i := 4) nd rfl (.inl rfl)) (pgs_cons (pg_name (i := 10) nd rfl (.inl rfl)) pgs_nil))))
      (pssn_cut (PS.up (ps_expr (pe_bm PySem.F.plainAttrs_list PySem.F.slot_list_append PySem.F.type_list_append mt_append (pv 5) (pa_cons (pv 4) pa_nil))))
      (pssn_one (PS.up (ps_expr (pe_bm PySem.F.plainAttrs_list PySem.F.slot_list_append PySem.F.type_list_append mt_append (pv 6) (pa_cons (pv 10) pa_nil)))))))))
    (pssn_cut (psn_if (PT.up (pt_truth (pv 1) (by intro _; rfl))) (PSs.up (pss_one (ps_expr (pe_meth (pv 0) CL.cl ME GE r1 bE .nil pass0 (pa_cons (pv 1) (pa_cons (pe_callTy call_tuple_of (by rfl) A_.tup (by decide +kernel) (pa_cons (pv 5) pa_nil)) pa_nil)))))) (PSs.up pss_nil))
    (pssn_one (PS.up (ps_ret (pv 6))))))))), ?_⟩
  -- all are operations
  refine ⟨fun σ H1 => ∃ v2 v3, σ = [some (.ref p), some (.ref o), v2, v3, none, none, none, none, none, none, none] ∧ Same H H1, ?_, ?_⟩
  · refine ⟨_, rfl, o, xs, rfl, ho, for_it (walk_enumT (K := K) (a := o) (xs := xs)) (fun i σ H1 => ∃ v2 v3, σ = [some (.ref p), some (.ref o), v2, v3, none, none, none, none, none, none, none] ∧ Same H H1) ⟨none, none, rfl, Same.refl H⟩ (fun i σ H1 _ ⟨_, _, _, s⟩ => s.tup ho) ?_ fun σ H1 z => z⟩
    rintro i x σ H1 H2 hi ⟨v2, v3, rfl, s1⟩ ⟨T_, y, rfl, hT, rfl, hy⟩
    have s2 := same_new (o := .tup [.int (i : Nat), y]) hT
    have hi2 : i < ops.length := by rw [← ao.1]; exact hi
    obtain ⟨a, ys, rfl, hS, hx⟩ := ao.2 i y ops[i] hy (List.getElem?_eq_getElem hi2)
    refine ⟨T_, _, rfl, SqT.of upd_same, rfl, _, _, rfl, _, _, rfl, rfl, ?_⟩
    have s12 := s1.trans s2
    have kd : ∃ z r, ys = V.str z :: r ∧ r.length ≤ 2 ∧ KDct K w_ aS z (.int ((r.length + 1 : Nat) : Int)) := by
      generalize ops[i] = op at hx
      cases op with
      | tl c => exact ⟨_, _, hx, by simp, zTl⟩
      | pt c i j =>
        obtain ⟨q, e, _⟩ := hx
        exact ⟨_, _, e, by simp, zPt⟩
      | tk c => exact ⟨_, _, hx, by simp, zTk⟩
    obtain ⟨z, r, rfl, r2', kd⟩ := kd
    exact ⟨_, rfl, a, z, r, rfl, s12.tup hS, by omega, kd, true, rfl, iteF ⟨_, _, rfl, s12⟩⟩
  rintro σ H1 ⟨v2, v3, rfl, s1⟩
  -- the present tray, two lists
  refine ⟨fun σ H2 => ∃ r, σ = [some (.ref p), some (.ref o), v2, v3, some (.ref r), none, none, none, none, none, none] ∧ Same H H2 ∧ TrayAt K D H2 r g, ?_, ?_⟩
  · have hL1 := hL.same s1
    obtain ⟨dx, st, hp, _⟩ := id hL1
    exact ⟨_, rfl, p, dx, _, rfl, hp, p, d, os, gs, g, rfl, hL1, hg, fun r tr => ⟨r, rfl, s1, tr⟩⟩
  rintro σ H2 ⟨r0, rfl, s2, t2⟩
  clear s1 H1
  refine ⟨fun σ H3 => ∃ lt, σ = [some (.ref p), some (.ref o), v2, v3, some (.ref r0), some (.ref lt), none, none, none, none, none] ∧ Same H H3 ∧ TrayAt K D H3 r0 g ∧ H lt = none ∧ H3 lt = some (.lst []), ?_, ?_⟩
  · refine ⟨(by show 0 ≤ sizeLine; decide), fun l hl => ?_⟩
    have sl := same_new (o := .lst []) hl
    refine ⟨l, rfl, s2.trans sl, t2.same sl, ?_, upd_same⟩
    cases e : H l with
    | none => rfl
    | some x => rw [s2 _ _ e] at hl; cases hl
  rintro σ H3 ⟨lt, rfl, s3, t3, flt, hlt⟩
  clear s2 t2 H2
  refine ⟨fun σ H4 => ∃ lr, σ = [some (.ref p), some (.ref o), v2, v3, some (.ref r0), some (.ref lt), some (.ref lr), none, none, none, none] ∧ Same H H4 ∧ TrayAt K D H4 r0 g ∧ H lr = none ∧ lt ≠ lr ∧ H4 lt = some (.lst []) ∧ H4 lr = some (.lst []), ?_, ?_⟩
  · refine ⟨(by show 0 ≤ sizeLine; decide), fun l hl => ?_⟩
    have sl := same_new (o := .lst []) hl
    refine ⟨l, rfl, s3.trans sl, t3.same sl, ?_, ne_of_none hlt hl, sl _ _ hlt, upd_same⟩
    cases e : H l with
    | none => rfl
    | some x => rw [s3 _ _ e] at hl; cases hl
  rintro σ H4 ⟨lr, rfl, s4, t4, flr, nlr, hlt4, hlr4⟩
  clear s3 t3 hlt H3
  have freshN : ∀ {b : Addr} {H' : Hp} {x : HO}, H b = none → Same H H' → Same H (upd H' b x) := fun {b H' x} hb s c o' e => by
    have ne : c ≠ b := fun z => by rw [z, hb] at e; cases e
    rw [upd_ne ne]
    exact s c o' e
  have a4 := ao.imp fun x y (z : OpAt K H x y) => z
  -- each operation
  refine ⟨fun σ H5 => ∃ r w2 w3 w7 w8 w9 w10 ts rs, σ = [some (.ref p), some (.ref o), w2, w3, some (.ref r), some (.ref lt), some (.ref lr), w7, w8, w9, w10] ∧ Same H H5 ∧ H5 lt = some (.lst ts) ∧ All2 (TrV K D H5) ts (runG h w g ops) ∧ H5 lr = some (.lst rs) ∧ rs.length = ops.length ∧ (∀ (k : Nat) v op, rs[k]? = some v → ops[k]? = some op → resV K H5 h w (atG h w g ops k) op v), ?_, ?_⟩
  · refine ⟨_, rfl, o, rfl, ⟨_, s4.tup ho⟩, for_tup (K := K) (a := o) (xs := xs) (fun i σ H5 => ∃ r w7 w8 w9 w10 ts rs, σ = [some (.ref p), some (.ref o), v2, v3, some (.ref r), some (.ref lt), some (.ref lr), w7, w8, w9, w10] ∧ Same H H5 ∧ TrayAt K D H5 r (atG h w g ops i) ∧ H5 lt = some (.lst ts) ∧ All2 (TrV K D H5) ts ((runG h w g ops).take i) ∧ H5 lr = some (.lst rs) ∧ rs.length = i ∧
        (∀ (k : Nat) v op, rs[k]? = some v → ops[k]? = some op → resV K H5 h w (atG h w g ops k) op v))
      ⟨r0, none, none, none, none, [], [], rfl, s4, t4, hlt4, ⟨rfl, fun k x y z => by simp at z⟩, hlr4, rfl, fun k v op z => by simp at z⟩ (fun i σ H5 _ ⟨_, _, _, _, _, _, _, _, s, _⟩ => s.tup ho) ?_ ?_⟩
    · rintro i x σ H5 hx ⟨r, w7, w8, w9, w10, ts, rs, rfl, s5, t5, hts, ats, hrs, lrs, vrs⟩
      have hi1 := (List.getElem?_eq_some_iff.mp hx).1
      have hi2 : i < ops.length := by rw [← ao.1]; exact hi1
      have hop : ops[i]? = some ops[i] := List.getElem?_eq_getElem hi2
      generalize ops[i] = op at hop
      obtain ⟨a, ys, rfl, hS, hxv⟩ := ao.2 i x op hx hop
      have hok1 := atG_ok hok hop
      have hV1 := atG_VG i hV hok
      obtain ⟨z, ys', rfl, _⟩ := op_head hxv
      have hxv5 : opV H5 K op (V.str z :: ys') := by
        cases op with
        | tl c => exact hxv
        | pt c i j =>
          obtain ⟨q, e, hq⟩ := hxv
          exact ⟨q, e, s5.tup hq⟩
        | tk c => exact hxv
      have kd : ∃ fa, actG fTl fPt fTk fa ∧ KDct K w_ aA z (.ref fa) ∧ fa = actOf fTl fPt fTk op := act_kd hxv dTl dPt dTk
      obtain ⟨fa, hG, hK, hf⟩ := kd
      refine ⟨a, .str z, ys', rfl, s5.tup hS, fun l hl => ⟨_, _, rfl, _, _, rfl, rfl, ?_⟩⟩
      have sl := same_new (o := .lst ys') hl
      have el : upd H5 l (.lst ys') l = some (.lst ys') := upd_same
      generalize upd H5 l (.lst ys') = H6 at sl el
      have s6 := s5.trans sl
      -- the action
      refine ⟨fun σ H7 => σ = [some (.ref p), some (.ref o), v2, v3, some (.ref r), some (.ref lt), some (.ref lr), some (.str z), some (.ref l), some (.ref fa), w10] ∧ H7 = H6, ?_, ?_⟩
      · exact ⟨_, rfl, aA, z, _, rfl, rfl, hK, rfl, rfl⟩
      rintro σ H7 ⟨rfl, rfl⟩
      refine ⟨fun σ H8 => ∃ r2 v, σ = [some (.ref p), some (.ref o), v2, v3, some (.ref r2), some (.ref lt), some (.ref lr), some (.str z), some (.ref l), some (.ref fa), some v] ∧ Same H7 H8 ∧ TrayAt K D H8 r2 (stepG h w (atG h w g ops i) op) ∧ resV K H8 h w (atG h w g ops i) op v, ?_, ?_⟩
      · refine ⟨_, rfl, fa, rfl, hG, _, rfl, _, rfl, l, ys', rfl, .inr (SqL.of el), ?_⟩
        show actS K D fTl fPt fTk fa (V.ref r :: (ys' ++ [])) H7 _ _
        rw [List.append_nil]
        have hxv6 : opV H7 K op (V.str z :: ys') := by
          cases op with
          | tl c => exact hxv5
          | pt c i j =>
            obtain ⟨q, e, hq⟩ := hxv5
            exact ⟨q, e, sl.tup hq⟩
          | tk c => exact hxv5
        exact act_do (t5.same sl) hV1 hok1 hxv6 fa hf fun H8 tp r2 v s8 etp t8 rv => ⟨tp, _, rfl, SqT.of etp, rfl, _, _, rfl, _, _, rfl, rfl, r2, v, rfl, s8, t8, rv⟩
      rintro σ H8 ⟨r2, v, rfl, s8, t8, rv⟩
      have s58 := sl.trans s8
      have hts8 := s58 _ _ hts
      have hrs8 := s58 _ _ hrs
      have tlen : ts.length = i := by
        rw [ats.1, List.length_take, runG_len]
        omega
      have zle : ∀ {n : Nat}, n ≤ 1000 → n < sizeLine := fun {n} hn => by show n < 16777216; omega
      refine ⟨fun σ H9 => σ = [some (.ref p), some (.ref o), v2, v3, some (.ref r2), some (.ref lt), some (.ref lr), some (.str z), some (.ref l), some (.ref fa), some v] ∧ H9 = upd H8 lt (.lst (ts ++ [.ref r2])), ?_, ?_⟩
      · exact ⟨_, rfl, .inl ⟨rfl, _, SqL.of hts8⟩, _, rfl, lt, ts, _, rfl, rfl, hts8, zle (by omega), rfl, rfl⟩
      rintro σ H9 ⟨rfl, rfl⟩
      have b9 : But lt H8 (upd H8 lt (.lst (ts ++ [.ref r2]))) := fun b o' e hb => by rw [upd_ne hb]; exact e
      have hrs9 : upd H8 lt (.lst (ts ++ [.ref r2])) lr = some (.lst rs) := b9 _ _ hrs8 (Ne.symm nlr)
      have e9 : upd H8 lt (.lst (ts ++ [.ref r2])) lt = some (.lst (ts ++ [.ref r2])) := upd_same
      have s9 : Same H (upd H8 lt (.lst (ts ++ [.ref r2]))) := freshN flt (s6.trans s8)
      generalize upd H8 lt (.lst (ts ++ [.ref r2])) = H9 at b9 hrs9 e9 s9
      refine ⟨_, rfl, .inl ⟨rfl, _, SqL.of hrs9⟩, _, rfl, lr, rs, _, rfl, rfl, hrs9, zle (by omega), ?_⟩
      have b10 : But lr H9 (upd H9 lr (.lst (rs ++ [v]))) := fun b o' e hb => by rw [upd_ne hb]; exact e
      have e10 : upd H9 lr (.lst (rs ++ [v])) lr = some (.lst (rs ++ [v])) := upd_same
      have s10 : Same H (upd H9 lr (.lst (rs ++ [v]))) := freshN flr s9
      have e10t : upd H9 lr (.lst (rs ++ [v])) lt = some (.lst (ts ++ [.ref r2])) := b10 _ _ e9 nlr
      generalize upd H9 lr (.lst (rs ++ [v])) = H10 at b10 e10 s10 e10t
      have tr10 : ∀ {q : Addr} {gg : Grid}, TrayAt K D H8 q gg → TrayAt K D H10 q gg := fun tq => tray_but (tray_but tq hts8 b9) hrs9 b10
      have tup10 : ∀ b xs', H8 b = some (.tup xs') → H10 b = some (.tup xs') := fun b xs' e => b10 _ _ (b9 _ _ e fun y => by rw [y, hts8] at e; cases e) fun y => by
        have e2 := b9 _ _ e fun y => by rw [y, hts8] at e; cases e
        rw [y, hrs9] at e2
        cases e2
      refine ⟨r2, _, _, _, _, ts ++ [.ref r2], rs ++ [v], rfl, s10, ?_, e10t, ?_, e10, by rw [List.length_append, lrs]; rfl, fun k v' op' hv hop' => ?_⟩
      · rw [atG_next hop]
        exact tr10 t8
      · rw [runG_take hop, atG_next hop]
        refine All2.app (ats.imp fun x y ⟨q, e, tq⟩ => ⟨q, e, tr10 (tq.same s58)⟩) ⟨rfl, fun k x y hx hy => ?_⟩
        cases k with
        | zero =>
          cases hx
          cases hy
          exact ⟨r2, rfl, tr10 t8⟩
        | succ k => simp at hx
      · rcases Nat.lt_or_ge k rs.length with hk | hk
        · rw [List.getElem?_append_left hk] at hv
          exact resV_same (resV_same (vrs k v' op' hv hop') fun b xs' e => s58 _ _ e) tup10
        · rw [List.getElem?_append_right hk] at hv
          have k0 : k = i := by
            have := (List.getElem?_eq_some_iff.mp hv).1
            simp at this
            omega
          subst k0
          rw [lrs, Nat.sub_self] at hv
          cases hv
          rw [hop] at hop'
          cases hop'
          exact resV_same rv tup10
    · rintro σ H5 ⟨r, w7, w8, w9, w10, ts, rs, rfl, s5, t5, hts, ats, hrs, lrs, vrs⟩
      rw [ao.1, List.take_of_length_le (by rw [runG_len]; exact Nat.le_refl _)] at ats
      exact ⟨r, _, _, _, _, _, _, ts, rs, rfl, s5, hts, ats, hrs, by rw [lrs, ao.1], vrs⟩
  rintro σ H5 ⟨r, w2, w3, w7, w8, w9, w10, ts, rs, rfl, s5, hts, ats, hrs, lrs, vrs⟩
  clear s4 t4 hlt4 hlr4 H4
  obtain ⟨dx, st, hp, hSt⟩ := id hL
  have hp5 := s5 _ _ hp
  have nlp : lr ≠ p := fun z => by rw [z, hp] at flr; cases flr
  -- the state
  refine ⟨fun σ H6 => σ = [some (.ref p), some (.ref o), w2, w3, some (.ref r), some (.ref lt), some (.ref lr), w7, w8, w9, w10] ∧ H6 lr = some (.lst rs) ∧ (∀ (k : Nat) v op, rs[k]? = some v → ops[k]? = some op → resV K H6 h w (atG h w g ops k) op v) ∧
    (ops = [] → LvAt K L D H6 p os gs d) ∧ (ops ≠ [] → LvAt K L D H6 p (os.take d ++ ops) (gs.take (d + 1) ++ runG h w g ops) (d + ops.length)) ∧ But p H H6, ?_, ?_⟩
  · refine ⟨_, rfl, !xs.isEmpty, .inr (.inl ⟨xs, s5.tup ho, rfl⟩), ?_⟩
    by_cases hx : xs = []
    · have ho0 : ops = [] := by
        have := ao.1
        rw [hx] at this
        exact List.eq_nil_of_length_eq_zero this.symm
      rw [show (!xs.isEmpty) = false by rw [hx]; rfl]
      exact iteF ⟨rfl, hrs, vrs, fun _ => hL.same s5, fun z => absurd ho0 z, But.same s5⟩
    · have ho1 : ops ≠ [] := fun z => by
        have := ao.1
        rw [z] at this
        exact hx (List.eq_nil_of_length_eq_zero this)
      rw [show (!xs.isEmpty) = true by
        cases xs with
        | nil => exact absurd rfl hx
        | cons _ _ => rfl]
      refine iteT ⟨_, rfl, p, dx, _, rfl, hp5, rfl, _, rfl, _, rfl, lt, ts, rfl, .inl ⟨SqL.of hts, fun tl htl => ?_⟩⟩
      have sT := same_new (o := .tup ts) htl
      have eT : upd H5 tl (.tup ts) tl = some (.tup ts) := upd_same
      generalize upd H5 tl (.tup ts) = H6 at sT eT
      have s6 := s5.trans sT
      have hp6 := s6 _ _ hp
      refine ⟨p, o, tl, d, os, ops, gs, runG h w g ops, xs, ts, rfl, hL.same s6, s6.tup ho, ao.imp fun x y z => z.same s6, SqT.of eT, ats.imp fun x y ⟨q, e, tq⟩ => ⟨q, e, tq.same sT⟩, runG_len h w ops g, hz, fun H7 hL7 b7 => ?_⟩
      refine ⟨rfl, b7 _ _ (sT _ _ hrs) nlp, fun k v op hv hop => resV_same (vrs k v op hv hop) fun b xs' e => b7 _ _ (sT _ _ e) fun z => ?_, fun z => absurd z ho1, fun _ => hL7, (But.same s6).trans b7⟩
      have e6 := sT _ _ e
      rw [z, hp6] at e6
      cases e6
  rintro σ H6 ⟨rfl, hrs6, vrs6, l1, l2, b6⟩
  exact ⟨_, rfl, k H6 lr rs hrs6 lrs vrs6 l1 l2 b6⟩
end
end TI
end
section
set_option Elab.async false
set_option maxRecDepth 100000
set_option linter.all false
namespace TI
open PySem PySem.Spec PyProof.Rows L2 TM TK TB TP TH TU TW TR
section
variable {X : Cx} {CX : CXT} {n k : Nat}
/-- o.m(e, ..) where tokens are out -/
theorem pen_methR {C f : Addr} {m : Str} {sp : Sp} {E : XK} {o e : Expr} {es : List Expr} {ta : TE} {t : TA} {apos pos : Pos} {pl : Sem Bool} (he : PE X o ta) (c : Cls X.K C) (hm : Meth X.K C m f) (F : FnRn n X.prog X.w X.K X.mg X.base CX k f sp) (hr : Room k X.A) (hx : Passes CX X E) (ha : PA X (e :: es) t)
    (ht : eval (.Call (.Attribute o m apos) (e :: es) [] pos) X.env = (do let ov ← eval o X.env; standAt apos.atName; let (f, first) ← holding [ov] (getMethod ov m pl); callWith pos f first (backTo pos (starEach (e :: es) X.env)) (backToKw pos (keywordEach [] X.env))) := by rfl)
    (hst : starEach (e :: es) X.env = (false, eval e X.env) :: starEach es X.env := by rfl) (hpl : (backTo pos (starEach es X.env)).any (·.1) = false := by rfl) : PEn n X (.Call (.Attribute o m apos) (e :: es) [] pos) (tMethR C m sp E ta t) := by
  intro pins s σ H Q hn I h
  refine PySem.W.methodCall_KW (pl := pl) (thnN hn (he.run pins s σ H _ I h) fun u s1 hn1 ⟨x, H1, I1, rx, a, dx, fs, ex, ea, l, q⟩ => ?_) ht
  subst ex
  obtain rfl : u = Value.ref a := rx
  refine getmeth_ok I1 ea c hm l ?_
  refine PySem.W.callWith_K (first := [.ref a]) (h₀ := X.base) I.ok.mod.kin hm.kp (thnN hn1 (ha.run pos pins s1 σ H1 _ I1 q) fun us s2 hn2 ⟨vs, H2, I2, r, q2⟩ => ⟨I2.kIn, ?_⟩) hst hpl
  exact wpAny_call (run_fnRn (us := .ref a :: us) (vs := .ref a :: vs) hn2 F hr hx I2 (.cons rfl r) q2)
end
/-- the promise of apply, as its callers see it -/
def spAy (K : PySem.W.Frag) (L D : Addr) : Sp := fun vs H Q E => ∃ ws rest, vs = ws ++ rest ∧ ws.length = (["self"] : List Str).length ∧ rest.length ≤ sizeLine ∧ ∀ p, H p = none → spApC K L D (ws ++ [V.ref p]) (upd H p (.tup rest)) Q E
/-- one operation -/
theorem ay_one {K : PySem.W.Frag} {L D p d h w a : Nat} {os : List Op} {gs : List Grid} {g : Grid} {op : Op} {xs : List V} {H : Hp} {Q : VK} {E : XK} (hL : LvAt K L D H p os gs d) (hg : gs[d]? = some g) (hV : VG h w g) (hS : SqT K H a xs) (hx : opV H K op xs) (ho : okOp h w g op) (hz : os.length + 1 ≤ 1000)
    (k : ∀ H' l v, H' l = some (.lst [v]) → resV K H' h w g op v → LvAt K L D H' p (os.take d ++ [op]) (gs.take (d + 1) ++ [stepG h w g op]) (d + 1) → But p H H' → Q (.ref l) H') : spAy K L D [.ref p, .ref a] H Q E := by
  refine ⟨[.ref p], [.ref a], rfl, rfl, (by show 1 ≤ sizeLine; decide), fun o ho' => ?_⟩
  have so := same_new (o := .tup [V.ref a]) ho'
  have eo : upd H o (.tup [V.ref a]) o = some (.tup [V.ref a]) := upd_same
  generalize upd H o (.tup [V.ref a]) = H1 at so eo
  have hx1 : opV H1 K op xs := by
    cases op with
    | tl c => exact hx
    | pt c i j =>
      obtain ⟨q, e, hq⟩ := hx
      exact ⟨q, e, so.tup hq⟩
    | tk c => exact hx
  refine ⟨p, o, d, h, w, os, [op], gs, g, [.ref a], rfl, hL.same so, hg, hV, SqT.of eo, ⟨rfl, fun i x y e1 e2 => ?_⟩, ⟨ho, trivial⟩, hz, fun H' l rs hl lrs vrs _ l2 b => ?_⟩
  · cases i with
    | zero =>
      cases e1
      cases e2
      exact ⟨a, xs, rfl, so.tup hS, hx1⟩
    | succ i => simp at e1
  · have lrs : rs.length = 1 := lrs
    match rs, lrs with
    | [v], _ => exact k H' l v hl (vrs 0 v op rfl rfl) (l2 (by simp)) ((But.same so).trans b)
section
variable {P : Program} {w_ : World} {K : PySem.W.Frag} {mg : Str → Option Value} {base : Heap} {n : Nat} {L D fAy : Addr}
abbrev NTi_ : List Str := ["self", "tilt", "results"]
theorem scMt : FnScope NTi_ ["self", "tilt"] (defScope sLiveTrayTilt) := ⟨rfl, rfl, rfl, by decide +kernel, rfl, by decide +kernel, by decide +kernel⟩
/-- behind one operation -/
def spOne (K : PySem.W.Frag) (L D : Addr) (op : Op) (args : Hp → List V → Prop) : Sp := fun vs H Q _ => ∃ (p d h w : Nat) (as : List V) (os : List Op) (gs : List Grid) (g : Grid), vs = .ref p :: as ∧ args H as ∧ LvAt K L D H p os gs d ∧ gs[d]? = some g ∧ VG h w g ∧ okOp h w g op ∧ os.length + 1 ≤ 1000 ∧
  ∀ H' v, resV K H' h w g op v → LvAt K L D H' p (os.take d ++ [op]) (gs.take (d + 1) ++ [stepG h w g op]) (d + 1) → But p H H' → Q v H'
theorem ok_mt {f : Addr} {fd : FuncData} (F : Fun K "tilt" "LiveTray.tilt" sLiveTrayTilt f fd) (b : Binds K fd ["self", "tilt"] []) (CL : ClsL K mg L) (MA : Meth K L "apply" fAy) (GA : FnRn n P w_ K mg base CX0 7 fAy (spAy K L D)) (c : Nat) : FnRn n P w_ K mg base CX0 8 f (spOne K L D (.tl c) fun _ as => as = [sg c]) := by
  refine fn_n F b scMt (fun vs H Q E h => ?_) fun cdv A outer s H vs Q E hr h => ?_
  · obtain ⟨p, d, h, w, as, os, gs, g, rfl, rfl, _⟩ := h
    rfl
  · obtain ⟨p, d, h, w, as, os, gs, g, rfl, rfl, hL, hg, hV, ho, hz, k⟩ := h
    have nd := scMt.nd
    refine ⟨_, pssn_cut (psn_set (i := 2) nd rfl (.inl rfl) (pen_methR (pv 0) CL.cl MA GA hr pass0 (pa_cons (pe_tup (pa_cons pe_str (pa_cons (pv 1) pa_nil))) pa_nil)))
      (pssn_one (PS.up (ps_ret (pe_ix ix_list (pv 2) pe_int (fun _ _ => rfl))))), ?_⟩
    obtain ⟨dx, st, hp, _⟩ := id hL
    refine ⟨fun σ H1 => ∃ l v, σ = [some (.ref p), some (sg c), some (.ref l)] ∧ H1 l = some (.lst [v]) ∧ Q v H1, ?_, ?_⟩
    · refine ⟨_, rfl, p, dx, _, rfl, hp, rfl, _, rfl, (by show 2 ≤ sizeLine; decide), fun a ha => ?_⟩
      have sa := same_new (o := .tup [V.str (Str.ofString "tilt"), sg c]) ha
      refine ay_one (hL.same sa) hg hV (SqT.of upd_same) (op := .tl c) rfl ho hz fun H' l v hl hv hL' hb => ⟨l, v, rfl, hl, k H' v hv hL' ((But.same sa).trans hb)⟩
    rintro σ H1 ⟨l, v, rfl, hl, q⟩
    exact ⟨_, rfl, l, _, 0, _, rfl, rfl, SqL.of hl, rfl, q⟩
abbrev NMp : List Str := ["self", "marble", "place", "results"]
theorem scMp : FnScope NMp ["self", "marble", "place"] (defScope sLiveTrayPut) := ⟨rfl, rfl, rfl, by decide +kernel, rfl, by decide +kernel, by decide +kernel⟩
theorem ok_mp {f : Addr} {fd : FuncData} (F : Fun K "put" "LiveTray.put" sLiveTrayPut f fd) (b : Binds K fd ["self", "marble", "place"] []) (CL : ClsL K mg L) (MA : Meth K L "apply" fAy) (GA : FnRn n P w_ K mg base CX0 7 fAy (spAy K L D)) (c i j : Nat) :
    FnRn n P w_ K mg base CX0 8 f (spOne K L D (.pt c i j) fun H as => ∃ q, as = [sg c, .ref q] ∧ SqT K H q [.int (i : Nat), .int (j : Nat)]) := by
  refine fn_n F b scMp (fun vs H Q E h => ?_) fun cdv A outer s H vs Q E hr h => ?_
  · obtain ⟨p, d, h, w, as, os, gs, g, rfl, ⟨q, rfl, _⟩, _⟩ := h
    rfl
  · obtain ⟨p, d, h, w, as, os, gs, g, rfl, ⟨q, rfl, hq⟩, hL, hg, hV, ho, hz, k⟩ := h
    have nd := scMp.nd
    refine ⟨_, pssn_cut (psn_set (i := 3) nd rfl (.inl rfl) (pen_methR (pv 0) CL.cl MA GA hr pass0 (pa_cons (pe_tup (pa_cons pe_str (pa_cons (pv 1) (pa_cons (pv 2) pa_nil)))) pa_nil)))
      (pssn_one (PS.up (ps_ret (pe_ix ix_list (pv 3) pe_int (fun _ _ => rfl))))), ?_⟩
    obtain ⟨dx, st, hp, _⟩ := id hL
    refine ⟨fun σ H1 => ∃ l v, σ = [some (.ref p), some (sg c), some (.ref q), some (.ref l)] ∧ H1 l = some (.lst [v]) ∧ Q v H1, ?_, ?_⟩
    · refine ⟨_, rfl, p, dx, _, rfl, hp, rfl, _, rfl, _, rfl, (by show 3 ≤ sizeLine; decide), fun a ha => ?_⟩
      have sa := same_new (o := .tup [V.str (Str.ofString "put"), sg c, V.ref q]) ha
      refine ay_one (hL.same sa) hg hV (SqT.of upd_same) (op := .pt c i j) ⟨q, rfl, sa.tup hq⟩ ho hz fun H' l v hl hv hL' hb => ⟨l, v, rfl, hl, k H' v hv hL' ((But.same sa).trans hb)⟩
    rintro σ H1 ⟨l, v, rfl, hl, q⟩
    exact ⟨_, rfl, l, _, 0, _, rfl, rfl, SqL.of hl, rfl, q⟩
abbrev NMk : List Str := ["self", "marble", "results"]
theorem scMk : FnScope NMk ["self", "marble"] (defScope sLiveTrayTake) := ⟨rfl, rfl, rfl, by decide +kernel, rfl, by decide +kernel, by decide +kernel⟩
theorem ok_mk {f : Addr} {fd : FuncData} (F : Fun K "take" "LiveTray.take" sLiveTrayTake f fd) (b : Binds K fd ["self", "marble"] []) (CL : ClsL K mg L) (MA : Meth K L "apply" fAy) (GA : FnRn n P w_ K mg base CX0 7 fAy (spAy K L D)) (c : Nat) : FnRn n P w_ K mg base CX0 8 f (spOne K L D (.tk c) fun _ as => as = [sg c]) := by
  refine fn_n F b scMk (fun vs H Q E h => ?_) fun cdv A outer s H vs Q E hr h => ?_
  · obtain ⟨p, d, h, w, as, os, gs, g, rfl, rfl, _⟩ := h
    rfl
  · obtain ⟨p, d, h, w, as, os, gs, g, rfl, rfl, hL, hg, hV, ho, hz, k⟩ := h
    have nd := scMk.nd
    refine ⟨_, pssn_cut (psn_set (i := 2) nd rfl (.inl rfl) (pen_methR (pv 0) CL.cl MA GA hr pass0 (pa_cons (pe_tup (pa_cons pe_str (pa_cons (pv 1) pa_nil))) pa_nil)))
      (pssn_one (PS.up (ps_ret (pe_ix ix_list (pv 2) pe_int (fun _ _ => rfl))))), ?_⟩
    obtain ⟨dx, st, hp, _⟩ := id hL
    refine ⟨fun σ H1 => ∃ l v, σ = [some (.ref p), some (sg c), some (.ref l)] ∧ H1 l = some (.lst [v]) ∧ Q v H1, ?_, ?_⟩
    · refine ⟨_, rfl, p, dx, _, rfl, hp, rfl, _, rfl, (by show 2 ≤ sizeLine; decide), fun a ha => ?_⟩
      have sa := same_new (o := .tup [V.str (Str.ofString "take"), sg c]) ha
      refine ay_one (hL.same sa) hg hV (SqT.of upd_same) (op := .tk c) rfl ho hz fun H' l v hl hv hL' hb => ⟨l, v, rfl, hl, k H' v hv hL' ((But.same sa).trans hb)⟩
    rintro σ H1 ⟨l, v, rfl, hl, q⟩
    exact ⟨_, rfl, l, _, 0, _, rfl, rfl, SqL.of hl, rfl, q⟩
end
end TI
end
section
set_option Elab.async false
set_option maxRecDepth 100000
set_option linter.all false
namespace TI
open PySem PySem.Spec PyProof.Rows L2 TM TK TB TP TH TU TW TR
section
variable {X : Cx} {CX : CXT} {n k : Nat}
theorem psn_expr {e : Expr} {te : TE} {pos : Pos} (he : PEn n X e te) (hs : swapsWith e none pos.line X.env = pure false := by rfl) : PSn n X (.Expr e pos) (tDrop te) := fun pins s σ H D hn I h =>
  wpAny_Expr_any (thn (he pins s σ H _ hn I h) fun v s1 ⟨x, H1, I1, r1, q1⟩ => ⟨σ, H1, I1, q1⟩) I.quiet hs
end
section
variable {P : Program} {w_ : World} {K : PySem.W.Frag} {mg : Str → Option Value} {base : Heap} {n : Nat} {L D fAy fLi pP gP : Addr} {fdLi fdP : FuncData}
theorem scLi : FnScope ["self", "tray"] ["self", "tray"] (defScope sLiveTrayInit) := ⟨rfl, rfl, rfl, by decide +kernel, rfl, by decide +kernel, by decide +kernel⟩
def spLi (K : PySem.W.Frag) (L D : Addr) : Sp := fun vs H Q _ => ∃ (p dx r : Addr) (g : Grid), vs = [.ref p, .ref r] ∧ H p = some (.ins L dx []) ∧ TrayAt K D H r g ∧ r ≠ p ∧ ∀ H', LvAt K L D H' p [] [g] 0 → But p H H' → Q .non H'
theorem ok_li {f : Addr} {fd : FuncData} (F : Fun K "__init__" "LiveTray.__init__" sLiveTrayInit f fd) (CL : ClsL K mg L) : FnOk P w_ K mg base CX0 1 f fd ["self", "tray"] (spLi K L D) := by
  refine F.ok scLi (fun vs H Q E h => ?_) (fun cdv A outer s H vs Q E hr h => ?_)
  · obtain ⟨p, dx, r, g, rfl, _⟩ := h
    rfl
  · obtain ⟨p, dx, r, g, rfl, hp, tr, ne, k⟩ := h
    refine ⟨_, pss_cons (ps_fld (pv 0) (pe_tup (pa_cons (pe_tup pa_nil) (pa_cons (pe_tup (pa_cons (pv 1) pa_nil)) (pa_cons pe_int pa_nil)))) rfl)
      (pss_one (ps_fld (pv 0) pe_non rfl)), ?_⟩
    refine ⟨(by show 0 ≤ sizeLine; decide), fun o ho => ?_⟩
    have s1 := same_new (o := .tup []) ho
    have e1 : upd H o (.tup []) o = some (.tup []) := upd_same
    generalize upd H o (.tup []) = H1 at s1 e1
    refine ⟨_, rfl, (by show 1 ≤ sizeLine; decide), fun t ht => ?_⟩
    have s2 := same_new (o := .tup [V.ref r]) ht
    have e2 : upd H1 t (.tup [V.ref r]) t = some (.tup [V.ref r]) := upd_same
    generalize upd H1 t (.tup [V.ref r]) = H2 at s2 e2
    refine ⟨(by show 3 ≤ sizeLine; decide), fun st hst => ?_⟩
    have s3 := same_new (o := .tup [V.ref o, V.ref t, V.int 0]) hst
    have e3 : upd H2 st (.tup [V.ref o, V.ref t, V.int 0]) st = some (.tup [V.ref o, V.ref t, V.int 0]) := upd_same
    generalize upd H2 st (.tup [V.ref o, V.ref t, V.int 0]) = H3 at s3 e3
    have s13 := (s1.trans s2).trans s3
    have hp3 := s13 _ _ hp
    refine ⟨_, rfl, p, L, dx, _, rfl, hp3, CL.cl, CL.n1, (by show 0 < 1000; decide), ?_⟩
    have e4 : upd H3 p (.ins L dx (putF "_state" (V.ref st) [])) p = some (.ins L dx (putF "_state" (V.ref st) [])) := upd_same
    refine ⟨_, rfl, p, L, dx, _, rfl, e4, CL.cl, CL.n2, (by show 1 < 1000; decide), ?_⟩
    have b : But p H3 (upd (upd H3 p (.ins L dx (putF "_state" (V.ref st) []))) p (.ins L dx (putF "_state_before_block" V.non (putF "_state" (V.ref st) [])))) := fun b o' e hb => by
      rw [upd_ne hb, upd_ne hb]
      exact e
    have sq : ∀ {a : Addr} {xs : List V}, SqT K H3 a xs → SqT K (upd (upd H3 p (.ins L dx (putF "_state" (V.ref st) []))) p (.ins L dx (putF "_state_before_block" V.non (putF "_state" (V.ref st) [])))) a xs := fun q => seq_but q hp3 (fun _ _ => ⟨by simp, by simp⟩) b
    refine k _ ⟨dx, st, upd_same, ⟨⟨o, t, [], [.ref r], sq (SqT.of e3), sq (SqT.of (s3 _ _ (s2 _ _ e1))), sq (SqT.of (s3 _ _ e2)), ⟨rfl, fun k x y z => by simp at z⟩, ⟨rfl, fun k x y z1 z2 => ?_⟩⟩, Nat.le_refl _, rfl⟩⟩ ((But.same s13).trans b)
    cases k with
    | zero =>
      cases z1
      cases z2
      obtain ⟨d, a, hd, hq⟩ := tr.same s13
      exact ⟨r, rfl, d, a, b _ _ hd ne, sq hq⟩
    | succ k => simp at z1
theorem scLvC : FnScope ["self", "x"] ["self", "x"] (defScope sLiveTrayContains) := ⟨rfl, rfl, rfl, by decide +kernel, rfl, by decide +kernel, by decide +kernel⟩
def spLx (K : PySem.W.Frag) (L D : Addr) : Sp := fun vs H Q _ => ∃ (p d c h w : Nat) (os : List Op) (gs : List Grid) (g : Grid), vs = [.ref p, sg c] ∧ LvAt K L D H p os gs d ∧ gs[d]? = some g ∧ VG h w g ∧ ∀ H', Same H H' → Q (.bl (decide (c ∈ mb g.flatten))) H'
theorem ok_lx {f fTc : Addr} {fd : FuncData} (F : Fun K "__contains__" "LiveTray.__contains__" sLiveTrayContains f fd) (CL : ClsL K mg L) (PP : PropOf K L "present_tray" pP gP) (GP_ : FnOk P w_ K mg base CX0 1 gP fdP ["self"] (spPr K L D)) (bP : Binds K fdP ["self"] [])
    (hTc : PySem.W.findIn K (.ref D) "__contains__" = some (some (.ref fTc))) (iTc : PySem.W.isFn K (.ref fTc) = true) (GTc : FnR P w_ K mg base CX0 3 fTc (spTc K D)) : FnOk P w_ K mg base CX0 4 f fd ["self", "x"] (spLx K L D) := by
  refine F.ok scLvC (fun vs H Q E h => ?_) (fun cdv A outer s H vs Q E hr h => ?_)
  · obtain ⟨p, d, c, h, w, os, gs, g, rfl, _⟩ := h
    rfl
  · obtain ⟨p, d, c, h, w, os, gs, g, rfl, hL, hg, hV, k⟩ := h
    refine ⟨_, pss_one (ps_ret (pe_cmpR (op_inOwn hTc iTc GTc hr pass0) (pv 1) (pe_prop (pv 0) CL.cl PP GP_ (hr.mono (by decide)) bP .nil pass0 rfl) (by rfl))), ?_⟩
    obtain ⟨dx, st, hp, _⟩ := id hL
    refine ⟨_, rfl, _, rfl, p, dx, _, rfl, hp, p, d, os, gs, g, rfl, hL, hg, fun r tr => ?_⟩
    obtain ⟨d1, a1, h1, _⟩ := id tr
    have hh : has g [c] = decide (c ∈ mb g.flatten) := by
      show (true && decide (c ∈ mb g.flatten)) = _
      rw [Bool.true_and]
    refine ⟨r, d1, _, rfl, h1, r, _, h, w, g, rfl, tr, hV, .inl ⟨[c], rfl, by simp, fun H1 s1 => ?_⟩⟩
    rw [hh]
    exact ⟨_, rfl, k H1 s1⟩
end
end TI
end
section
set_option Elab.async false
set_option maxRecDepth 100000
set_option linter.all false
namespace TI
open PySem PySem.Spec PyProof.Rows L2 TM TK TB TP TH TU TW TR
/-- a dict from marbles to places, whatever the places -/
def PlD (H : Hp) (e : Addr) (M : List Nat) (pr pc : Nat → Nat) (qa : Nat → Addr) : Prop := H e = some (.dK (mkv M qa)) ∧ ∀ m ∈ M, H (qa m) = some (.tup [.int (pr m : Nat), .int (pc m : Nat)])
theorem PlD.same {H H' : Hp} {e : Addr} {M : List Nat} {pr pc : Nat → Nat} {qa : Nat → Addr} (h : PlD H e M pr pc qa) (s : Same H H') : PlD H' e M pr pc qa := ⟨s _ _ h.1, fun m hm => s _ _ (h.2 m hm)⟩
/-- all marbles lie there -/
def right (w : Nat) (g : Grid) (M : List Nat) (pr pc : Nat → Nat) : Bool := decide (∀ m ∈ M, pr m = g.flatten.idxOf m / w ∧ pc m = g.flatten.idxOf m % w)
section
variable {P : Program} {w_ : World} {K : PySem.W.Frag} {mg : Str → Option Value} {base : Heap} {n : Nat} {D CU fPl pM gM pH gH pW gW fCl : Addr} {fdPl fdM fdH fdW : FuncData}
abbrev NPo : List Str := ["tray", "places", "marble", "place"]
theorem scPo : FnScope NPo ["tray", "places"] (defScope sArePlacesOf) := ⟨rfl, rfl, rfl, by decide +kernel, rfl, by decide +kernel, by decide +kernel⟩
def spPo (K : PySem.W.Frag) (D : Addr) : Sp := fun vs H Q _ => ∃ (p e h w : Nat) (g : Grid) (pr pc : Nat → Nat) (qa : Nat → Addr), vs = [.ref p, .ref e] ∧ TrayAt K D H p g ∧ VG h w g ∧ PlD H e (srt (mb g.flatten)) pr pc qa ∧ ∀ H', Same H H' → Q (.bl (right w g (srt (mb g.flatten)) pr pc)) H'
theorem ok_po {f : Addr} {fd : FuncData} (F : Fun K "_are_places_of" "_are_places_of" sArePlacesOf f fd) (T : TxtW K mg) (hdict : mg "dict" = none) (CT : ClsT K mg D)
    (GPl : FnOk P w_ K mg base CX0 2 fPl fdPl ["value", "height", "width"] (spPl K)) (kPl : PySem.W.keepIn K (.ref fPl) = true) (bPl : Binds K fdPl ["value", "height", "width"] []) (mPl : mg "is_place" = some (.ref fPl))
    (PM : PropOf K D "marbles" pM gM) (GM : FnOk P w_ K mg base CX0 1 gM fdM ["self"] (spMb K D)) (bM : Binds K fdM ["self"] []) (PH : PropOf K D "height" pH gH) (GH : FnOk P w_ K mg base CX0 1 gH fdH ["self"] (spHt K D)) (bH : Binds K fdH ["self"] [])
    (PW_ : PropOf K D "width" pW gW) (GW : FnOk P w_ K mg base CX0 1 gW fdW ["self"] (spWd K D)) (bW : Binds K fdW ["self"] []) (CO : StX.CallO K D fCl) (GC : FnR P w_ K mg base (L2.CX P w_) 4 fCl (spCl K D CU)) : FnOk P w_ K mg base CX0 5 f fd ["tray", "places"] (spPo K D) := by
  refine F.ok scPo (fun vs H Q E h => ?_) (fun cdv A outer s H vs Q E hr h => ?_)
  · obtain ⟨p, e, h, w, g, pr, pc, qa, rfl, _⟩ := h
    rfl
  · obtain ⟨p, e, h, w, g, pr, pc, qa, rfl, T0, hV, hD, k⟩ := h
    have nd := scPo.nd
    have r2 : Room 2 _ := hr.mono (by decide)
    refine ⟨_, pss_cons (ps_if (PW.pt (pw_or (pt_not (pt_val (pe_callB call_isi (by rfl) T.isi (by decide +kernel) (pa_cons (pv 1) (pa_cons (pe_bltn (v := .ty "dict") (by rfl) hdict (by decide +kernel) rfl) pa_nil))))) (pw_or1 (pt_cmpR op_ne (pe_callB call_lenD (by rfl) T.len PySem.boot_len (pa_cons (pv 1) pa_nil)) (pe_callB call_len_str (by rfl) T.len PySem.boot_len (pa_cons (pe_prop (pv 0) CT.cl PM GM r2 bM .nil pass0 rfl) pa_nil)) (nomark _))))) pss_never pss_nil)
      (pss_cons (ps_for PassesOwn.never rfl (pi_str (pe_prop (pv 0) CT.cl PM GM r2 bM .nil pass0 rfl)) (pg_name (i := 2) nd rfl (.inl rfl))
        (pss_cons (ps_set (i := 3) nd rfl (.inl rfl) (pe_dget1 (hu_of hr) (pv 1) (pv 2) ⟨rfl, rfl, rfl, rfl⟩))
        (pss_one (ps_if (PW.pt (pw_or (pt_not (pt_val (pe_call GPl r2 rfl mPl kPl bPl .nil pass0 (pa_cons (pv 3) (pa_cons (pe_prop (pv 0) CT.cl PH GH r2 bH .nil pass0 rfl) (pa_cons (pe_prop (pv 0) CT.cl PW_ GW r2 bW .nil pass0 rfl) pa_nil)))))) (pw_or1 (pt_cmpR (op_neD hr.units) (pv 3) (pe_callO (pv 0) CO GC hr passL (pa_cons (pv 2) pa_nil)) (nomark _))))) (pss_one (ps_ret pe_bl)) pss_nil))))
      (pss_one (ps_ret pe_bl))), ?_⟩
    have hw1 := hV.m1
    have m26 := mb_26 hV
    have lS : (srt (mb g.flatten)).length = (mb g.flatten).length := (srt_perm _).length_eq
    obtain ⟨d0, a0, h0, _⟩ := id T0
    refine ⟨_, rfl, _, _, _, _, true, rfl, .ty _, .base (.dK hD.1), kit_ty (by decide +kernel), true, rfl, iteF ?_⟩
    refine ⟨_, rfl, e, _, rfl, hD.1, ?_⟩
    refine ⟨_, rfl, p, d0, _, rfl, h0, p, h, w, g, rfl, T0, hV, fun H1 s1 => ?_⟩
    refine ⟨_, rfl, by rw [S_len, lS]; show _ ≤ 16777216; omega, rfl, _, rfl, ?_⟩
    rw [show (!decide (V.int (((mkv (srt (mb g.flatten)) qa).length : Nat) : Int) = V.int (((S (srt (mb g.flatten))).length : Nat) : Int))) = false by
      unfold mkv
      rw [List.length_map, S_len, decide_eq_true rfl]
      rfl]
    refine iteF ?_
    have T1 := T0.same s1
    have D1 := hD.same s1
    obtain ⟨d1, a1, h1, _⟩ := id T1
    refine ⟨_, rfl, p, d1, _, rfl, h1, p, h, w, g, rfl, T1, hV, fun H2 s2 => ⟨_, rfl, ?_⟩⟩
    have T2 := T1.same s2
    have D2 := D1.same s2
    refine for_it (walk_str (z := S (srt (mb g.flatten)))) (fun i σ H3 => ∃ v2 v3, σ = [some (.ref p), some (.ref e), v2, v3] ∧ Same H2 H3 ∧ ∀ m ∈ (srt (mb g.flatten)).take i, pr m = g.flatten.idxOf m / w ∧ pc m = g.flatten.idxOf m % w)
      ⟨none, none, rfl, Same.refl H2, fun m hm => by simp at hm⟩ (fun _ _ _ _ _ => True.intro) ?_ ?_
    · rintro i x σ H3 H4 hi ⟨v2, v3, rfl, s3, ok3⟩ ⟨rfl, m, hm, rfl⟩
      rw [S_at] at hm
      have hmS := List.mem_of_getElem? hm
      have hmb := mem_srt.mp hmS
      have T3 := T2.same s3
      have D3 := D2.same s3
      obtain ⟨d3, a3, h3, _⟩ := id T3
      have hval : valV (mkv (srt (mb g.flatten)) qa) (Sum.inr (S [m])) = some (V.ref (qa m)) := valV_at (f := fun m => (Sum.inr (S [m]) : Key)) (v := fun m => V.ref (qa m)) hmS fun b hb e' => key_inj e'
      refine ⟨_, rfl, e, rfl, .inl ⟨_, .inl D3.1⟩, _, rfl, _, DGet.k (k := Sum.inr (S [m])) D3.1, ?_⟩
      rw [hval]
      have pl := D3.2 m hmS
      refine ⟨_, rfl, _, rfl, p, d3, _, rfl, h3, p, h, w, g, rfl, T3, hV, ?_⟩
      refine ⟨_, rfl, p, d3, _, rfl, h3, p, h, w, g, rfl, T3, hV, ?_⟩
      refine ⟨_, h, w, _, rfl, .two (SqT.of pl) (TA.kn_int _) (TA.kn_int _), _, rfl, ?_⟩
      have fl := (tk_place hV hmb)
      have bad : (pr m = g.flatten.idxOf m / w ∧ pc m = g.flatten.idxOf m % w) → pr m < h ∧ pc m < w := fun z => by
        rw [z.1, z.2]
        exact ⟨fl.2.2.1, fl.2.2.2.1⟩
      have no : ¬ (pr m = g.flatten.idxOf m / w ∧ pc m = g.flatten.idxOf m % w) → right w g (srt (mb g.flatten)) pr pc = false := fun z => decide_eq_false fun y => z (y m hmS)
      by_cases inn : pr m < h ∧ pc m < w
      · have e1 : TA.isN (.int (pr m : Nat)) ((h : Int) - 1) = true := by
          show (decide ((0 : Int) ≤ (pr m : Nat)) && decide (((pr m : Nat) : Int) ≤ (h : Int) - 1)) = true
          rw [decide_eq_true (by omega), decide_eq_true (by omega)]
          rfl
        have e2 : TA.isN (.int (pc m : Nat)) ((w : Int) - 1) = true := by
          show (decide ((0 : Int) ≤ (pc m : Nat)) && decide (((pc m : Nat) : Int) ≤ (w : Int) - 1)) = true
          rw [decide_eq_true (by omega), decide_eq_true (by omega)]
          rfl
        rw [e1, e2]
        refine iteF ⟨_, rfl, _, rfl, p, rfl, _, rfl, ⟨d3, _, h3⟩, call_ok T3 hV hmb fun H5 q5 s5 hq5 hp5 => ?_⟩
        have pl5 := s5 _ _ pl
        unfold PlcAt at hp5
        have e5 : ([V.int (pr m : Nat), V.int (pc m : Nat)] : List V) = plV w (pr m * w + pc m) := by
          unfold plV
          have z1 : (pr m * w + pc m) / w = pr m := by rw [Nat.mul_comm, Nat.mul_add_div (by omega), Nat.div_eq_of_lt inn.2, Nat.add_zero]
          have z2 : (pr m * w + pc m) % w = pc m := by rw [Nat.mul_comm, Nat.mul_add_mod, Nat.mod_eq_of_lt inn.2]
          rw [show ((pr m * w + pc m : Nat) : Int) / (w : Int) = (pr m : Nat) by exact_mod_cast z1, show ((pr m * w + pc m : Nat) : Int) % (w : Int) = (pc m : Nat) by exact_mod_cast z2]
        rw [e5] at pl5
        refine ⟨_, _, pl_dp pl5, pl_dp hp5, pl_shaped _ _, pl_shaped _ _, _, rfl, ?_⟩
        rw [pl_eqv]
        by_cases eq : pr m = g.flatten.idxOf m / w ∧ pc m = g.flatten.idxOf m % w
        · rw [show pr m * w + pc m = g.flatten.idxOf m by rw [eq.1, eq.2]; exact fl.2.2.2.2, decide_eq_true rfl]
          refine iteF ⟨_, _, rfl, s3.trans s5, fun m' hm' => ?_⟩
          rw [List.take_add_one, hm] at hm'
          rcases List.mem_append.mp hm' with z | z
          · exact ok3 m' z
          · have z : m' ∈ [m] := z
            rw [List.mem_singleton.mp z]
            exact eq
        · rw [decide_eq_false fun z => eq ⟨by rw [← z, Nat.mul_comm, Nat.mul_add_div (by omega), Nat.div_eq_of_lt inn.2, Nat.add_zero], by rw [← z, Nat.mul_comm, Nat.mul_add_mod, Nat.mod_eq_of_lt inn.2]⟩]
          refine iteT ?_
          have z := k H5 (((s1.trans s2).trans s3).trans s5)
          rw [no eq] at z
          exact z
      · have e1 : (TA.isN (.int (pr m : Nat)) ((h : Int) - 1) && TA.isN (.int (pc m : Nat)) ((w : Int) - 1)) = false := by
          show ((decide ((0 : Int) ≤ (pr m : Nat)) && decide (((pr m : Nat) : Int) ≤ (h : Int) - 1)) && (decide ((0 : Int) ≤ (pc m : Nat)) && decide (((pc m : Nat) : Int) ≤ (w : Int) - 1))) = false
          rcases Nat.lt_or_ge (pr m) h with y | y
          · have y2 : ¬ pc m < w := fun z => inn ⟨y, z⟩
            rw [decide_eq_false (p := ((pc m : Nat) : Int) ≤ (w : Int) - 1) (by omega)]
            simp
          · rw [decide_eq_false (p := ((pr m : Nat) : Int) ≤ (h : Int) - 1) (by omega)]
            simp
        rw [e1]
        refine iteT (iteT ?_)
        have z := k _ ((s1.trans s2).trans s3)
        rw [no fun y => inn (bad y)] at z
        exact z
    · rintro σ H3 ⟨v2, v3, rfl, s3, ok3⟩
      rw [S_size, List.take_length] at ok3
      have z := k _ ((s1.trans s2).trans s3)
      rw [show right w g (srt (mb g.flatten)) pr pc = true from decide_eq_true ok3] at z
      exact z
end
end TI
end
section
set_option Elab.async false
set_option maxRecDepth 100000
set_option linter.all false
namespace TI
open PySem PySem.Spec PyProof.Rows L2 TM TK TB TP TH TU TW TR
structure Ent where
  c : Nat
  pr : Nat → Nat
  pc : Nat → Nat
def EntAt (K : PySem.W.Frag) (H : Hp) (M : List Nat) (x : V) (e : Ent) : Prop := ∃ a d qa, x = .ref a ∧ SqT K H a [sg e.c, .ref d] ∧ PlD H d M e.pr e.pc qa
theorem EntAt.same {K : PySem.W.Frag} {H H' : Hp} {M : List Nat} {x : V} {e : Ent} (h : EntAt K H M x e) (s : Same H H') : EntAt K H' M x e := by
  obtain ⟨a, d, qa, h1, h2, h3⟩ := h
  exact ⟨a, d, qa, h1, s.tup h2, h3.same s⟩
def tiltsE (h w : Nat) (g : Grid) (es : List Ent) : Grid := tilts h w (es.map Ent.c) g
theorem srt_perm2 {l m : List Nat} (p : l.Perm m) : TP.srt l = TP.srt m := List.Perm.eq_of_pairwise (le := (· ≤ ·)) (fun a b _ _ h1 h2 => by omega) (srt_up _) (srt_up _) ((srt_perm _).trans (p.trans (srt_perm _).symm))
section
variable {P : Program} {w_ : World} {K : PySem.W.Frag} {mg : Str → Option Value} {base : Heap} {n : Nat} {C D fRs fIt fWi fPo : Addr} {fdIt fdWi fdPo : FuncData}
abbrev NFl : List Str := ["tray", "log", "present", "index", "item", "tilt", "places"]
theorem scFl : FnScope NFl ["tray", "log"] (defScope sFirstLogError) := ⟨rfl, rfl, rfl, by decide +kernel, rfl, by decide +kernel, by decide +kernel⟩
end
end TI
end
section
set_option Elab.async false
set_option maxRecDepth 100000
set_option linter.all false
namespace TI
open PySem PySem.Spec PyProof.Rows L2 TM TK TB TP TH TU TW TR
theorem pd_dict2 {K : PySem.W.Frag} {H : Hp} {D : Addr} {w : Nat} {pos : Nat → Nat} {M : List Nat} {ps qa : Nat → Addr} (P : PdAt H D w pos M ps qa) (nd : M.Nodup) :
    ∃ (a : Addr) (as : List Addr) (kvs : List (Key × V)), [V.ref D] = [.ref a] ∧ SqL K H a (as.map V.ref) ∧ Paired (fun p kv => SqT K H p [kV kv.1, kv.2]) as kvs ∧ ∀ p, H p = none → Same H (upd H p (.dK (mergeK [] kvs))) ∧ ∃ qa, MdAt (upd H p (.dK (mergeK [] kvs))) p w pos M qa := by
  obtain ⟨a, as, kvs, h1, h2, h3, h4⟩ := pd_dict (K := K) (Q := fun v H' => ∃ e, v = .ref e ∧ Same H H' ∧ ∃ qa, MdAt H' e w pos M qa) P nd fun H' e qa s _ hM => ⟨e, rfl, s, qa, hM⟩
  refine ⟨a, as, kvs, h1, h2, h3, fun p hp => ?_⟩
  obtain ⟨e, e1, s, qa, hM⟩ := h4 p hp
  cases e1
  exact ⟨s, qa, hM⟩
/-- where the marbles lie -/
theorem md_pl {H : Hp} {e w : Nat} {g : Grid} {M : List Nat} {qa : Nat → Addr} (h : MdAt H e w (fun m => g.flatten.idxOf m) M qa) : PlD H e M (fun m => g.flatten.idxOf m / w) (fun m => g.flatten.idxOf m % w) qa := ⟨h.1, fun m hm => h.2 m hm⟩
section
variable {P : Program} {w_ : World} {K : PySem.W.Frag} {mg : Str → Option Value} {base : Heap} {n : Nat} {D CU pM gM fCl : Addr} {fdM : FuncData}
end
end TI
end
section
set_option Elab.async false
set_option maxRecDepth 100000
set_option linter.all false
namespace TI
open PySem PySem.Spec PyProof.Rows L2 TM TK TB TP TH TU TW TR
/-- a log's entry: the letter, where the marbles lie then -/
def entA (w : Nat) (g : Grid) (c : Nat) : Ent := ⟨c, fun m => g.flatten.idxOf m / w, fun m => g.flatten.idxOf m % w⟩
def logOf (h w : Nat) : Grid → List Nat → List Ent
  | _, [] => []
  | g, c :: r => entA w (TM.tilt h w g c) c :: logOf h w (TM.tilt h w g c) r
theorem logOf_snoc (h w : Nat) : ∀ (u : List Nat) (g : Grid) (c : Nat), logOf h w g (u ++ [c]) = logOf h w g u ++ [entA w (tilts h w (u ++ [c]) g) c]
  | [], _, _ => rfl
  | d :: u, g, c => by
    show entA w (TM.tilt h w g d) d :: logOf h w (TM.tilt h w g d) (u ++ [c]) = _
    rw [logOf_snoc h w u]
    rfl
theorem logOf_len (h w : Nat) : ∀ (u : List Nat) (g : Grid), (logOf h w g u).length = u.length
  | [], _ => rfl
  | c :: u, g => by
    show (logOf h w (TM.tilt h w g c) u).length + 1 = u.length + 1
    rw [logOf_len h w u]
theorem right_self (w : Nat) (g : Grid) (M : List Nat) (c : Nat) : right w g M (entA w g c).pr (entA w g c).pc = true := decide_eq_true fun _ _ => ⟨rfl, rfl⟩
/-- operations that are tilts -/
theorem run_tl (h w : Nat) : ∀ (u : List Nat) (g : Grid) (c : Nat), runG h w g ((u ++ [c]).map Op.tl) = runG h w g (u.map Op.tl) ++ [tilts h w (u ++ [c]) g]
  | [], _, _ => rfl
  | d :: u, g, c => by
    show TM.tilt h w g d :: runG h w (TM.tilt h w g d) ((u ++ [c]).map Op.tl) = _
    rw [run_tl h w u]
    rfl
theorem run_tl_at (h w : Nat) : ∀ (u : List Nat) (g : Grid), (g :: runG h w g (u.map Op.tl))[u.length]? = some (tilts h w u g)
  | [], _ => rfl
  | d :: u, g => by
    show (TM.tilt h w g d :: runG h w (TM.tilt h w g d) (u.map Op.tl))[u.length]? = some (tilts h w u (TM.tilt h w g d))
    exact run_tl_at h w u _
section
variable {K : PySem.W.Frag} {L D dx st p : Addr} {v : V} {H H' : Hp} {M : List Nat}
theorem pl_lv {e : Addr} {pr pc : Nat → Nat} {qa : Nat → Addr} (h : PlD H e M pr pc qa) (hp : H p = some (LO L dx st v)) (kp : But p H H') : PlD H' e M pr pc qa := by
  have ne : ∀ {b : Addr} {o : HO}, H b = some o → (∀ z, o ≠ LO L dx st z) → b ≠ p := fun e n z => by
    rw [z, hp] at e
    exact n v (Option.some.inj e).symm
  exact ⟨kp _ _ h.1 (ne h.1 fun _ => by simp), fun m hm => kp _ _ (h.2 m hm) (ne (h.2 m hm) fun _ => by simp)⟩
theorem ent_lv {x : V} {e : Ent} (h : EntAt K H M x e) (hp : H p = some (LO L dx st v)) (kp : But p H H') : EntAt K H' M x e := by
  obtain ⟨a, d, qa, h1, h2, h3⟩ := h
  exact ⟨a, d, qa, h1, seq_lv h2 hp kp, pl_lv h3 hp kp⟩
theorem ent_lb {l : Addr} {xs : List V} {x : V} {e : Ent} (h : EntAt K H M x e) (hl : H l = some (.lst xs)) (kp : But l H H') : EntAt K H' M x e := by
  obtain ⟨a, d, qa, h1, h2, h3⟩ := h
  have ne : ∀ {b : Addr} {o : HO}, H b = some o → (∀ z, o ≠ .lst z) → b ≠ l := fun e n z => by
    rw [z, hl] at e
    exact n xs (Option.some.inj e).symm
  exact ⟨a, d, qa, h1, seq_lb h2 hl kp, kp _ _ h3.1 (ne h3.1 fun _ => by simp), fun m hm => kp _ _ (h3.2 m hm) (ne (h3.2 m hm) fun _ => by simp)⟩
theorem lv_lb {l q d : Addr} {xs : List V} {os : List Op} {gs : List Grid} (h : LvAt K L D H q os gs d) (hl : H l = some (.lst xs)) (kp : But l H H') : LvAt K L D H' q os gs d := by
  obtain ⟨dx, st, h0, ⟨⟨o, tr, ys, ts, h1, h2, h3, h4, h5⟩, h6, h7⟩⟩ := h
  have nq : q ≠ l := fun z => by rw [z, hl] at h0; cases h0
  refine ⟨dx, st, kp _ _ h0 nq, ⟨o, tr, ys, ts, seq_lb h1 hl kp, seq_lb h2 hl kp, seq_lb h3 hl kp, h4.imp fun x y z => ?_, h5.imp fun x y ⟨r, e, t⟩ => ⟨r, e, tray_but t hl kp⟩⟩, h6, h7⟩
  obtain ⟨a, zs, z1, z2, z3⟩ := z
  refine ⟨a, zs, z1, seq_lb z2 hl kp, ?_⟩
  cases y with
  | tl c => exact z3
  | pt c i j =>
    obtain ⟨q', e, hq⟩ := z3
    exact ⟨q', e, seq_lb hq hl kp⟩
  | tk c => exact z3
end
end TI
end
section
set_option Elab.async false
set_option maxRecDepth 100000
set_option linter.all false
namespace TI
open PySem PySem.Spec PyProof.Rows L2 TM TK TB TP TH TU TW TR
section
variable {X : Cx} {n : Nat}
end
section
variable {P : Program} {w_ : World} {K : PySem.W.Frag} {mg : Str → Option Value} {base : Heap} {n : Nat} {L D C fMt fLp fFl fAr fWi fTe pP gP pM gM : Addr} {fdLp fdP fdM fdWi : FuncData}
def spMt (K : PySem.W.Frag) (L D : Addr) : Sp := fun vs H Q E => ∃ c, spOne K L D (.tl c) (fun _ as => as = [sg c]) vs H Q E
/-- how far the log is -/
structure LogIv (K : PySem.W.Frag) (L D : Addr) (H H1 : Hp) (q l h w : Nat) (g : Grid) (u : List Nat) : Prop where
  at_ : ∃ xs, H1 l = some (.lst xs) ∧ All2 (EntAt K H1 (srt (mb g.flatten))) xs (logOf h w g u)
  lv : LvAt K L D H1 q (u.map Op.tl) (g :: runG h w g (u.map Op.tl)) u.length
  bt : But q H H1
end
end TI
end
section
set_option Elab.async false
set_option maxRecDepth 100000
set_option linter.all false
namespace TI
open PySem PySem.Spec PyProof.Rows L2 TM TK TB TP TH TU TW TR
section
variable {P : Program} {w_ : World} {K : PySem.W.Frag} {mg : Str → Option Value} {base : Heap} {n : Nat} {L D CU fMt fLi fCl pP gP pM gM : Addr} {fdP fdM fdLi : FuncData}
abbrev NLg : List Str := ["_law_tray_here", "_law_text_here", "_law_live", "_law_log_here", "_law_tilt", "_law_after", "_law_marble"]
theorem scLg : FnScope NLg ["_law_tray_here", "_law_text_here"] (defScope sLawLog) := ⟨rfl, rfl, rfl, by decide +kernel, rfl, by decide +kernel, by decide +kernel⟩
def spLg (K : PySem.W.Frag) (D : Addr) : Sp := fun vs H Q _ => ∃ (p h w : Nat) (g : Grid) (t : List Nat), vs = [.ref p, .str (S t)] ∧ TrayAt K D H p g ∧ VG h w g ∧ (∀ c ∈ t, isT c = true) ∧ t.length ≤ 60 ∧
  ∀ H' l xs, Same H H' → H' l = some (.lst xs) → All2 (EntAt K H' (srt (mb g.flatten))) xs (logOf h w g t) → Q (.ref l) H'
theorem ok_lg {f : Addr} {fd : FuncData} (F : Fun K "_law_log" "_law_log" sLawLog f fd) (b : Binds K fd ["_law_tray_here", "_law_text_here"] []) (hdict : mg "dict" = none) (CT : ClsT K mg D) (CL : ClsL K mg L)
    (MLi : Mk K L fLi) (GLi : FnOk P w_ K mg base CX0 1 fLi fdLi ["self", "tray"] (spLi K L D)) (bLi : Binds K fdLi ["self", "tray"] [])
    (MT : Meth K L "tilt" fMt) (GMt : FnRn n P w_ K mg base CX0 8 fMt (spMt K L D))
    (PP : PropOf K L "present_tray" pP gP) (GP_ : FnOk P w_ K mg base CX0 1 gP fdP ["self"] (spPr K L D)) (bP : Binds K fdP ["self"] [])
    (PM : PropOf K D "marbles" pM gM) (GM : FnOk P w_ K mg base CX0 1 gM fdM ["self"] (spMb K D)) (bM : Binds K fdM ["self"] [])
    (CO : StX.CallO K D fCl) (GC : FnR P w_ K mg base (L2.CX P w_) 4 fCl (spCl K D CU)) : FnRn n P w_ K mg base CX0 9 f (spLg K D) := by
  refine fn_n F b scLg (fun vs H Q E h => ?_) fun cdv A outer s H vs Q E hr h => ?_
  · obtain ⟨p, h, w, g, t, rfl, _⟩ := h
    rfl
  · obtain ⟨p, h, w, g, t, rfl, T0, hV, ht, t60, kk⟩ := h
    have nd := scLg.nd
    have r2 : Room 2 _ := hr.mono (by decide)
    have r4 : Room 4 _ := hr.mono (by decide)
    refine ⟨_, pssn_cut (PS.up (ps_par (i := 2) (j := 3) rfl nd rfl rfl (by decide) rfl rfl (pa_cons (pe_make MLi GLi r2 rfl CL.mgL bLi .nil pass0 (pa_cons (pv 0) pa_nil)) (pa_cons (pe_lst pa_nil) pa_nil)) (by rfl)))
      (pssn_cut (psn_for PassesOwn.never rfl (pi_str (pv 1)) (pg_name (i := 4) nd rfl (.inl rfl))
        (pssn_cut (psn_expr (pen_methR (pv 2) CL.cl MT GMt hr pass0 (pa_cons (pv 4) pa_nil)))
        (pssn_cut (PS.up (ps_set (i := 5) nd rfl (.inr rfl) (pe_prop (pv 2) CL.cl PP GP_ r2 bP .nil pass0 rfl)))
        (pssn_one (PS.up (ps_expr (pe_bm PySem.F.plainAttrs_list PySem.F.slot_list_append PySem.F.type_list_append mt_append (pv 3) (pa_cons (pe_tup (pa_cons (pv 4) (pa_cons (pe_callTy (call_dictP rfl) (by rfl) hdict (by decide +kernel) (pa_cons (pe_lc (own := [("_law_marble", 6)]) (g := gName 6) (tt := tYes) rfl nd (pi_str (pe_prop (pv 0) CT.cl PM GM r2 bM .nil pass0 rfl)) (blkOk_by (N := NLg) (sc := defScope sLawLog) (by decide +kernel)) (fun _ _ _ _ _ => pg_name (i := 6) nd rfl (.inl rfl)) (fun _ _ _ _ _ => pts_nil)
            (fun _ _ _ _ _ => pe_tup (pa_cons (pv 6) (pa_cons (pe_callO (pv 5) CO GC r4 passL (pa_cons (pv 6) pa_nil)) pa_nil)))) pa_nil)) pa_nil))) pa_nil))))))))
      (pssn_one (PS.up (ps_ret (pv 3))))), ?_⟩
    have Mgs : ∀ u, srt (mb (tilts h w u g).flatten) = srt (mb g.flatten) := fun u => srt_perm2 ((like_tilts u hV.rc).pm)
    have Vg : ∀ u, VG h w (tilts h w u g) := fun u => VG.tilts _ hV
    -- the live tray, the log
    refine ⟨fun σ H1 => ∃ q l, σ = [some (.ref p), some (.str (S t)), some (.ref q), some (.ref l), none, none, none] ∧ LogIv K L D H H1 q l h w g [] ∧ H q = none ∧ H l = none, ?_, ?_⟩
    · refine ⟨_, rfl, ?_⟩
      intro x dx nx ndx nex
      have hx1 : upd (upd H dx (.own x)) x (.ins L dx []) x = some (.ins L dx []) := upd_same
      have s1 : Same H (upd (upd H dx (.own x)) x (.ins L dx [])) := fun c o e => by
        rw [upd_ne (ne_of_none e nx), upd_ne (ne_of_none e ndx)]
        exact e
      have px : p ≠ x := by
        obtain ⟨d, b, e, _⟩ := id T0
        exact ne_of_none e nx
      refine ⟨x, dx, p, g, rfl, hx1, T0.same s1, px, fun H5 hL hb => ⟨rfl, ?_⟩⟩
      have s5 : Same H H5 := fun c o e => hb _ _ (s1 _ _ e) (ne_of_none e nx)
      refine ⟨(by show 0 ≤ sizeLine; decide), fun l hl => ?_⟩
      have s6 := same_new (o := .lst ([] : List V)) hl
      exact ⟨_, _, rfl, x, l, rfl, ⟨⟨[], upd_same, ⟨rfl, fun k x y z => by simp at z⟩⟩, hL.same s6, But.same (s5.trans s6)⟩, nx, s5.free hl⟩
    rintro σ H1 ⟨q, l, rfl, I1, fq, fl⟩
    refine ⟨fun σ H2 => ∃ v4 v5 v6, σ = [some (.ref p), some (.str (S t)), some (.ref q), some (.ref l), v4, v5, v6] ∧ LogIv K L D H H2 q l h w g t, ?_, ?_⟩
    · refine ⟨_, rfl, _, rfl, for_it (walk_str (z := S t)) (fun j σ H4 => ∃ v4 v5 v6, σ = [some (.ref p), some (.str (S t)), some (.ref q), some (.ref l), v4, v5, v6] ∧ LogIv K L D H H4 q l h w g (t.take j))
        ⟨none, none, none, rfl, I1⟩ (fun _ _ _ _ _ => True.intro) ?_ ?_⟩
      · rintro j x σ H4x H4 hj ⟨v4, v5, v6, rfl, I4⟩ ⟨rfl, c, hc, rfl⟩
        rw [S_at] at hc
        have hcT := ht c (List.mem_of_getElem? hc)
        have tk : t.take (j + 1) = t.take j ++ [c] := by rw [List.take_add_one, hc]; rfl
        have lu : (t.take j).length + 1 ≤ 1000 := by
          rw [List.length_take]
          omega
        rw [tk]
        generalize t.take j = u at I4 lu
        have gz := run_tl_at h w u g
        obtain ⟨⟨xs, hl4, al4⟩, lv4, bt4⟩ := I4
        obtain ⟨dx, st4, hq, _⟩ := id lv4
        have nlq : l ≠ q := fun z => by rw [z, hq] at hl4; cases hl4
        -- the tilt
        refine ⟨fun σ H6 => σ = [some (.ref p), some (.str (S t)), some (.ref q), some (.ref l), some (sg c), v5, v6] ∧ LvAt K L D H6 q ((u ++ [c]).map Op.tl) (g :: runG h w g ((u ++ [c]).map Op.tl)) (u ++ [c]).length ∧ But q H H6 ∧ H6 l = some (.lst xs) ∧ All2 (EntAt K H6 (srt (mb g.flatten))) xs (logOf h w g u), ?_, ?_⟩
        · refine ⟨_, rfl, q, dx, _, rfl, hq, rfl, _, rfl, c, q, u.length, h, w, [sg c], _, _, tilts h w u g, rfl, rfl, lv4, gz, Vg u, hcT, by rw [List.length_map]; exact lu, fun H6 v hv hL hb => ?_⟩
          obtain rfl : v = _ := hv
          have e1 : (u.map Op.tl).take u.length ++ [Op.tl c] = (u ++ [c]).map Op.tl := by rw [List.take_of_length_le (by simp), List.map_append]; rfl
          have e2 : (g :: runG h w g (u.map Op.tl)).take (u.length + 1) ++ [stepG h w (tilts h w u g) (Op.tl c)] = g :: runG h w g ((u ++ [c]).map Op.tl) := by
            rw [List.take_of_length_le (by simp [runG_len]), run_tl, tilts_snoc]
            rfl
          rw [e1, e2] at hL
          exact ⟨rfl, by rw [List.length_append]; exact hL, bt4.trans hb, hb _ _ hl4 nlq, al4.imp fun _ _ z => ent_lv z hq hb⟩
        rintro σ H6 ⟨rfl, lv6, bt6, hl6, al6⟩
        obtain ⟨dx6, st6, hq6, _⟩ := id lv6
        have gz6 := run_tl_at h w (u ++ [c]) g
        have lS : (srt (mb g.flatten)).length = (mb g.flatten).length := (srt_perm _).length_eq
        have ndS : (srt (mb g.flatten)).Nodup := (srt_perm _).nodup_iff.mpr hV.nd
        have m26 := mb_26 hV
        -- the tray then
        refine ⟨fun σ H5 => ∃ r, σ = [some (.ref p), some (.str (S t)), some (.ref q), some (.ref l), some (sg c), some (.ref r), v6] ∧ TrayAt K D H6 r (tilts h w (u ++ [c]) g) ∧ H5 = H6, ⟨_, rfl, q, dx6, _, rfl, hq6, q, _, _, _, _, rfl, lv6, gz6, fun r tr => ⟨r, rfl, tr, rfl⟩⟩, ?_⟩
        rintro σ H5 ⟨r, rfl, tr, rfl⟩
        have sH6 : Same H H5 := fun b o e => bt6 b o e (fun z => by rw [z, fq] at e; cases e)
        obtain ⟨d0, a0, h0, _⟩ := id T0
        refine ⟨_, rfl, .inl ⟨rfl, _, SqL.of hl6⟩, ?_⟩
        refine ⟨_, rfl, _, rfl, p, d0, _, rfl, sH6 _ _ h0, p, h, w, g, rfl, T0.same sH6, hV, fun H7 s7 => ⟨_, rfl, fun D1 hD1 => ?_⟩⟩
        refine lc_it (walk_str (z := S (srt (mb g.flatten)))) (fun i H8 => ∃ ps qn, Same H7 H8 ∧ PdAt H8 D1 w (fun m => (tilts h w (u ++ [c]) g).flatten.idxOf m) ((srt (mb g.flatten)).take i) ps qn)
          ⟨fun _ => 0, fun _ => 0, same_new hD1, upd_same, fun m hm => by simp at hm⟩ (fun _ _ _ _ => True.intro) ?_ ?_
        · rintro i x H9 H8 hi ⟨ps, qn, s8, hP⟩ ⟨rfl, m, hm, rfl⟩
          rw [S_at] at hm
          have hcM : m ∈ mb (tilts h w (u ++ [c]) g).flatten := mem_srt.mp (by rw [Mgs]; exact List.mem_of_getElem? hm)
          have T2 := tr.same (s7.trans s8)
          obtain ⟨d2, a2, e2, _⟩ := id T2
          refine ⟨rfl, _, rfl, _, rfl, r, rfl, _, rfl, ⟨d2, _, e2⟩, call_ok T2 (Vg _) hcM fun H4 q4 s4 hq hq' => ?_⟩
          refine ⟨(by show 2 ≤ sizeLine; decide), fun T_ hT => ?_⟩
          have st := same_new (o := .tup [sg m, V.ref q4]) hT
          obtain ⟨ps', qn', z1, z2⟩ := pd_step (T := T_) (q2 := q4) ndS hm hD1 ((hP.same s4).same st) ((s8.trans s4).trans st) upd_same (by rw [upd_ne (ne_of_none hq' hT)]; exact hq')
          refine ⟨_, ((hP.same s4).same st).1, ?_, ps', qn', z1, z2⟩
          rw [List.length_map, List.length_take]
          show _ < 16777216
          omega
        · rintro H8 ⟨ps, qn, s8, hP⟩
          rw [S_size, List.take_length] at hP
          obtain ⟨da, das, dkv, d1, d2, d3, d4⟩ := pd_dict2 (K := K) hP ndS
          refine ⟨da, das, dkv, d1, d2, d3, fun e he => ?_⟩
          obtain ⟨s3, qa, hM⟩ := d4 e he
          have s68 := (s7.trans s8).trans s3
          refine ⟨(by show 2 ≤ sizeLine; decide), fun T_ hT => ?_⟩
          have sT := same_new (o := .tup [sg c, V.ref e]) hT
          have eT : upd (upd H8 e (.dK (mergeK [] dkv))) T_ (.tup [sg c, V.ref e]) T_ = some (.tup [sg c, V.ref e]) := upd_same
          generalize upd (upd H8 e (.dK (mergeK [] dkv))) T_ (.tup [sg c, V.ref e]) = H9 at sT eT
          have s69 := s68.trans sT
          have hl9 := s69 _ _ hl6
          have al9 := al6.imp fun _ _ z => z.same s69
          have m29 := hM.same sT
          have xl : xs.length = u.length := by rw [al6.1, logOf_len]
          refine ⟨l, xs, _, rfl, rfl, hl9, (by show _ < 16777216; omega), ?_⟩
          have b10 : But l H9 (upd H9 l (.lst (xs ++ [.ref T_]))) := fun b o' e hb => by rw [upd_ne hb]; exact e
          refine ⟨_, _, _, rfl, ⟨xs ++ [.ref T_], upd_same, ?_⟩, lv_lb (lv6.same s69) hl9 b10, fun b o' e hb => b10 _ _ (s69 _ _ (bt6 _ _ e hb)) fun z => by rw [z, fl] at e; cases e⟩
          rw [logOf_snoc]
          refine All2.app (al9.imp fun _ _ z => ent_lb z hl9 b10) ⟨rfl, fun k x y z1 z2 => ?_⟩
          cases k with
          | zero =>
            cases z1
            cases z2
            exact ent_lb ⟨T_, e, qa, rfl, SqT.of eT, md_pl m29⟩ hl9 b10
          | succ k => simp at z1
      · rintro σ H4 ⟨v4, v5, v6, rfl, I4⟩
        rw [S_size, List.take_length] at I4
        exact ⟨_, _, _, rfl, I4⟩
    rintro σ H2 ⟨v4, v5, v6, rfl, I2⟩
    obtain ⟨⟨xs, h1, h2⟩, h3, h4⟩ := I2
    exact ⟨_, rfl, kk _ _ _ (fun b o e => h4 b o e (fun z => by rw [z, fq] at e; cases e)) h1 h2⟩
end
end TI
end
section
set_option Elab.async false
set_option maxRecDepth 100000
set_option linter.all false
namespace TI
open PySem PySem.Spec PyProof.Rows L2 TM TK TB TP TH TU TW TR
section
variable {X : Cx}
/-- a list != [] -/
def rNeN (K : PySem.W.Frag) : R2 := fun x y H Q => ∃ a b xs, x = .ref a ∧ y = .ref b ∧ SqL K H a xs ∧ SqL K H b [] ∧ Q (.bl (!xs.isEmpty)) H
theorem op_neN (hu : X.A.units + 64 < cLine) : OpR X (compareOp .NotEq) (rNeN X.K) := by
  intro pins s σ H x y v u Q I rx ry h
  obtain ⟨a, b, xs, rfl, rfl, ha, hb, q⟩ := h
  cases xs with
  | nil => exact op_neD hu pins s σ H _ _ v u Q I rx ry ⟨.list [], .list [], .lst ha .nil, .lst hb .nil, rfl, rfl, q⟩
  | cons z zs =>
    obtain rfl : v = Value.ref a := rx
    obtain rfl : u = Value.ref b := ry
    obtain ⟨i1, v1, p1, z1⟩ := I.list ha
    obtain ⟨i2, v2, p2, z2⟩ := I.list hb
    have n1 := v1.length
    have n2 := v2.length
    refine SeqAt.RcNeAt.lists_lengths p1.isList p2.isList ?_ (by omega) X.prog X.w X.xe _ ⟨.bl true, H, I, rfl, q⟩
    rw [List.length_cons] at n1
    have n2' : i2.length = 0 := n2.symm
    simp
    omega
end
def good (h w : Nat) (M : List Nat) (g : Grid) (e : Ent) : Bool := isT e.c && right w (TM.tilt h w g e.c) M e.pr e.pc
/-- the first wrong entry of any log -/
def flX (h w : Nat) (M : List Nat) : Grid → List Ent → Nat → V
  | _, [], _ => .non
  | g, e :: r, i => if good h w M g e then flX h w M (TM.tilt h w g e.c) r (i + 1) else .int (i : Nat)
theorem flX_drop {h w : Nat} {M : List Nat} : ∀ {es : List Ent} {g : Grid} {i k : Nat}, k ≤ es.length → (∀ (j : Nat) e, j < k → es[j]? = some e → good h w M (tiltsE h w g (es.take j)) e = true) → flX h w M g es i = flX h w M (tiltsE h w g (es.take k)) (es.drop k) (i + k)
  | es, g, i, 0, _, _ => rfl
  | [], g, i, k + 1, hk, _ => by simp at hk
  | e :: r, g, i, k + 1, hk, hok => by
    have h0 : good h w M g e = true := hok 0 e (Nat.succ_pos k) rfl
    have ih := flX_drop (M := M) (es := r) (g := TM.tilt h w g e.c) (i := i + 1) (k := k) (by simpa using hk) fun j e' l q => hok (j + 1) e' (Nat.succ_lt_succ l) q
    show (if good h w M g e then flX h w M (TM.tilt h w g e.c) r (i + 1) else .int (i : Nat)) = _
    rw [if_pos h0, ih, show i + 1 + k = i + (k + 1) by omega]
    rfl
theorem flX_log {h w : Nat} {M : List Nat} : ∀ (u : List Nat) (g : Grid) (i : Nat), (∀ c ∈ u, isT c = true) → flX h w M g (logOf h w g u) i = .non
  | [], _, _, _ => rfl
  | c :: u, g, i, hu => by
    show (if good h w M g (entA w (TM.tilt h w g c) c) then flX h w M (TM.tilt h w g c) (logOf h w (TM.tilt h w g c) u) (i + 1) else .int (i : Nat)) = _
    have : good h w M g (entA w (TM.tilt h w g c) c) = true := by
      unfold good
      show (isT c && right w (TM.tilt h w g c) M (entA w (TM.tilt h w g c) c).pr (entA w (TM.tilt h w g c) c).pc) = true
      rw [hu c List.mem_cons_self, right_self]
      rfl
    rw [if_pos this]
    exact flX_log u _ _ fun d hd => hu d (List.mem_cons_of_mem _ hd)
theorem logOf_app (h w : Nat) : ∀ (u v : List Nat) (g : Grid), logOf h w g (u ++ v) = logOf h w g u ++ logOf h w (tilts h w u g) v
  | [], _, _ => rfl
  | c :: u, v, g => by
    show entA w (TM.tilt h w g c) c :: logOf h w (TM.tilt h w g c) (u ++ v) = _
    rw [logOf_app h w u v]
    rfl
theorem flX_two {h w : Nat} {M : List Nat} : ∀ (es : List Ent) (g : Grid) (i : Nat), (flX h w M g es i = .non ∧ ∀ e, es.getLast? = some e → right w (tiltsE h w g es) M e.pr e.pc = true) ∨ ∃ k : Nat, flX h w M g es i = .int (k : Nat) ∧ i ≤ k ∧ k < i + es.length
  | [], _, _ => .inl ⟨rfl, fun e he => by cases he⟩
  | e :: r, g, i => by
    have ih := flX_two (h := h) (w := w) (M := M) r (TM.tilt h w g e.c) (i + 1)
    unfold flX
    by_cases q : good h w M g e = true
    · rw [if_pos q]
      rcases ih with ⟨h1, h2⟩ | ⟨k, h1, h2, h3⟩
      · refine .inl ⟨h1, fun e' he' => ?_⟩
        cases r with
        | nil =>
          cases he'
          unfold good at q
          exact (Bool.and_eq_true _ _ ▸ q).2
        | cons a r => exact h2 e' (by rw [List.getLast?_cons_cons] at he'; exact he')
      · exact .inr ⟨k, h1, by omega, by rw [List.length_cons]; omega⟩
    · rw [if_neg q]
      exact .inr ⟨i, rfl, Nat.le_refl _, by rw [List.length_cons]; omega⟩
section
variable {P : Program} {w_ : World} {K : PySem.W.Frag} {mg : Str → Option Value} {base : Heap} {n : Nat} {C D fRs fIt fWi fPo : Addr} {fdIt fdWi fdPo : FuncData}
def spFx (K : PySem.W.Frag) (D : Addr) : Sp := fun vs H Q _ => ∃ (p l h w : Nat) (g : Grid) (es : List Ent) (xs : List V), vs = [.ref p, .ref l] ∧ TrayAt K D H p g ∧ VG h w g ∧ SqL K H l xs ∧ All2 (EntAt K H (srt (mb g.flatten))) xs es ∧ ∀ H', Same H H' → Q (flX h w (srt (mb g.flatten)) g es 0) H'
theorem ok_fx {f : Addr} {fd : FuncData} (F : Fun K "first_log_error" "first_log_error" sFirstLogError f fd) (b : Binds K fd ["tray", "log"] []) (T : TxtW K mg) (hlst : mg "list" = none) (htup : mg "tuple" = none) (CW : ClsW K mg C) (hDC : D ≠ C)
    (sf : PySem.W.selfFirst K D = true) (NO : NoOp K C Operator.RShift.info.2) (hs : PySem.W.findIn K (.ref D) (PySem.dunder Operator.RShift.info.2) = some (some (.ref fRs))) (hf : PySem.W.isFn K (.ref fRs) = true) (GRs : FnRn n P w_ K mg base CX0 5 fRs (spRs K C D))
    (GIt : FnOk P w_ K mg base CX0 1 fIt fdIt ["value"] spIt) (kIt : PySem.W.keepIn K (.ref fIt) = true) (bIt : Binds K fdIt ["value"] []) (mIt : mg "is_tilt" = some (.ref fIt))
    (MW : Mk K C fWi) (GWi : FnOk P w_ K mg base CX0 3 fWi fdWi ["self", "text"] (spWi C)) (bWi : Binds K fdWi ["self", "text"] [])
    (GPo : FnOk P w_ K mg base CX0 5 fPo fdPo ["tray", "places"] (spPo K D)) (kPo : PySem.W.keepIn K (.ref fPo) = true) (bPo : Binds K fdPo ["tray", "places"] []) (mPo : mg "_are_places_of" = some (.ref fPo)) : FnRn n P w_ K mg base CX0 6 f (spFx K D) := by
  refine fn_n F b scFl (fun vs H Q E h => ?_) fun cdv A outer s H vs Q E hr h => ?_
  · obtain ⟨p, l, h, w, g, es, xs, rfl, _⟩ := h
    rfl
  · obtain ⟨p, l, h, w, g, es, xs, rfl, T0, hV, hl, ae, k⟩ := h
    have nd := scFl.nd
    have r1 : Room 1 _ := hr.mono (by decide)
    have r4 : Room 4 _ := hr.mono (by decide)
    refine ⟨_, pssn_cons (PS.up (ps_if (pt_not (pt_val (pe_callB call_isi (by rfl) T.isi (by decide +kernel) (pa_cons (pv 1) (pa_cons (pe_bltn (v := .ty "list") (by rfl) hlst (by decide +kernel) rfl) pa_nil))))) pss_never pss_nil))
      (pssn_cons (PS.up (ps_set (i := 2) nd rfl (.inl rfl) (pv 0)))
      (pssn_cons (psn_for PassesOwn.never rfl (pi_enum (by rfl) T.enum (pa_cons (pv 1) pa_nil)) (pg_tup rfl (pgs_cons (pg_name (i := 3) nd rfl (.inl rfl)) (pgs_cons (pg_name (i := 4) nd rfl (.inl rfl)) pgs_nil)))
        (pssn_cons (PS.up (ps_if (PW.pt (pw_or (pt_not (pt_val (pe_callB call_isi (by rfl) T.isi (by decide +kernel) (pa_cons (pv 4) (pa_cons (pe_bltn (v := .ty "tuple") (by rfl) htup (by decide +kernel) rfl) pa_nil))))) (pw_or1 (pt_cmpR op_ne (pe_callB call_len_seq (by rfl) T.len PySem.boot_len (pa_cons (pv 4) pa_nil)) pe_int (nomark _))))) pss_never pss_nil))
        (pssn_cons (PS.up (ps_asg (pv 4) (pg_tup (by rfl) (pgs_cons (pg_name (i := 5) nd rfl (.inl rfl)) (pgs_cons (pg_name (i := 6) nd rfl (.inl rfl)) pgs_nil)))))
        (pssn_cons (PS.up (ps_if (pt_not (pt_val (pe_call GIt r1 rfl mIt kIt bIt .nil pass0 (pa_cons (pv 5) pa_nil)))) (pss_one (ps_ret (pv 3))) pss_nil))
        (pssn_cons (psn_set (i := 2) nd rfl (.inl rfl) (pen_op (op_twoN hDC sf NO hs hf GRs hr pass0) (PE.up (pv 2)) (PE.up (pe_make MW GWi r4 rfl CW.mgC bWi .nil pass0 (pa_cons (pv 5) pa_nil)))))
        (pssn_one (PS.up (ps_if (pt_not (pt_val (pe_call GPo hr rfl mPo kPo bPo .nil pass0 (pa_cons (pv 2) (pa_cons (pv 6) pa_nil))))) (pss_one (ps_ret (pv 3))) pss_nil))))))))
      (pssn_one (PS.up (ps_ret pe_non))))), ?_⟩
    have Mg : ∀ es' : List Ent, srt (mb (tiltsE h w g es').flatten) = srt (mb g.flatten) := fun es' => srt_perm2 ((like_tilts (es'.map Ent.c) hV.rc).pm)
    have Vg : ∀ es' : List Ent, VG h w (tiltsE h w g es') := fun es' => VG.tilts _ hV
    have nxt : ∀ {i : Nat} {e : Ent}, es[i]? = some e → tiltsE h w g (es.take (i + 1)) = TM.tilt h w (tiltsE h w g (es.take i)) e.c := fun {i e} he => by
      unfold tiltsE
      rw [List.take_add_one, he, List.map_append]
      exact tilts_snoc _ _
    refine ⟨_, rfl, _, _, _, _, true, rfl, .ty _, TA.sq_ty (.lst hl), kit_ty (by decide +kernel), true, rfl, iteF ⟨_, rfl, ?_⟩⟩
    refine ⟨_, rfl, l, xs, rfl, hl, for_it (walk_enum (K := K) (a := l) (xs := xs)) (fun i σ H1 => ∃ r v3 v4 v5 v6, σ = [some (.ref p), some (.ref l), some (.ref r), v3, v4, v5, v6] ∧ Same H H1 ∧ TrayAt K D H1 r (tiltsE h w g (es.take i)) ∧
        ∀ (j : Nat) e, j < i → es[j]? = some e → good h w (srt (mb g.flatten)) (tiltsE h w g (es.take j)) e = true)
      ⟨p, none, none, none, none, rfl, Same.refl H, T0, fun j e z => absurd z (Nat.not_lt_zero _)⟩ (fun i σ H1 _ ⟨_, _, _, _, _, _, s, _⟩ => s.seq hl) ?_ ?_⟩
    · rintro i x σ H1 H2 hi ⟨r, v3, v4, v5, v6, rfl, s1, t1, ok1⟩ ⟨T_, x0, y, rfl, hT, rfl, hx0, hy⟩
      cases hx0
      have s2 := same_new (o := .tup [.int (i : Nat), y]) hT
      have e2 : upd H1 T_ (.tup [.int (i : Nat), y]) T_ = some (.tup [.int (i : Nat), y]) := upd_same
      generalize upd H1 T_ (.tup [.int (i : Nat), y]) = H2 at s2 e2
      have hi2 : i < es.length := by rw [← ae.1]; exact hi
      have he : es[i]? = some es[i] := List.getElem?_eq_getElem hi2
      generalize es[i] = e at he
      have dr : es.drop i = e :: es.drop (i + 1) := by
        obtain ⟨hlt, e3⟩ := List.getElem?_eq_some_iff.mp he
        rw [← e3, List.getElem_cons_drop]
      obtain ⟨a, d, qa, rfl, hS, hD⟩ := ae.2 i y e hy he
      have s12 := s1.trans s2
      have hS2 := s12.tup hS
      refine ⟨T_, _, rfl, SqT.of e2, rfl, _, _, rfl, _, _, rfl, rfl, ?_⟩
      refine ⟨_, rfl, _, _, _, _, true, rfl, .ty _, TA.sq_ty (.tup hS2), kit_ty (TA.tup_kit true), true, rfl, iteF ⟨_, rfl, a, _, rfl, .inr hS2, rfl, _, rfl, ?_⟩⟩
      rw [show (!decide (V.int ((([sg e.c, V.ref d] : List V).length : Nat) : Int) = V.int 2)) = false by simp]
      refine iteF ⟨_, rfl, a, _, rfl, hS2, rfl, _, _, rfl, _, _, rfl, rfl, ?_⟩
      cases heT : isT e.c with
      | false =>
        refine ⟨_, rfl, e.c, rfl, false, by rw [heT], iteT ⟨_, rfl, ?_⟩⟩
        have z := k _ s12
        rw [flX_drop (i := 0) (k := i) (by omega) ok1, dr] at z
        unfold flX good at z
        rw [heT, Bool.false_and, if_neg (by simp), Nat.zero_add] at z
        exact z
      | true =>
      refine ⟨_, rfl, e.c, rfl, true, by rw [heT], iteF ?_⟩
      refine ⟨_, rfl, _, rfl, ?_⟩
      intro x dx nx ndx nex
      refine ⟨x, dx, [e.c], rfl, upd_same, ⟨by show 1 ≤ 60; decide, by simpa using heT⟩, fun H3 hw kp3 => ⟨rfl, ?_⟩⟩
      have s3 := Same.made nx ndx kp3
      have t3 := (t1.same s2).same s3
      obtain ⟨d1, a1, h1, _⟩ := id t3
      obtain ⟨d2, h2⟩ := id hw
      refine ⟨r, d1, _, x, d2, _, rfl, rfl, h1, h2, r, x, h, w, _, [e.c], rfl, t3, Vg _, hw, fun H4 r2 s4 t4 => ?_⟩
      replace t4 : TrayAt K D H4 r2 (tiltsE h w g (es.take (i + 1))) := by rw [nxt he]; exact t4
      have s14 := (s12.trans s3).trans s4
      refine ⟨_, rfl, _, rfl, r2, d, h, w, _, e.pr, e.pc, qa, rfl, t4, Vg _, by rw [Mg]; exact hD.same s14, fun H5 s5 => ⟨_, rfl, ?_⟩⟩
      rw [Mg]
      have s15 := s14.trans s5
      cases q : right w (tiltsE h w g (es.take (i + 1))) (srt (mb g.flatten)) e.pr e.pc with
      | true =>
        refine iteF ⟨r2, _, _, _, _, rfl, s15, t4.same s5, fun j e' l q' => ?_⟩
        rcases Nat.lt_or_ge j i with z | z
        · exact ok1 j e' z q'
        · obtain rfl : j = i := by omega
          rw [he] at q'
          cases q'
          unfold good
          rw [heT, ← nxt he, q]
          rfl
      | false =>
        refine iteT ⟨_, rfl, ?_⟩
        have z := k H5 s15
        rw [flX_drop (i := 0) (k := i) (by omega) ok1, dr] at z
        unfold flX good at z
        rw [← nxt he, heT, q, if_neg (by simp), Nat.zero_add] at z
        exact z
    · rintro σ H1 ⟨r, v3, v4, v5, v6, rfl, s1, t1, ok1⟩
      have z := k H1 s1
      rw [ae.1] at ok1
      rw [flX_drop (i := 0) (k := es.length) (Nat.le_refl _) ok1, List.drop_length] at z
      exact z
end
end TI
end
section
set_option Elab.async false
set_option maxRecDepth 100000
set_option linter.all false
namespace TI
open PySem PySem.Spec PyProof.Rows L2 TM TK TB TP TH TU TW TR
section
variable {X : Cx} {n : Nat}
theorem pwn_andK1 {a : Expr} {tA : TT} {pos : Pos} (ha : PTn n X a tA) : PWn n X (.BoolOp .And [a] pos) tA := by
  intro whole pins s σ H Q hn I h
  refine isTrue_and (thn (ha pins s σ H Q hn I h) fun c s1 e => ?_)
  cases c with
  | true => exact isTrue_and_nil e
  | false => exact e
theorem pwn_andK {a b : Expr} {rest : List Expr} {tA tB : TT} {pos : Pos} (ha : PTn n X a tA) (hb : PWn n X (.BoolOp .And (b :: rest) pos) tB) : PWn n X (.BoolOp .And (a :: b :: rest) pos) (tAnd tA tB) := by
  intro whole pins s σ H Q hn I h
  refine isTrue_and (thnN hn (ha pins s σ H _ hn I h) fun c s1 hn1 ⟨H1, I1, q1⟩ => ?_)
  cases c with
  | true => exact hb whole pins s1 σ H1 Q hn1 I1 q1
  | false => exact ⟨H1, I1, q1⟩
end
theorem cutV_dr1 (x : V) (xr : List V) : cutV (x :: xr) (some 1) none = xr := by
  unfold cutV
  have e : HT.sIx (x :: xr).length 0 (some (1 : Int)) = 1 := by
    have := HT.sIx_nat (x :: xr).length 0 1
    rw [show ((1 : Nat) : Int) = 1 from rfl] at this
    rw [this, List.length_cons]
    omega
  rw [e, HT.sIx_none, List.length_cons]
  show xr.take (xr.length + 1 - 1) = xr
  rw [Nat.add_sub_cancel, List.take_length]
theorem logOf_c (h w : Nat) : ∀ (u : List Nat) (g : Grid), (logOf h w g u).map Ent.c = u
  | [], _ => rfl
  | c :: u, g => by
    show c :: (logOf h w (TM.tilt h w g c) u).map Ent.c = c :: u
    rw [logOf_c h w u]
/-- what the law calls -/
structure L19 (P : Program) (w_ : World) (K : PySem.W.Frag) (mg : Str → Option Value) (base : Heap) (n : Nat) (D C CU : Addr) : Prop where
  rng : mg "range" = none
  dict : mg "dict" = none
  len : mg "len" = none
  ct : ClsT K mg D
  cw : ClsW K mg C
  dc : D ≠ C
  sf : PySem.W.selfFirst K D = true
  no : NoOp K C Operator.RShift.info.2
  rs : ∃ g, PySem.W.findIn K (.ref D) (PySem.dunder Operator.RShift.info.2) = some (some (.ref g)) ∧ PySem.W.isFn K (.ref g) = true ∧ FnRn n P w_ K mg base CX0 5 g (spRs K C D)
  mw : ∃ g fd, Mk K C g ∧ FnOk P w_ K mg base CX0 3 g fd ["self", "text"] (spWi C) ∧ Binds K fd ["self", "text"] []
  fRw : ∃ g fd, (∀ a ns, FnOk P w_ K mg base CX0 2 g fd ["_law_row", "_law_most"] (spRw K a ns)) ∧ PySem.W.keepIn K (.ref g) = true ∧ Binds K fd ["_law_row", "_law_most"] [] ∧ mg "_law_rows" = some (.ref g)
  fTx : ∃ g fd, (∀ a ns, FnOk P w_ K mg base CX0 2 g fd ["_law_row", "_law_most"] (spTx K a ns)) ∧ PySem.W.keepIn K (.ref g) = true ∧ Binds K fd ["_law_row", "_law_most"] [] ∧ mg "_law_text" = some (.ref g)
  fTy : ∃ g fd, FnOk P w_ K mg base CX0 6 g fd ["_law_rows_here"] (spTry K D) ∧ PySem.W.keepIn K (.ref g) = true ∧ Binds K fd ["_law_rows_here"] [] ∧ mg "_law_tray" = some (.ref g)
  fIw : ∃ g fd, FnOk P w_ K mg base CX0 6 g fd ["_law_tray_here"] (spIw K D) ∧ PySem.W.keepIn K (.ref g) = true ∧ Binds K fd ["_law_tray_here"] [] ∧ mg "_law_is_written" = some (.ref g)
  fLg : ∃ g, FnRn n P w_ K mg base CX0 9 g (spLg K D) ∧ PySem.W.keepIn K (.ref g) = true ∧ mg "_law_log" = some (.ref g)
  fFl : ∃ g, FnRn n P w_ K mg base CX0 6 g (spFx K D) ∧ PySem.W.keepIn K (.ref g) = true ∧ mg "first_log_error" = some (.ref g)
  m : ∃ p g fd, PropOf K D "marbles" p g ∧ FnOk P w_ K mg base CX0 1 g fd ["self"] (spMb K D) ∧ Binds K fd ["self"] []
  call : ∃ f, StX.CallO K D f ∧ FnR P w_ K mg base (L2.CX P w_) 4 f (spCl K D CU)
section
variable {P : Program} {w_ : World} {K : PySem.W.Frag} {mg : Str → Option Value} {base : Heap} {n : Nat} {D C CU : Addr}
abbrev NL9 : List Str := ["_law_script", "_law_row", "_law_turn", "_law_tray_here", "_law_text_here", "_law_other", "_law_later", "_law_log_here", "_law_more", "_law_wrong", "_law_end", "_law_one"]
theorem scL9 : FnScope NL9 ["_law_script"] (defScope sLaw) := ⟨rfl, rfl, rfl, by decide +kernel, rfl, by decide +kernel, by decide +kernel⟩
def spLaw19 (K : PySem.W.Frag) : Sp := fun vs H Q _ => ∃ (a : Addr) (ns : List Int), vs = [.ref a] ∧ SqL K H a (ns.map V.int) ∧ ∀ H', Q (.bl true) H'
theorem ok_law19 {f : Addr} {fd : FuncData} (F : Fun K "law" "law" sLaw f fd) (b : Binds K fd ["_law_script"] []) (J : L19 P w_ K mg base n D C CU) : FnRn n P w_ K mg base CX0 10 f (spLaw19 K) := by
  obtain ⟨gRw, fdRw, GRw, kRw, bRw, mRw⟩ := J.fRw
  obtain ⟨gTx, fdTx, GTx, kTx, bTx, mTx⟩ := J.fTx
  obtain ⟨gTy, fdTy, GTy, kTy, bTy, mTy⟩ := J.fTy
  obtain ⟨gIw, fdIw, GIw, kIw, bIw, mIw⟩ := J.fIw
  obtain ⟨gLg, GLg, kLg, mLg⟩ := J.fLg
  obtain ⟨gFl, GFl, kFl, mFl⟩ := J.fFl
  obtain ⟨gRs, hs, hf, GRs⟩ := J.rs
  obtain ⟨gWi, fdWi, MW, GWi, bWi⟩ := J.mw
  obtain ⟨pM, gM, fdM, PM, GM, bM⟩ := J.m
  obtain ⟨fCl, CO, GC⟩ := J.call
  have CT := J.ct
  have CW := J.cw
  have hDC := J.dc
  have sf := J.sf
  have NO := J.no
  refine fn_n F b scL9 (fun vs H Q E h => ?_) fun cdv A outer s H vs Q E hr h => ?_
  · obtain ⟨a, ns, rfl, _⟩ := h
    rfl
  · obtain ⟨a, ns, rfl, hS, k⟩ := h
    have nd := scL9.nd
    have r2 : Room 2 _ := hr.mono (by decide)
    have r4 : Room 4 _ := hr.mono (by decide)
    have r5 : Room 5 _ := hr.mono (by decide)
    have r6 : Room 6 _ := hr.mono (by decide)
    refine ⟨_, pssn_cut (PS.up (ps_set (i := 1) nd rfl (.inl rfl) (pe_lst (pa_cons (pv 0) (pa_cons pe_int (pa_cons pe_int (pa_cons pe_int pa_nil)))))))
      (pssn_cut (psn_for PassesOwn.never rfl (pi_range1 (by rfl) J.rng (pa_cons pe_int pa_nil)) (pg_name (i := 2) nd rfl (.inl rfl))
        (pssn_cut (PS.up (ps_par3 (i := 3) (j := 4) (l := 5) rfl nd rfl rfl rfl (by decide) (by decide) (by decide) rfl rfl rfl (pa_cons (pe_call GTy r6 rfl mTy kTy bTy .nil pass0 (pa_cons (pe_call (GRw a ns) r2 rfl mRw kRw bRw .nil pass0 (pa_cons (pv 1) (pa_cons pe_int pa_nil))) pa_nil)) (pa_cons (pe_call (GTx a ns) r2 rfl mTx kTx bTx .nil pass0 (pa_cons (pv 1) (pa_cons pe_int pa_nil))) (pa_cons (pe_call (GTx a ns) r2 rfl mTx kTx bTx .nil pass0 (pa_cons (pv 1) (pa_cons pe_int pa_nil))) pa_nil))) (by rfl)))
        (pssn_cut (psn_set (i := 6) nd rfl (.inl rfl) (pen_op (op_twoN hDC sf NO hs hf GRs r5 pass0) (PE.up (pv 3)) (PE.up (pe_make MW GWi r4 rfl CW.mgC bWi .nil pass0 (pa_cons (pv 4) pa_nil)))))
        (pssn_cut (PS.up (ps_if (PW.pt (pw_or (pt_not (pt_val (pe_call GIw r6 rfl mIw kIw bIw .nil pass0 (pa_cons (pv 3) pa_nil)))) (pw_or1 (pt_not (pt_val (pe_call GIw r6 rfl mIw kIw bIw .nil pass0 (pa_cons (pv 6) pa_nil))))))) pss_never pss_nil))
        (pssn_cut (psn_par (i := 7) (j := 8) rfl nd rfl rfl (by decide) rfl rfl (pan_cons (pen_call GLg hr rfl mLg kLg pass0 (pan_cons (PE.up (pv 3)) (pan_cons (PE.up (pv 4)) pan_nil))) (pan_cons (pen_call GLg hr rfl mLg kLg pass0 (pan_cons (PE.up (pv 6)) (pan_cons (PE.up (pv 5)) pan_nil))) pan_nil)) (by rfl))
        (pssn_cut (psn_if (PWn.pt (pwn_or (ptn_cmpR op_notN (pen_call GFl r6 rfl mFl kFl pass0 (pan_cons (PE.up (pv 3)) (pan_cons (PE.up (pe_op op_cat (pv 7) (pv 8))) pan_nil))) (PE.up pe_non) (nomark _)) (pwn_or1 (ptn_cmpR op_notN (pen_call GFl r6 rfl mFl kFl pass0 (pan_cons (PE.up (pv 6)) (pan_cons (PE.up (pv 8)) pan_nil))) (PE.up pe_non) (nomark _))))) (PSs.up pss_never) (PSs.up pss_nil))
        (pssn_cut (psn_if (PWn.pt (pwn_andK (ptn_cmpR op_ne (PE.up (pv 4)) (PE.up pe_str) (nomark _)) (pwn_andK1 (ptn_cmpR op_ne (pen_call GFl r6 rfl mFl kFl pass0 (pan_cons (PE.up (pv 3)) (pan_cons (PE.up (pe_op op_cat (pe_lst (pa_cons (pe_tup (pa_cons pe_str (pa_cons (pe_ix ix_tup (pe_ix ix_list (pv 7) pe_int (fun _ _ => rfl)) pe_int (fun _ _ => rfl)) pa_nil))) pa_nil)) (pe_slice sl_list (pv 7) (po_some pe_int) po_none))) pan_nil))) (PE.up pe_int) (nomark _))))) (PSs.up pss_never) (PSs.up pss_nil))
        (pssn_cut (psn_set (i := 9) nd rfl (.inl rfl) (pen_call GFl r6 rfl mFl kFl pass0 (pan_cons (PE.up (pv 3)) (pan_cons (PE.up (pv 8)) pan_nil))))
        (pssn_cut (PS.up (ps_if (PW.pt (pw_and (pt_cmpR op_notN (pv 9) pe_non (nomark _)) (pw_and1 (pt_not (pt_chain op_le op_lt pe_int (pv 9) (pe_callB call_len_seq (by rfl) J.len PySem.boot_len (pa_cons (pv 8) pa_nil))))))) pss_never pss_nil))
        (pssn_cut (psn_set (i := 10) nd rfl (.inr rfl) (pen_op (op_twoN hDC sf NO hs hf GRs r5 pass0) (PE.up (pv 3)) (PE.up (pe_make MW GWi r4 rfl CW.mgC bWi .nil pass0 (pa_cons (pv 5) pa_nil)))))
        (pssn_one (PS.up (ps_if (PW.pt (pw_and (pt_cmpR op_isN (pv 9) pe_non (nomark _)) (pw_and (pt_cmpR (op_neN hr.units) (pv 8) (pe_lst pa_nil) (nomark _)) (pw_and1 (pt_cmpR (op_neDD hr.units) (pe_callTy (call_dictP rfl) (by rfl) J.dict (by decide +kernel) (pa_cons (pe_lc (own := [("_law_one", 11)]) (g := gName 11) (tt := tYes) rfl nd (pi_str (pe_prop (pv 3) CT.cl PM GM r2 bM .nil pass0 rfl)) (blkOk_by (N := NL9) (sc := defScope sLaw) (by decide +kernel)) (fun _ _ _ _ _ => pg_name (i := 11) nd rfl (.inl rfl)) (fun _ _ _ _ _ => pts_nil) (fun _ _ _ _ _ => pe_tup (pa_cons (pv 11) (pa_cons (pe_callO (pv 10) CO GC r4 passL (pa_cons (pv 11) pa_nil)) pa_nil)))) pa_nil)) (pe_ix ix_tup (pe_ix ix_list (pv 8) (pe_un un_neg pe_int) (fun _ _ => rfl)) pe_int (fun _ _ => rfl)) (nomark _)))))) pss_never pss_nil)))))))))))))
      (pssn_one (PS.up (ps_ret pe_bl)))), ?_⟩
    refine ⟨fun σ H1 => ∃ r, σ = [some (.ref a), some (.ref r), none, none, none, none, none, none, none, none, none, none] ∧ RowAt K a ns H1 r, ?_, ?_⟩
    · refine ⟨_, rfl, (by show 4 ≤ sizeLine; decide), fun r hr => ⟨r, rfl, 0, 0, 0, upd_same, by omega, ?_⟩⟩
      exact (same_new hr).seq hS
    rintro σ H1 ⟨r, rfl, R1⟩
    refine ⟨fun σ H2 => True, ?_, fun σ H2 _ => k H2⟩
    refine ⟨3, rfl, by decide, by decide, for_range (lo := 0) (n := (3 : Int).toNat) (fun i σ H3 => ∃ v2 v3 v4 v5 v6 v7 v8 v9 v10 v11, σ = [some (.ref a), some (.ref r), v2, v3, v4, v5, v6, v7, v8, v9, v10, v11] ∧ RowAt K a ns H3 r) ⟨none, none, none, none, none, none, none, none, none, none, rfl, R1⟩ ?_ fun _ _ _ => trivial⟩
    rintro i σ H3 hi ⟨v2, v3, v4, v5, v6, v7, v8, v9, v10, v11, rfl, R3⟩
    -- a tray, two texts
    refine ⟨fun σ H4 => ∃ p t u h w g, σ = [some (.ref a), some (.ref r), some (.int (0 + (i : Nat))), some (.ref p), some (.str (S t)), some (.str (S u)), v6, v7, v8, v9, v10, v11] ∧ RowAt K a ns H4 r ∧ TrayAt K D H4 p g ∧ VG h w g ∧ (∀ c ∈ t, isT c = true) ∧ t.length ≤ 9 ∧ (∀ c ∈ u, isT c = true) ∧ u.length ≤ 9, ?_, ?_⟩
    · refine ⟨_, rfl, r, 20, rfl, R3, by decide, fun H4 l h w g hV hl R4 b4 => ⟨l, h, w, g, rfl, hV, hl, fun H5 p s5 T5 => ?_⟩⟩
      have R5 := R4.same s5
      obtain ⟨i5, se5, re5, hr5, _⟩ := id R5
      refine ⟨_, rfl, r, 9, rfl, R5, by decide, fun H6 t gt lt R6 b6 => ?_⟩
      obtain ⟨i6, se6, re6, hr6, _⟩ := id R6
      refine ⟨_, rfl, r, 9, rfl, R6, by decide, fun H7 u gu lu R7 b7 => ⟨_, _, _, rfl, ?_⟩⟩
      exact ⟨p, t, u, h, w, g, rfl, R7, tray_but (tray_but T5 hr5 b6) hr6 b7, hV, gt.2, lt, gu.2, lu⟩
    rintro σ H4 ⟨p, t, u, h, w, g, rfl, R4, T4, hV, ht, t9, hu, u9⟩
    have Mgs : ∀ u, srt (mb (tilts h w u g).flatten) = srt (mb g.flatten) := fun u => srt_perm2 ((like_tilts u hV.rc).pm)
    have Vg : ∀ u, VG h w (tilts h w u g) := fun u => VG.tilts _ hV
    -- the tray later
    refine ⟨fun σ H5 => ∃ p2, σ = [some (.ref a), some (.ref r), some (.int (0 + (i : Nat))), some (.ref p), some (.str (S t)), some (.str (S u)), some (.ref p2), v7, v8, v9, v10, v11] ∧ Same H4 H5 ∧ TrayAt K D H5 p2 (tilts h w t g), ?_, ?_⟩
    · refine ⟨_, rfl, _, rfl, ?_⟩
      intro x dx nx ndx nex
      refine ⟨x, dx, t, rfl, upd_same, ⟨Nat.le_trans t9 (by decide), ht⟩, fun H5 hw kp => ⟨rfl, ?_⟩⟩
      have s5 := Same.made nx ndx kp
      have T5 := T4.same s5
      obtain ⟨d1, a1, h1, _⟩ := id T5
      obtain ⟨d2, h2⟩ := id hw
      exact ⟨p, d1, _, x, d2, _, rfl, rfl, h1, h2, p, x, h, w, g, t, rfl, T5, hV, hw, fun H6 p2 s6 t6 => ⟨p2, rfl, s5.trans s6, t6⟩⟩
    rintro σ H5 ⟨p2, rfl, s5, T5⟩
    -- they are written
    refine ⟨fun σ H6 => σ = [some (.ref a), some (.ref r), some (.int (0 + (i : Nat))), some (.ref p), some (.str (S t)), some (.str (S u)), some (.ref p2), v7, v8, v9, v10, v11] ∧ Same H5 H6, ?_, ?_⟩
    · exact ⟨_, rfl, p, h, w, g, rfl, T4.same s5, hV, fun H6 s6 => ⟨true, rfl, iteF ⟨_, rfl, p2, h, w, _, rfl, T5.same s6, Vg t, fun H7 s7 => ⟨true, rfl, iteF ⟨rfl, s6.trans s7⟩⟩⟩⟩⟩
    rintro σ H6 ⟨rfl, s6⟩
    have T6 := T5.same s6
    have T46 := T4.same (s5.trans s6)
    -- the logs
    refine ⟨fun σ H7 => ∃ l1 l2 xs1 xs2, σ = [some (.ref a), some (.ref r), some (.int (0 + (i : Nat))), some (.ref p), some (.str (S t)), some (.str (S u)), some (.ref p2), some (.ref l1), some (.ref l2), v9, v10, v11] ∧ Same H6 H7 ∧ H7 l1 = some (.lst xs1) ∧ H7 l2 = some (.lst xs2) ∧ All2 (EntAt K H7 (srt (mb g.flatten))) xs1 (logOf h w g t) ∧ All2 (EntAt K H7 (srt (mb g.flatten))) xs2 (logOf h w (tilts h w t g) u), ?_, ?_⟩
    · refine ⟨_, rfl, _, rfl, p, h, w, g, t, rfl, T46, hV, ht, Nat.le_trans t9 (by decide), fun H7 l1 xs1 s7 e1 a1 => ⟨_, rfl, _, rfl, p2, h, w, _, u, rfl, T6.same s7, Vg t, hu, Nat.le_trans u9 (by decide), fun H8 l2 xs2 s8 e2 a2 => ⟨_, _, rfl, l1, l2, xs1, xs2, rfl, s7.trans s8, s8 _ _ e1, e2, a1.imp fun _ _ z => z.same s8, ?_⟩⟩⟩
      rw [Mgs] at a2
      exact a2
    rintro σ H7 ⟨l1, l2, xs1, xs2, rfl, s7, e1, e2, a1, a2⟩
    have s47 := (s5.trans s6).trans s7
    have T7 := T4.same s47
    have T27 := T6.same s7
    have n1 : xs1.length ≤ 9 := by rw [a1.1, logOf_len]; exact t9
    have n2 : xs2.length ≤ 9 := by rw [a2.1, logOf_len]; exact u9
    -- the logs are true
    refine ⟨fun σ H8 => σ = [some (.ref a), some (.ref r), some (.int (0 + (i : Nat))), some (.ref p), some (.str (S t)), some (.str (S u)), some (.ref p2), some (.ref l1), some (.ref l2), v9, v10, v11] ∧ Same H7 H8, ?_, ?_⟩
    · refine ⟨_, rfl, _, rfl, _, rfl, l1, l2, xs1, xs2, rfl, rfl, e1, e2, by show _ ≤ 16777216; omega, fun q hq => ?_⟩
      have sq := same_new (o := .lst (xs1 ++ xs2)) hq
      refine ⟨p, q, h, w, g, logOf h w g t ++ logOf h w (tilts h w t g) u, xs1 ++ xs2, rfl, T7.same sq, hV, SqL.of upd_same, All2.app (a1.imp fun _ _ z => z.same sq) (a2.imp fun _ _ z => z.same sq), fun H8 s8 => ?_⟩
      have s78 := sq.trans s8
      rw [← logOf_app, flX_log _ _ _ (fun c hc => (List.mem_append.mp hc).elim (ht c) (hu c))]
      refine ⟨rfl, false, rfl, iteF ⟨_, rfl, _, rfl, p2, l2, h, w, _, logOf h w (tilts h w t g) u, xs2, rfl, T27.same s78, Vg t, SqL.of (s78 _ _ e2), ?_, fun H9 s9 => ?_⟩⟩
      · rw [Mgs]
        exact a2.imp fun _ _ z => z.same s78
      · rw [flX_log _ _ _ hu]
        exact ⟨rfl, false, rfl, iteF ⟨rfl, s78.trans s9⟩⟩
    rintro σ H8 ⟨rfl, s8⟩
    -- another letter
    refine ⟨fun σ H9 => σ = [some (.ref a), some (.ref r), some (.int (0 + (i : Nat))), some (.ref p), some (.str (S t)), some (.str (S u)), some (.ref p2), some (.ref l1), some (.ref l2), v9, v10, v11] ∧ Same H7 H9, ?_, ?_⟩
    · rcases t with _ | ⟨c, t'⟩
      · exact ⟨_, rfl, rfl, false, rfl, iteF (iteF ⟨rfl, s8⟩)⟩
      · obtain ⟨x, xr, rfl⟩ : ∃ x xr, xs1 = x :: xr := by
          cases xs1 with
          | nil => exact absurd a1.1 (by rw [logOf_len]; simp)
          | cons x xr => exact ⟨x, xr, rfl⟩
        have ax := a1.2 0 x _ rfl rfl
        have ar : All2 (EntAt K H7 (srt (mb g.flatten))) xr (logOf h w (TM.tilt h w g c) t') := ⟨Nat.succ.inj a1.1, fun k y z h1 h2 => a1.2 (k + 1) y z h1 h2⟩
        obtain ⟨ta, d, qa, rfl, hS1, hD1⟩ := ax
        have hS8 := s8.tup hS1
        have nE : V.str (S (c :: t')) ≠ V.str (Str.ofString "") := fun e => by
          have := congrArg Str.length (V.str.inj e)
          rw [S_len, show (Str.ofString "").length = 0 from rfl, List.length_cons] at this
          omega
        refine ⟨_, rfl, rfl, true, by rw [decide_eq_false nE]; rfl, iteT ?_⟩
        refine ⟨_, rfl, _, rfl, l1, _, _, _, rfl, rfl, SqL.of (s8 _ _ e1), atI_nat (j := 0) rfl, ta, _, _, _, rfl, rfl, hS8, atI_nat (j := 1) rfl, by show 2 ≤ sizeLine; decide, fun T_ hT => ⟨by show 1 ≤ sizeLine; decide, fun q1 hq1 => ?_⟩⟩
        have sT := same_new (o := .tup [V.str (Str.ofString "x"), V.ref d]) hT
        have s1 := same_new (o := .lst [V.ref T_]) hq1
        have s81 := (s8.trans sT).trans s1
        refine ⟨_, rfl, _, rfl, l1, _, rfl, SqL.of (s81 _ _ e1), fun q2 hq2 => ?_⟩
        rw [cutV_dr1]
        have s2 := same_new (o := .lst xr) hq2
        refine ⟨q1, q2, [V.ref T_], xr, rfl, rfl, s2 _ _ upd_same, upd_same, ?_, fun q3 hq3 => ?_⟩
        · rw [List.length_cons] at n1
          show 1 + xr.length ≤ 16777216
          omega
        have s3 := same_new (o := .lst ([V.ref T_] ++ xr)) hq3
        have s83 := (s81.trans s2).trans s3
        refine ⟨p, q3, h, w, g, ⟨120, (entA w (TM.tilt h w g c) c).pr, (entA w (TM.tilt h w g c) c).pc⟩ :: logOf h w (TM.tilt h w g c) t', [V.ref T_] ++ xr, rfl, T7.same s83, hV, SqL.of upd_same, ?_, fun H9 s9 => ⟨rfl, false, rfl, iteF ⟨rfl, s83.trans s9⟩⟩⟩
        refine ⟨congrArg (· + 1) ar.1, fun k y z h1 h2 => ?_⟩
        cases k with
        | zero =>
          cases h1
          cases h2
          exact ⟨T_, d, qa, rfl, SqT.of (s3 _ _ (s2 _ _ (s1 _ _ upd_same))), hD1.same s83⟩
        | succ k => exact (ar.2 k y z h1 h2).same s83
    rintro σ H9 ⟨rfl, s9⟩
    -- the later log
    refine ⟨fun σ H10 => σ = [some (.ref a), some (.ref r), some (.int (0 + (i : Nat))), some (.ref p), some (.str (S t)), some (.str (S u)), some (.ref p2), some (.ref l1), some (.ref l2), some (flX h w (srt (mb g.flatten)) g (logOf h w (tilts h w t g) u) 0), v10, v11] ∧ Same H7 H10, ?_, ?_⟩
    · exact ⟨_, rfl, _, rfl, p, l2, h, w, g, logOf h w (tilts h w t g) u, xs2, rfl, T7.same s9, hV, SqL.of (s9 _ _ e2), a2.imp fun _ _ z => z.same s9, fun H10 s10 => ⟨rfl, s9.trans s10⟩⟩
    rintro σ H10 ⟨rfl, s10⟩
    have two := flX_two (h := h) (w := w) (M := srt (mb g.flatten)) (logOf h w (tilts h w t g) u) g 0
    generalize flX h w (srt (mb g.flatten)) g (logOf h w (tilts h w t g) u) 0 = wr at two
    refine ⟨fun σ H11 => σ = [some (.ref a), some (.ref r), some (.int (0 + (i : Nat))), some (.ref p), some (.str (S t)), some (.str (S u)), some (.ref p2), some (.ref l1), some (.ref l2), some wr, v10, v11] ∧ Same H7 H11, ?_, ?_⟩
    · rcases two with ⟨rfl, _⟩ | ⟨k', rfl, hk1, hk2⟩
      · exact ⟨_, rfl, rfl, false, rfl, iteF (iteF ⟨rfl, s10⟩)⟩
      · refine ⟨_, rfl, rfl, true, rfl, iteT ⟨_, rfl, _, _, rfl, rfl, true, congrArg V.bl (decide_eq_true (by omega)), iteT ⟨_, rfl, l2, _, rfl, .inl (SqL.of (s10 _ _ e2)), _, _, rfl, rfl, true, ?_, iteF ⟨rfl, s10⟩⟩⟩⟩
        rw [← a2.1] at hk2
        exact congrArg V.bl (decide_eq_true (by omega))
    rintro σ H11 ⟨rfl, s11⟩
    -- the end
    refine ⟨fun σ H12 => ∃ pe, σ = [some (.ref a), some (.ref r), some (.int (0 + (i : Nat))), some (.ref p), some (.str (S t)), some (.str (S u)), some (.ref p2), some (.ref l1), some (.ref l2), some wr, some (.ref pe), v11] ∧ Same H7 H12 ∧ TrayAt K D H12 pe (tilts h w u g), ?_, ?_⟩
    · refine ⟨_, rfl, _, rfl, ?_⟩
      intro x dx nx ndx nex
      refine ⟨x, dx, u, rfl, upd_same, ⟨Nat.le_trans u9 (by decide), hu⟩, fun H12 hw kp => ⟨rfl, ?_⟩⟩
      have s12 := Same.made nx ndx kp
      have T12 := (T7.same s11).same s12
      obtain ⟨d1, a1, h1, _⟩ := id T12
      obtain ⟨d2, h2⟩ := id hw
      exact ⟨p, d1, _, x, d2, _, rfl, rfl, h1, h2, p, x, h, w, g, u, rfl, T12, hV, hw, fun H6 p2 s6 t6 => ⟨p2, rfl, (s11.trans s12).trans s6, t6⟩⟩
    rintro σ H12 ⟨pe, rfl, s12, T12⟩
    have R12 := (R4.same s47).same s12
    rcases two with ⟨rfl, hlast⟩ | ⟨k', rfl, hk1, hk2⟩
    · refine ⟨_, rfl, rfl, true, rfl, iteT ⟨_, rfl, by show 0 ≤ sizeLine; decide, fun q hq => ⟨l2, q, xs2, rfl, rfl, SqL.of (same_new hq _ _ (s12 _ _ e2)), SqL.of upd_same, ?_⟩⟩⟩
      have sQ := same_new (o := .lst ([] : List V)) hq
      rcases xs2.eq_nil_or_concat with rfl | ⟨ys, x, ex⟩
      · exact ⟨false, rfl, iteF (iteF ⟨_, _, _, _, _, _, _, _, _, _, rfl, R12.same sQ⟩)⟩
      rw [List.concat_eq_append] at ex
      subst ex
      refine ⟨true, by simp, iteT ?_⟩
      have s13 := s12.trans sQ
      have ln2 : (logOf h w (tilts h w t g) u).length = ys.length + 1 := by
        rw [← a2.1]
        simp
      obtain ⟨e, he⟩ : ∃ e, (logOf h w (tilts h w t g) u)[ys.length]? = some e := ⟨_, List.getElem?_eq_getElem (by omega)⟩
      have hg : (logOf h w (tilts h w t g) u).getLast? = some e := by rw [List.getLast?_eq_getElem?, ln2]; exact he
      have hr := hlast e hg
      rw [show tiltsE h w g (logOf h w (tilts h w t g) u) = tilts h w u g by unfold tiltsE; rw [logOf_c]] at hr
      have hr2 := of_decide_eq_true hr
      obtain ⟨ta, d, qb, rfl, hSx, hP⟩ := a2.2 ys.length x e (by simp) he
      have lS : (srt (mb g.flatten)).length = (mb g.flatten).length := (srt_perm _).length_eq
      have ndS : (srt (mb g.flatten)).Nodup := (srt_perm _).nodup_iff.mpr hV.nd
      have m26 := mb_26 hV
      have T13 := T7.same s13
      have T12' := T12.same sQ
      obtain ⟨d0, a0, h0, _⟩ := id T13
      refine ⟨_, rfl, p, d0, _, rfl, h0, p, h, w, g, rfl, T13, hV, fun H14 s14 => ⟨_, rfl, fun D1 hD1 => ?_⟩⟩
      refine lc_it (walk_str (z := S (srt (mb g.flatten)))) (fun i H8 => ∃ ps qn, Same H14 H8 ∧ PdAt H8 D1 w (fun m => (tilts h w u g).flatten.idxOf m) ((srt (mb g.flatten)).take i) ps qn)
        ⟨fun _ => 0, fun _ => 0, same_new hD1, upd_same, fun m hm => by simp at hm⟩ (fun _ _ _ _ => True.intro) ?_ ?_
      · rintro i x H9 H8 hi ⟨ps, qn, s8, hP⟩ ⟨rfl, m, hm, rfl⟩
        rw [S_at] at hm
        have hcM : m ∈ mb (tilts h w u g).flatten := mem_srt.mp (by rw [Mgs]; exact List.mem_of_getElem? hm)
        have T2 := T12'.same (s14.trans s8)
        obtain ⟨d2, a2, e2, _⟩ := id T2
        refine ⟨rfl, _, rfl, _, rfl, pe, rfl, _, rfl, ⟨d2, _, e2⟩, call_ok T2 (Vg _) hcM fun H4 q4 s4 hq hq' => ?_⟩
        refine ⟨(by show 2 ≤ sizeLine; decide), fun T_ hT => ?_⟩
        have st := same_new (o := .tup [sg m, V.ref q4]) hT
        obtain ⟨ps', qn', z1, z2⟩ := pd_step (T := T_) (q2 := q4) ndS hm hD1 ((hP.same s4).same st) ((s8.trans s4).trans st) upd_same (by rw [upd_ne (ne_of_none hq' hT)]; exact hq')
        refine ⟨_, ((hP.same s4).same st).1, ?_, ps', qn', z1, z2⟩
        rw [List.length_map, List.length_take]
        show _ < 16777216
        omega
      rintro H15 ⟨ps, qn, s15, hP15⟩
      rw [S_size, List.take_length] at hP15
      obtain ⟨da, das, dkv, d1, d2, d3, d4⟩ := pd_dict2 (K := K) hP15 ndS
      refine ⟨da, das, dkv, d1, d2, d3, fun e' he' => ?_⟩
      obtain ⟨s3, qa, hM⟩ := d4 e' he'
      have sZ := ((s13.trans s14).trans s15).trans s3
      have hPz := hP.same sZ
      have aL : atI (ys ++ [V.ref ta]) (-1) = some (V.ref ta) := atI_last _ _
      have aD : atI ([sg e.c, V.ref d] : List V) 1 = some (V.ref d) := atI_nat (j := 1) rfl
      refine ⟨_, rfl, _, rfl, l2, ys ++ [V.ref ta], -1, V.ref ta, rfl, rfl, SqL.of (sZ _ _ e2), aL, ?_⟩
      refine ⟨ta, [sg e.c, V.ref d], 1, V.ref d, rfl, rfl, sZ.tup hSx, aD, ?_⟩
      refine ⟨e', d, _, _, rfl, rfl, hM.1, hPz.1, by unfold mkv; rw [List.length_map, List.length_map], fun z hz => ?_, false, rfl, iteF ⟨_, _, _, _, _, _, _, _, _, _, rfl, R4.same (s47.trans sZ)⟩⟩
      obtain ⟨m, hm, rfl⟩ := List.mem_map.mp hz
      have val : valV (mkv (srt (mb g.flatten)) qb) (Sum.inr (S [m])) = some (V.ref (qb m)) := valV_at (f := fun m => (Sum.inr (S [m]) : Key)) (v := fun m => V.ref (qb m)) hm fun b hb e' => key_inj e'
      have w0 := hV.m1
      have em := hr2 m hm
      have hq2 := hPz.2 m hm
      rw [em.1, em.2] at hq2
      exact ⟨V.ref (qb m), plD w ((tilts h w u g).flatten.idxOf m), val, pl_dp (hM.2 m hm), pl_dp (w := w) (k := (tilts h w u g).flatten.idxOf m) hq2, pl_well _ _⟩
    · exact ⟨_, rfl, rfl, false, rfl, iteF (iteF ⟨_, _, _, _, _, _, _, _, _, _, rfl, R12⟩)⟩
end
end TI
end
section
set_option Elab.async false
set_option maxRecDepth 100000
set_option linter.all false
namespace TI
open PySem PySem.Spec PyProof.Rows L2 LamX TM TX TK TB TP TH TU TW TR
set_option maxHeartbeats 4000000
theorem all_mk {P : Program} {w : World} {K : PySem.W.Frag} {h : Heap} {mg : Str → Option Value} {fa : Addr} {C D fIt fFw fWi fWt qWt fTi fTo qTo fRs fFc fIr fTd fSl fTr qTr fTe fMb qMb fWd qWd fHt qHt fTc fCl fNu fPl fCv fAt V fIl fWc fAk fAp fAl fIo fPr qPr fEs fMt fMp fMk fUn fHi qHi fLv fRp qRp fLx fAy aA aS fCk fPk fUp fRd fEn fDe fBd fDr fKl fPd fMz fPo fFl fTk fRw fTx fTy fIw fLg fLw e2 fIx2 cc2 cdIx2 N2 e3 : Addr} {tAR tAC t0 tLE tMS tMX taStilt taSput taStake tMY tFB tHS tFC tCM : Tok} {zAR zAC zEM zLE : Str} {iMS iMX iaStilt iaSput iaStake iMY iFB iHS iFC iCM : Int}
    {odIt anIt : Option Addr} {slIt : Array (Option Value)} {ocIt kVIt dcIt pmIt cdIt ctIt : Value} {odFw anFw : Option Addr} {slFw : Array (Option Value)} {ocFw kVFw dcFw pmFw cdFw ctFw : Value} {odWi anWi : Option Addr} {slWi : Array (Option Value)} {ocWi kVWi dcWi pmWi cdWi ctWi : Value} {rWt : List Value} {odWt anWt : Option Addr} {slWt : Array (Option Value)} {ocWt kVWt dcWt pmWt cdWt ctWt : Value} {odTi anTi : Option Addr} {slTi : Array (Option Value)} {ocTi kVTi dcTi pmTi cdTi ctTi : Value} {rTo : List Value} {odTo anTo : Option Addr} {slTo : Array (Option Value)} {ocTo kVTo dcTo pmTo cdTo ctTo : Value} {odRs anRs : Option Addr} {slRs : Array (Option Value)} {ocRs kVRs dcRs pmRs cdRs ctRs : Value} {odFc anFc : Option Addr} {slFc : Array (Option Value)} {ocFc kVFc dcFc pmFc cdFc ctFc : Value} {odIr anIr : Option Addr} {slIr : Array (Option Value)} {ocIr kVIr dcIr pmIr cdIr ctIr : Value} {odTd anTd : Option Addr} {slTd : Array (Option Value)} {ocTd kVTd dcTd pmTd cdTd ctTd : Value} {odSl anSl : Option Addr} {slSl : Array (Option Value)} {ocSl kVSl dcSl pmSl cdSl ctSl : Value} {rTr : List Value} {odTr anTr : Option Addr} {slTr : Array (Option Value)} {ocTr kVTr dcTr pmTr cdTr ctTr : Value} {odTe anTe : Option Addr} {slTe : Array (Option Value)} {ocTe kVTe dcTe pmTe cdTe ctTe : Value} {rMb : List Value} {odMb anMb : Option Addr} {slMb : Array (Option Value)} {ocMb kVMb dcMb pmMb cdMb ctMb : Value} {rWd : List Value} {odWd anWd : Option Addr} {slWd : Array (Option Value)} {ocWd kVWd dcWd pmWd cdWd ctWd : Value} {rHt : List Value} {odHt anHt : Option Addr} {slHt : Array (Option Value)} {ocHt kVHt dcHt pmHt cdHt ctHt : Value} {odTc anTc : Option Addr} {slTc : Array (Option Value)} {ocTc kVTc dcTc pmTc cdTc ctTc : Value} {odCl anCl : Option Addr} {slCl : Array (Option Value)} {ocCl kVCl dcCl pmCl cdCl ctCl : Value} {odNu anNu : Option Addr} {slNu : Array (Option Value)} {ocNu kVNu dcNu pmNu cdNu ctNu : Value} {odPl anPl : Option Addr} {slPl : Array (Option Value)} {ocPl kVPl dcPl pmPl cdPl ctPl : Value} {odCv anCv : Option Addr} {slCv : Array (Option Value)} {ocCv kVCv dcCv pmCv cdCv ctCv : Value} {odAt anAt : Option Addr} {slAt : Array (Option Value)} {ocAt kVAt dcAt pmAt cdAt ctAt : Value} {cdC : ClassData} {odIl anIl : Option Addr} {slIl : Array (Option Value)} {ocIl kVIl dcIl pmIl cdIl ctIl : Value} {odWc anWc : Option Addr} {slWc : Array (Option Value)} {ocWc kVWc dcWc pmWc cdWc ctWc : Value} {odAk anAk : Option Addr} {slAk : Array (Option Value)} {ocAk kVAk dcAk pmAk cdAk ctAk : Value} {odAp anAp : Option Addr} {slAp : Array (Option Value)} {ocAp kVAp dcAp pmAp cdAp ctAp : Value} {odAl anAl : Option Addr} {slAl : Array (Option Value)} {ocAl kVAl dcAl pmAl cdAl ctAl : Value} {odIo anIo : Option Addr} {slIo : Array (Option Value)} {ocIo kVIo dcIo pmIo cdIo ctIo : Value} {rPr : List Value} {odPr anPr : Option Addr} {slPr : Array (Option Value)} {ocPr kVPr dcPr pmPr cdPr ctPr : Value} {odEs anEs : Option Addr} {slEs : Array (Option Value)} {ocEs kVEs dcEs pmEs cdEs ctEs : Value} {odMt anMt : Option Addr} {slMt : Array (Option Value)} {ocMt kVMt dcMt pmMt cdMt ctMt : Value} {odMp anMp : Option Addr} {slMp : Array (Option Value)} {ocMp kVMp dcMp pmMp cdMp ctMp : Value} {odMk anMk : Option Addr} {slMk : Array (Option Value)} {ocMk kVMk dcMk pmMk cdMk ctMk : Value} {odUn anUn : Option Addr} {slUn : Array (Option Value)} {ocUn kVUn dcUn pmUn cdUn ctUn : Value} {rHi : List Value} {odHi anHi : Option Addr} {slHi : Array (Option Value)} {ocHi kVHi dcHi pmHi cdHi ctHi : Value} {odLv anLv : Option Addr} {slLv : Array (Option Value)} {ocLv kVLv dcLv pmLv cdLv ctLv : Value} {rRp : List Value} {odRp anRp : Option Addr} {slRp : Array (Option Value)} {ocRp kVRp dcRp pmRp cdRp ctRp : Value} {odLx anLx : Option Addr} {slLx : Array (Option Value)} {ocLx kVLx dcLx pmLx cdLx ctLx : Value} {odAy anAy : Option Addr} {slAy : Array (Option Value)} {ocAy kVAy dcAy pmAy cdAy ctAy : Value} {esaA : Array DictEntry} {naA : Nat} {esaS : Array DictEntry} {naS : Nat} {odCk anCk : Option Addr} {slCk : Array (Option Value)} {ocCk kVCk dcCk pmCk cdCk ctCk : Value} {odPk anPk : Option Addr} {slPk : Array (Option Value)} {ocPk kVPk dcPk pmPk cdPk ctPk : Value} {odUp anUp : Option Addr} {slUp : Array (Option Value)} {ocUp kVUp dcUp pmUp cdUp ctUp : Value} {odRd anRd : Option Addr} {slRd : Array (Option Value)} {ocRd kVRd dcRd pmRd cdRd ctRd : Value} {odEn anEn : Option Addr} {slEn : Array (Option Value)} {ocEn kVEn dcEn pmEn cdEn ctEn : Value} {odDe anDe : Option Addr} {slDe : Array (Option Value)} {ocDe kVDe dcDe pmDe cdDe ctDe : Value} {odBd anBd : Option Addr} {slBd : Array (Option Value)} {ocBd kVBd dcBd pmBd cdBd ctBd : Value} {odDr anDr : Option Addr} {slDr : Array (Option Value)} {ocDr kVDr dcDr pmDr cdDr ctDr : Value} {odKl anKl : Option Addr} {slKl : Array (Option Value)} {ocKl kVKl dcKl pmKl cdKl ctKl : Value} {odPd anPd : Option Addr} {slPd : Array (Option Value)} {ocPd kVPd dcPd pmPd cdPd ctPd : Value} {odMz anMz : Option Addr} {slMz : Array (Option Value)} {ocMz kVMz dcMz pmMz cdMz ctMz : Value} {odPo anPo : Option Addr} {slPo : Array (Option Value)} {ocPo kVPo dcPo pmPo cdPo ctPo : Value} {odFl anFl : Option Addr} {slFl : Array (Option Value)} {ocFl kVFl dcFl pmFl cdFl ctFl : Value} {odTk anTk : Option Addr} {slTk : Array (Option Value)} {ocTk kVTk dcTk pmTk cdTk ctTk : Value} {odRw anRw : Option Addr} {slRw : Array (Option Value)} {ocRw kVRw dcRw pmRw cdRw ctRw : Value} {odTx anTx : Option Addr} {slTx : Array (Option Value)} {ocTx kVTx dcTx pmTx cdTx ctTx : Value} {odTy anTy : Option Addr} {slTy : Array (Option Value)} {ocTy kVTy dcTy pmTy cdTy ctTy : Value} {odIw anIw : Option Addr} {slIw : Array (Option Value)} {ocIw kVIw dcIw pmIw cdIw ctIw : Value} {odLg anLg : Option Addr} {slLg : Array (Option Value)} {ocLg kVLg dcLg pmLg cdLg ctLg : Value} {odLw anLw : Option Addr} {slLw : Array (Option Value)} {ocLw kVLw dcLw pmLw cdLw ctLw : Value} {tfX2 : Tok} {fileX2 nm2 q2 : Str} {bs2 bm2 sub2 : List Value} {sn2 : List Str} {ab2 : Bool} {col2 : Option Bool} {dd2 : Option Addr} {m02 m12 m22 m32 m52 : Option Value} {odIx2 anIx2 cdd2 cld02 : Option Addr} {slIx2 ccs2 csl02 : Array (Option Value)} {vsx2 : Array Value} {ocIx2 kVIx2 dcIx2 pmIx2 ctIx2 ccl2 cl02 : Value}
    (X : K.In h) (G : h.Ns mainGlobals mg) (hfa : mg "law" = some (.ref fa))
    (aC : PySem.W.nsIn K mainGlobals "Word" = some (some (.ref C)))
    (pgC : PySem.W.plainGet K C Str.empty = true)
    (hdC : PySem.W.hasDictIn K C = true)
    (poC : PySem.W.plainOver K C = true)
    (saC : PySem.W.findIn K (.ref C) "__setattr__" = some (some (.builtin "object.__setattr__")))
    (mkC : PySem.W.makesIn K C = true)
    (kcC : PySem.W.keepIn K (.ref C) = true)
    (rdC : PySem.W.readsIn K C (.type "type") = true)
    (gaC : PySem.W.specialIn K (.ref C) "__getattribute__" = some (some (.builtin "type.__getattribute__")))
    (aD : PySem.W.nsIn K mainGlobals "Tray" = some (some (.ref D)))
    (pgD : PySem.W.plainGet K D Str.empty = true)
    (hdD : PySem.W.hasDictIn K D = true)
    (poD : PySem.W.plainOver K D = true)
    (saD : PySem.W.findIn K (.ref D) "__setattr__" = some (some (.builtin "object.__setattr__")))
    (mkD : PySem.W.makesIn K D = true)
    (kcD : PySem.W.keepIn K (.ref D) = true)
    (rdD : PySem.W.readsIn K D (.type "type") = true)
    (gaD : PySem.W.specialIn K (.ref D) "__getattribute__" = some (some (.builtin "type.__getattribute__")))
    (cAR : PySem.W.nsIn K mainGlobals "ALONG_ROWS" = some (some (.str zAR tAR)))
    (cAC : PySem.W.nsIn K mainGlobals "ALONG_COLUMNS" = some (some (.str zAC tAC)))
    (cEM : PySem.W.nsIn K mainGlobals "EMPTY" = some (some (.str zEM t0)))
    (cLE : PySem.W.nsIn K mainGlobals "LETTERS" = some (some (.str zLE tLE)))
    (cMS : PySem.W.nsIn K mainGlobals "MAX_SIDE" = some (some (.int iMS tMS)))
    (nT : PySem.W.findIn K (.ref C) "_text" = some none)
    (nR : PySem.W.findIn K (.ref D) "_rows" = some none)
    (ih : PySem.W.findIn K (.ref C) "__class__" = some (some (.builtin "object.__class__")))
    (in_ : PySem.W.specialIn K (.builtin "object.__class__") "__get__" = some (some (.builtin "getset_descriptor.__get__")))
    (itk : PySem.W.takesIn K (.builtin "object.__class__") = some true)
    (im : PySem.W.mroIn K C (.type "object") = some true)
    (ihD : PySem.W.findIn K (.ref D) "__class__" = some (some (.builtin "object.__class__")))
    (imD : PySem.W.mroIn K D (.type "object") = some true)
    (mx : PySem.W.findCls K (.ref C) (.type "type") "MAX_TILTS" = some (.val (.int iMX tMX)))
    (b_len : PySem.W.nsIn K mainGlobals "len" = some (none))
    (b_isinstance : PySem.W.nsIn K mainGlobals "isinstance" = some (none))
    (b_str : PySem.W.nsIn K mainGlobals "str" = some (none))
    (b_enumerate : PySem.W.nsIn K mainGlobals "enumerate" = some (none))
    (b_set : PySem.W.nsIn K mainGlobals "set" = some (none))
    (b_zip : PySem.W.nsIn K mainGlobals "zip" = some (none))
    (b_tuple : PySem.W.nsIn K mainGlobals "tuple" = some (none))
    (b_int : PySem.W.nsIn K mainGlobals "int" = some (none))
    (b_range : PySem.W.nsIn K mainGlobals "range" = some (none))
    (b_min : PySem.W.nsIn K mainGlobals "min" = some (none))
    (b_list : PySem.W.nsIn K mainGlobals "list" = some (none))
    (b_bool : PySem.W.nsIn K mainGlobals "bool" = some (none))
    (b_dict : PySem.W.nsIn K mainGlobals "dict" = some (none))
    (b_sorted : PySem.W.nsIn K mainGlobals "sorted" = some (none))
    (b_divmod : PySem.W.nsIn K mainGlobals "divmod" = some (none))
    (b_super : PySem.W.nsIn K mainGlobals "super" = some (none))
    (b_bytes : PySem.W.nsIn K mainGlobals "bytes" = some (none))
    (b_all : PySem.W.nsIn K mainGlobals "all" = some (none))
    (aIt : PySem.W.nsIn K mainGlobals "is_tilt" = some (some (.ref fIt)))
    (lIt : K.lookup fIt = some ⟨ocIt, odIt, .func (PySem.W.fnOf "is_tilt" "is_tilt" (defArgs sIsTilt) (defBody sIsTilt) (defScope sIsTilt) .none kVIt dcIt pmIt anIt cdIt ctIt), slIt⟩)
    (cIt : PySem.W.codeIn K cdIt "is_tilt" = true)
    (kIt : PySem.W.keepIn K (.ref fIt) = true)
    (aFw : PySem.W.nsIn K mainGlobals "_first_wrong_index" = some (some (.ref fFw)))
    (lFw : K.lookup fFw = some ⟨ocFw, odFw, .func (PySem.W.fnOf "_first_wrong_index" "_first_wrong_index" (defArgs sFirstWrongIndex) (defBody sFirstWrongIndex) (defScope sFirstWrongIndex) .none kVFw dcFw pmFw anFw cdFw ctFw), slFw⟩)
    (cFw : PySem.W.codeIn K cdFw "_first_wrong_index" = true)
    (kFw : PySem.W.keepIn K (.ref fFw) = true)
    (aWi : PySem.W.findIn K (.ref C) "__init__" = some (some (.ref fWi)))
    (iWi : PySem.W.isFn K (.ref fWi) = true)
    (lWi : K.lookup fWi = some ⟨ocWi, odWi, .func (PySem.W.fnOf "__init__" "Word.__init__" (defArgs sWordInit) (defBody sWordInit) (defScope sWordInit) .none kVWi dcWi pmWi anWi cdWi ctWi), slWi⟩)
    (cWi : PySem.W.codeIn K cdWi "Word.__init__" = true)
    (kWi : PySem.W.keepIn K (.ref fWi) = true)
    (pWt : PySem.W.findIn K (.ref C) "text" = some (some (.ref qWt)))
    (pgtWt : PySem.W.specialIn K (.ref qWt) "__get__" = some (some (.builtin "property.__get__")))
    (ptkWt : PySem.W.takesIn K (.ref qWt) = some true)
    (aWt : PySem.W.recIn K qWt "property" = some (.ref fWt :: rWt))
    (lWt : K.lookup fWt = some ⟨ocWt, odWt, .func (PySem.W.fnOf "text" "Word.text" (defArgs sWordText) (defBody sWordText) (defScope sWordText) .none kVWt dcWt pmWt anWt cdWt ctWt), slWt⟩)
    (cWt : PySem.W.codeIn K cdWt "Word.text" = true)
    (kWt : PySem.W.keepIn K (.ref fWt) = true)
    (aTi : PySem.W.findIn K (.ref D) "__init__" = some (some (.ref fTi)))
    (iTi : PySem.W.isFn K (.ref fTi) = true)
    (lTi : K.lookup fTi = some ⟨ocTi, odTi, .func (PySem.W.fnOf "__init__" "Tray.__init__" (defArgs sTrayInit) (defBody sTrayInit) (defScope sTrayInit) .none kVTi dcTi pmTi anTi cdTi ctTi), slTi⟩)
    (cTi : PySem.W.codeIn K cdTi "Tray.__init__" = true)
    (kTi : PySem.W.keepIn K (.ref fTi) = true)
    (pTo : PySem.W.findCls K (.ref D) (.type "type") "of_text" = some (.get (.builtin "classmethod.__get__") (.ref qTo) .none (.ref D)))
    (aTo : PySem.W.recIn K qTo "classmethod" = some (.ref fTo :: rTo))
    (fiTo : PySem.W.fnIn K fTo = true)
    (lTo : K.lookup fTo = some ⟨ocTo, odTo, .func (PySem.W.fnOf "of_text" "Tray.of_text" (defArgs sTrayOfText) (defBody sTrayOfText) (defScope sTrayOfText) .none kVTo dcTo pmTo anTo cdTo ctTo), slTo⟩)
    (cTo : PySem.W.codeIn K cdTo "Tray.of_text" = true)
    (kTo : PySem.W.keepIn K (.ref fTo) = true)
    (aRs : PySem.W.findIn K (.ref D) "__rshift__" = some (some (.ref fRs)))
    (iRs : PySem.W.isFn K (.ref fRs) = true)
    (lRs : K.lookup fRs = some ⟨ocRs, odRs, .func (PySem.W.fnOf "__rshift__" "Tray.__rshift__" (defArgs sTrayRshift) (defBody sTrayRshift) (defScope sTrayRshift) .none kVRs dcRs pmRs anRs cdRs ctRs), slRs⟩)
    (cRs : PySem.W.codeIn K cdRs "Tray.__rshift__" = true)
    (kRs : PySem.W.keepIn K (.ref fRs) = true)
    (aFc : PySem.W.nsIn K mainGlobals "_first_wrong_cell" = some (some (.ref fFc)))
    (lFc : K.lookup fFc = some ⟨ocFc, odFc, .func (PySem.W.fnOf "_first_wrong_cell" "_first_wrong_cell" (defArgs sFirstWrongCell) (defBody sFirstWrongCell) (defScope sFirstWrongCell) .none kVFc dcFc pmFc anFc cdFc ctFc), slFc⟩)
    (cFc : PySem.W.codeIn K cdFc "_first_wrong_cell" = true)
    (kFc : PySem.W.keepIn K (.ref fFc) = true)
    (aIr : PySem.W.nsIn K mainGlobals "_is_row" = some (some (.ref fIr)))
    (lIr : K.lookup fIr = some ⟨ocIr, odIr, .func (PySem.W.fnOf "_is_row" "_is_row" (defArgs sIsRow) (defBody sIsRow) (defScope sIsRow) .none kVIr dcIr pmIr anIr cdIr ctIr), slIr⟩)
    (cIr : PySem.W.codeIn K cdIr "_is_row" = true)
    (kIr : PySem.W.keepIn K (.ref fIr) = true)
    (aTd : PySem.W.nsIn K mainGlobals "_tilted" = some (some (.ref fTd)))
    (lTd : K.lookup fTd = some ⟨ocTd, odTd, .func (PySem.W.fnOf "_tilted" "_tilted" (defArgs sTilted) (defBody sTilted) (defScope sTilted) .none kVTd dcTd pmTd anTd cdTd ctTd), slTd⟩)
    (cTd : PySem.W.codeIn K cdTd "_tilted" = true)
    (kTd : PySem.W.keepIn K (.ref fTd) = true)
    (aSl : PySem.W.nsIn K mainGlobals "_slid" = some (some (.ref fSl)))
    (lSl : K.lookup fSl = some ⟨ocSl, odSl, .func (PySem.W.fnOf "_slid" "_slid" (defArgs sSlid) (defBody sSlid) (defScope sSlid) .none kVSl dcSl pmSl anSl cdSl ctSl), slSl⟩)
    (cSl : PySem.W.codeIn K cdSl "_slid" = true)
    (kSl : PySem.W.keepIn K (.ref fSl) = true)
    (pTr : PySem.W.findIn K (.ref D) "rows" = some (some (.ref qTr)))
    (pgtTr : PySem.W.specialIn K (.ref qTr) "__get__" = some (some (.builtin "property.__get__")))
    (ptkTr : PySem.W.takesIn K (.ref qTr) = some true)
    (aTr : PySem.W.recIn K qTr "property" = some (.ref fTr :: rTr))
    (lTr : K.lookup fTr = some ⟨ocTr, odTr, .func (PySem.W.fnOf "rows" "Tray.rows" (defArgs sTrayRows) (defBody sTrayRows) (defScope sTrayRows) .none kVTr dcTr pmTr anTr cdTr ctTr), slTr⟩)
    (cTr : PySem.W.codeIn K cdTr "Tray.rows" = true)
    (kTr : PySem.W.keepIn K (.ref fTr) = true)
    (aTe : PySem.W.findIn K (.ref D) "__eq__" = some (some (.ref fTe)))
    (iTe : PySem.W.isFn K (.ref fTe) = true)
    (lTe : K.lookup fTe = some ⟨ocTe, odTe, .func (PySem.W.fnOf "__eq__" "Tray.__eq__" (defArgs sTrayEq) (defBody sTrayEq) (defScope sTrayEq) .none kVTe dcTe pmTe anTe cdTe ctTe), slTe⟩)
    (cTe : PySem.W.codeIn K cdTe "Tray.__eq__" = true)
    (kTe : PySem.W.keepIn K (.ref fTe) = true)
    (pMb : PySem.W.findIn K (.ref D) "marbles" = some (some (.ref qMb)))
    (pgtMb : PySem.W.specialIn K (.ref qMb) "__get__" = some (some (.builtin "property.__get__")))
    (ptkMb : PySem.W.takesIn K (.ref qMb) = some true)
    (aMb : PySem.W.recIn K qMb "property" = some (.ref fMb :: rMb))
    (lMb : K.lookup fMb = some ⟨ocMb, odMb, .func (PySem.W.fnOf "marbles" "Tray.marbles" (defArgs sTrayMarbles) (defBody sTrayMarbles) (defScope sTrayMarbles) .none kVMb dcMb pmMb anMb cdMb ctMb), slMb⟩)
    (cMb : PySem.W.codeIn K cdMb "Tray.marbles" = true)
    (kMb : PySem.W.keepIn K (.ref fMb) = true)
    (pWd : PySem.W.findIn K (.ref D) "width" = some (some (.ref qWd)))
    (pgtWd : PySem.W.specialIn K (.ref qWd) "__get__" = some (some (.builtin "property.__get__")))
    (ptkWd : PySem.W.takesIn K (.ref qWd) = some true)
    (aWd : PySem.W.recIn K qWd "property" = some (.ref fWd :: rWd))
    (lWd : K.lookup fWd = some ⟨ocWd, odWd, .func (PySem.W.fnOf "width" "Tray.width" (defArgs sTrayWidth) (defBody sTrayWidth) (defScope sTrayWidth) .none kVWd dcWd pmWd anWd cdWd ctWd), slWd⟩)
    (cWd : PySem.W.codeIn K cdWd "Tray.width" = true)
    (kWd : PySem.W.keepIn K (.ref fWd) = true)
    (pHt : PySem.W.findIn K (.ref D) "height" = some (some (.ref qHt)))
    (pgtHt : PySem.W.specialIn K (.ref qHt) "__get__" = some (some (.builtin "property.__get__")))
    (ptkHt : PySem.W.takesIn K (.ref qHt) = some true)
    (aHt : PySem.W.recIn K qHt "property" = some (.ref fHt :: rHt))
    (lHt : K.lookup fHt = some ⟨ocHt, odHt, .func (PySem.W.fnOf "height" "Tray.height" (defArgs sTrayHeight) (defBody sTrayHeight) (defScope sTrayHeight) .none kVHt dcHt pmHt anHt cdHt ctHt), slHt⟩)
    (cHt : PySem.W.codeIn K cdHt "Tray.height" = true)
    (kHt : PySem.W.keepIn K (.ref fHt) = true)
    (aTc : PySem.W.findIn K (.ref D) "__contains__" = some (some (.ref fTc)))
    (iTc : PySem.W.isFn K (.ref fTc) = true)
    (lTc : K.lookup fTc = some ⟨ocTc, odTc, .func (PySem.W.fnOf "__contains__" "Tray.__contains__" (defArgs sTrayContains) (defBody sTrayContains) (defScope sTrayContains) .none kVTc dcTc pmTc anTc cdTc ctTc), slTc⟩)
    (cTc : PySem.W.codeIn K cdTc "Tray.__contains__" = true)
    (kTc : PySem.W.keepIn K (.ref fTc) = true)
    (aCl : PySem.W.findIn K (.ref D) "__call__" = some (some (.ref fCl)))
    (iCl : PySem.W.isFn K (.ref fCl) = true)
    (lCl : K.lookup fCl = some ⟨ocCl, odCl, .func (PySem.W.fnOf "__call__" "Tray.__call__" (defArgs sTrayCall) (defBody sTrayCall) (defScope sTrayCall) .none kVCl dcCl pmCl anCl cdCl ctCl), slCl⟩)
    (cCl : PySem.W.codeIn K cdCl "Tray.__call__" = true)
    (kCl : PySem.W.keepIn K (.ref fCl) = true)
    (fnCl : PySem.W.fnIn K fCl = true)
    (aNu : PySem.W.nsIn K mainGlobals "is_number" = some (some (.ref fNu)))
    (lNu : K.lookup fNu = some ⟨ocNu, odNu, .func (PySem.W.fnOf "is_number" "is_number" (defArgs sIsNumber) (defBody sIsNumber) (defScope sIsNumber) .none kVNu dcNu pmNu anNu cdNu ctNu), slNu⟩)
    (cNu : PySem.W.codeIn K cdNu "is_number" = true)
    (kNu : PySem.W.keepIn K (.ref fNu) = true)
    (aPl : PySem.W.nsIn K mainGlobals "is_place" = some (some (.ref fPl)))
    (lPl : K.lookup fPl = some ⟨ocPl, odPl, .func (PySem.W.fnOf "is_place" "is_place" (defArgs sIsPlace) (defBody sIsPlace) (defScope sIsPlace) .none kVPl dcPl pmPl anPl cdPl ctPl), slPl⟩)
    (cPl : PySem.W.codeIn K cdPl "is_place" = true)
    (kPl : PySem.W.keepIn K (.ref fPl) = true)
    (aCv : PySem.W.nsIn K mainGlobals "check_place" = some (some (.ref fCv)))
    (lCv : K.lookup fCv = some ⟨ocCv, odCv, .func (PySem.W.fnOf "check_place" "check_place" (defArgs sCheckPlace) (defBody sCheckPlace) (defScope sCheckPlace) .none kVCv dcCv pmCv anCv cdCv ctCv), slCv⟩)
    (cCv : PySem.W.codeIn K cdCv "check_place" = true)
    (kCv : PySem.W.keepIn K (.ref fCv) = true)
    (aAt : PySem.W.findIn K (.ref D) "at" = some (some (.ref fAt)))
    (iAt : PySem.W.isFn K (.ref fAt) = true)
    (lAt : K.lookup fAt = some ⟨ocAt, odAt, .func (PySem.W.fnOf "at" "Tray.at" (defArgs sTrayAt) (defBody sTrayAt) (defScope sTrayAt) .none kVAt dcAt pmAt anAt cdAt ctAt), slAt⟩)
    (cAt : PySem.W.codeIn K cdAt "Tray.at" = true)
    (kAt : PySem.W.keepIn K (.ref fAt) = true)
    (sf : PySem.W.selfFirst K D = true)
    (nc : PySem.W.clsIn K C = some cdC)
    (nm : cdC.mro = [.ref C, .type "object"])
    (n1 : PySem.W.findIn K (.ref C) "__rshift__" = some none)
    (n2 : PySem.W.findIn K (.ref C) "__rrshift__" = some none)
    (n3 : PySem.W.findIn K (.type "object") "__rshift__" = some none)
    (n4 : PySem.W.findIn K (.type "object") "__rrshift__" = some none)
    (aV : PySem.W.nsIn K mainGlobals "LiveTray" = some (some (.ref V)))
    (pgV : PySem.W.plainGet K V Str.empty = true)
    (hdV : PySem.W.hasDictIn K V = true)
    (poV : PySem.W.plainOver K V = true)
    (saV : PySem.W.findIn K (.ref V) "__setattr__" = some (some (.builtin "object.__setattr__")))
    (mkV : PySem.W.makesIn K V = true)
    (kcV : PySem.W.keepIn K (.ref V) = true)
    (rdV : PySem.W.readsIn K V (.type "type") = true)
    (gaV : PySem.W.specialIn K (.ref V) "__getattribute__" = some (some (.builtin "type.__getattribute__")))
    (nVs : PySem.W.findIn K (.ref V) "_state" = some none)
    (nVb : PySem.W.findIn K (.ref V) "_state_before_block" = some none)
    (aIl : PySem.W.nsIn K mainGlobals "_is_letter" = some (some (.ref fIl)))
    (lIl : K.lookup fIl = some ⟨ocIl, odIl, .func (PySem.W.fnOf "_is_letter" "_is_letter" (defArgs sIsLetter) (defBody sIsLetter) (defScope sIsLetter) .none kVIl dcIl pmIl anIl cdIl ctIl), slIl⟩)
    (cIl : PySem.W.codeIn K cdIl "_is_letter" = true)
    (kIl : PySem.W.keepIn K (.ref fIl) = true)
    (aWc : PySem.W.nsIn K mainGlobals "_with_cell" = some (some (.ref fWc)))
    (lWc : K.lookup fWc = some ⟨ocWc, odWc, .func (PySem.W.fnOf "_with_cell" "_with_cell" (defArgs sWithCell) (defBody sWithCell) (defScope sWithCell) .none kVWc dcWc pmWc anWc cdWc ctWc), slWc⟩)
    (cWc : PySem.W.codeIn K cdWc "_with_cell" = true)
    (kWc : PySem.W.keepIn K (.ref fWc) = true)
    (aAk : PySem.W.nsIn K mainGlobals "_after_take" = some (some (.ref fAk)))
    (lAk : K.lookup fAk = some ⟨ocAk, odAk, .func (PySem.W.fnOf "_after_take" "_after_take" (defArgs sAfterTake) (defBody sAfterTake) (defScope sAfterTake) .none kVAk dcAk pmAk anAk cdAk ctAk), slAk⟩)
    (cAk : PySem.W.codeIn K cdAk "_after_take" = true)
    (kAk : PySem.W.keepIn K (.ref fAk) = true)
    (aAp : PySem.W.nsIn K mainGlobals "_after_put" = some (some (.ref fAp)))
    (lAp : K.lookup fAp = some ⟨ocAp, odAp, .func (PySem.W.fnOf "_after_put" "_after_put" (defArgs sAfterPut) (defBody sAfterPut) (defScope sAfterPut) .none kVAp dcAp pmAp anAp cdAp ctAp), slAp⟩)
    (cAp : PySem.W.codeIn K cdAp "_after_put" = true)
    (kAp : PySem.W.keepIn K (.ref fAp) = true)
    (aAl : PySem.W.nsIn K mainGlobals "_after_tilt" = some (some (.ref fAl)))
    (lAl : K.lookup fAl = some ⟨ocAl, odAl, .func (PySem.W.fnOf "_after_tilt" "_after_tilt" (defArgs sAfterTilt) (defBody sAfterTilt) (defScope sAfterTilt) .none kVAl dcAl pmAl anAl cdAl ctAl), slAl⟩)
    (cAl : PySem.W.codeIn K cdAl "_after_tilt" = true)
    (kAl : PySem.W.keepIn K (.ref fAl) = true)
    (aIo : PySem.W.nsIn K mainGlobals "_is_operation" = some (some (.ref fIo)))
    (lIo : K.lookup fIo = some ⟨ocIo, odIo, .func (PySem.W.fnOf "_is_operation" "_is_operation" (defArgs sIsOperation) (defBody sIsOperation) (defScope sIsOperation) .none kVIo dcIo pmIo anIo cdIo ctIo), slIo⟩)
    (cIo : PySem.W.codeIn K cdIo "_is_operation" = true)
    (kIo : PySem.W.keepIn K (.ref fIo) = true)
    (pPr : PySem.W.findIn K (.ref V) "present_tray" = some (some (.ref qPr)))
    (pgtPr : PySem.W.specialIn K (.ref qPr) "__get__" = some (some (.builtin "property.__get__")))
    (ptkPr : PySem.W.takesIn K (.ref qPr) = some true)
    (aPr : PySem.W.recIn K qPr "property" = some (.ref fPr :: rPr))
    (lPr : K.lookup fPr = some ⟨ocPr, odPr, .func (PySem.W.fnOf "present_tray" "LiveTray.present_tray" (defArgs sLiveTrayPresentTray) (defBody sLiveTrayPresentTray) (defScope sLiveTrayPresentTray) .none kVPr dcPr pmPr anPr cdPr ctPr), slPr⟩)
    (cPr : PySem.W.codeIn K cdPr "LiveTray.present_tray" = true)
    (kPr : PySem.W.keepIn K (.ref fPr) = true)
    (aEs : PySem.W.findIn K (.ref V) "_extend_state" = some (some (.ref fEs)))
    (iEs : PySem.W.isFn K (.ref fEs) = true)
    (lEs : K.lookup fEs = some ⟨ocEs, odEs, .func (PySem.W.fnOf "_extend_state" "LiveTray._extend_state" (defArgs sLiveTrayExtendState) (defBody sLiveTrayExtendState) (defScope sLiveTrayExtendState) .none kVEs dcEs pmEs anEs cdEs ctEs), slEs⟩)
    (cEs : PySem.W.codeIn K cdEs "LiveTray._extend_state" = true)
    (kEs : PySem.W.keepIn K (.ref fEs) = true)
    (aMt : PySem.W.findIn K (.ref V) "tilt" = some (some (.ref fMt)))
    (iMt : PySem.W.isFn K (.ref fMt) = true)
    (lMt : K.lookup fMt = some ⟨ocMt, odMt, .func (PySem.W.fnOf "tilt" "LiveTray.tilt" (defArgs sLiveTrayTilt) (defBody sLiveTrayTilt) (defScope sLiveTrayTilt) .none kVMt dcMt pmMt anMt cdMt ctMt), slMt⟩)
    (cMt : PySem.W.codeIn K cdMt "LiveTray.tilt" = true)
    (kMt : PySem.W.keepIn K (.ref fMt) = true)
    (aMp : PySem.W.findIn K (.ref V) "put" = some (some (.ref fMp)))
    (iMp : PySem.W.isFn K (.ref fMp) = true)
    (lMp : K.lookup fMp = some ⟨ocMp, odMp, .func (PySem.W.fnOf "put" "LiveTray.put" (defArgs sLiveTrayPut) (defBody sLiveTrayPut) (defScope sLiveTrayPut) .none kVMp dcMp pmMp anMp cdMp ctMp), slMp⟩)
    (cMp : PySem.W.codeIn K cdMp "LiveTray.put" = true)
    (kMp : PySem.W.keepIn K (.ref fMp) = true)
    (aMk : PySem.W.findIn K (.ref V) "take" = some (some (.ref fMk)))
    (iMk : PySem.W.isFn K (.ref fMk) = true)
    (lMk : K.lookup fMk = some ⟨ocMk, odMk, .func (PySem.W.fnOf "take" "LiveTray.take" (defArgs sLiveTrayTake) (defBody sLiveTrayTake) (defScope sLiveTrayTake) .none kVMk dcMk pmMk anMk cdMk ctMk), slMk⟩)
    (cMk : PySem.W.codeIn K cdMk "LiveTray.take" = true)
    (kMk : PySem.W.keepIn K (.ref fMk) = true)
    (aUn : PySem.W.findIn K (.ref V) "undo" = some (some (.ref fUn)))
    (iUn : PySem.W.isFn K (.ref fUn) = true)
    (lUn : K.lookup fUn = some ⟨ocUn, odUn, .func (PySem.W.fnOf "undo" "LiveTray.undo" (defArgs sLiveTrayUndo) (defBody sLiveTrayUndo) (defScope sLiveTrayUndo) .none kVUn dcUn pmUn anUn cdUn ctUn), slUn⟩)
    (cUn : PySem.W.codeIn K cdUn "LiveTray.undo" = true)
    (kUn : PySem.W.keepIn K (.ref fUn) = true)
    (pHi : PySem.W.findIn K (.ref V) "history" = some (some (.ref qHi)))
    (pgtHi : PySem.W.specialIn K (.ref qHi) "__get__" = some (some (.builtin "property.__get__")))
    (ptkHi : PySem.W.takesIn K (.ref qHi) = some true)
    (aHi : PySem.W.recIn K qHi "property" = some (.ref fHi :: rHi))
    (lHi : K.lookup fHi = some ⟨ocHi, odHi, .func (PySem.W.fnOf "history" "LiveTray.history" (defArgs sLiveTrayHistory) (defBody sLiveTrayHistory) (defScope sLiveTrayHistory) .none kVHi dcHi pmHi anHi cdHi ctHi), slHi⟩)
    (cHi : PySem.W.codeIn K cdHi "LiveTray.history" = true)
    (kHi : PySem.W.keepIn K (.ref fHi) = true)
    (aLv : PySem.W.findIn K (.ref V) "__init__" = some (some (.ref fLv)))
    (iLv : PySem.W.isFn K (.ref fLv) = true)
    (lLv : K.lookup fLv = some ⟨ocLv, odLv, .func (PySem.W.fnOf "__init__" "LiveTray.__init__" (defArgs sLiveTrayInit) (defBody sLiveTrayInit) (defScope sLiveTrayInit) .none kVLv dcLv pmLv anLv cdLv ctLv), slLv⟩)
    (cLv : PySem.W.codeIn K cdLv "LiveTray.__init__" = true)
    (kLv : PySem.W.keepIn K (.ref fLv) = true)
    (pRp : PySem.W.findCls K (.ref V) (.type "type") "replay" = some (.get (.builtin "classmethod.__get__") (.ref qRp) .none (.ref V)))
    (aRp : PySem.W.recIn K qRp "classmethod" = some (.ref fRp :: rRp))
    (fiRp : PySem.W.fnIn K fRp = true)
    (lRp : K.lookup fRp = some ⟨ocRp, odRp, .func (PySem.W.fnOf "replay" "LiveTray.replay" (defArgs sLiveTrayReplay) (defBody sLiveTrayReplay) (defScope sLiveTrayReplay) .none kVRp dcRp pmRp anRp cdRp ctRp), slRp⟩)
    (cRp : PySem.W.codeIn K cdRp "LiveTray.replay" = true)
    (kRp : PySem.W.keepIn K (.ref fRp) = true)
    (aLx : PySem.W.findIn K (.ref V) "__contains__" = some (some (.ref fLx)))
    (iLx : PySem.W.isFn K (.ref fLx) = true)
    (lLx : K.lookup fLx = some ⟨ocLx, odLx, .func (PySem.W.fnOf "__contains__" "LiveTray.__contains__" (defArgs sLiveTrayContains) (defBody sLiveTrayContains) (defScope sLiveTrayContains) .none kVLx dcLx pmLx anLx cdLx ctLx), slLx⟩)
    (cLx : PySem.W.codeIn K cdLx "LiveTray.__contains__" = true)
    (kLx : PySem.W.keepIn K (.ref fLx) = true)
    (aAy : PySem.W.findIn K (.ref V) "apply" = some (some (.ref fAy)))
    (iAy : PySem.W.isFn K (.ref fAy) = true)
    (lAy : K.lookup fAy = some ⟨ocAy, odAy, .func (PySem.W.fnOf "apply" "LiveTray.apply" (defArgs sLiveTrayApply) (defBody sLiveTrayApply) (defScope sLiveTrayApply) .none kVAy dcAy pmAy anAy cdAy ctAy), slAy⟩)
    (cAy : PySem.W.codeIn K cdAy "LiveTray.apply" = true)
    (kAy : PySem.W.keepIn K (.ref fAy) = true)
    (bgAy : PySem.W.specialIn K (.ref fAy) "__get__" = some (some (.builtin "function.__get__")))
    (btAy : PySem.W.takesIn K (.ref fAy) = some false)
    (bfAy : PySem.W.fnIn K fAy = true)
    (caA : PySem.W.nsIn K mainGlobals "ACTIONS" = some (some (.ref aA)))
    (laA : K.lookup aA = some ⟨.type "dict", none, .dict esaA naA, #[]⟩)
    (haA : PySem.W.KeysLit w.params esaA.toList)
    (vaAtilt : PySem.W.nsIn K aA "tilt" = some (some (.ref fAl)))
    (vaAput : PySem.W.nsIn K aA "put" = some (some (.ref fAp)))
    (vaAtake : PySem.W.nsIn K aA "take" = some (some (.ref fAk)))
    (caS : PySem.W.nsIn K mainGlobals "SIZES" = some (some (.ref aS)))
    (laS : K.lookup aS = some ⟨.type "dict", none, .dict esaS naS, #[]⟩)
    (haS : PySem.W.KeysLit w.params esaS.toList)
    (vaStilt : PySem.W.nsIn K aS "tilt" = some (some (.int iaStilt taStilt)))
    (vaSput : PySem.W.nsIn K aS "put" = some (some (.int iaSput taSput)))
    (vaStake : PySem.W.nsIn K aS "take" = some (some (.int iaStake taStake)))
    (nSys : (aS == sysModules) = false)
    (aCk : PySem.W.nsIn K mainGlobals "_checksum" = some (some (.ref fCk)))
    (lCk : K.lookup fCk = some ⟨ocCk, odCk, .func (PySem.W.fnOf "_checksum" "_checksum" (defArgs sChecksum) (defBody sChecksum) (defScope sChecksum) .none kVCk dcCk pmCk anCk cdCk ctCk), slCk⟩)
    (cCk : PySem.W.codeIn K cdCk "_checksum" = true)
    (kCk : PySem.W.keepIn K (.ref fCk) = true)
    (aPk : PySem.W.nsIn K mainGlobals "pack_bytes" = some (some (.ref fPk)))
    (lPk : K.lookup fPk = some ⟨ocPk, odPk, .func (PySem.W.fnOf "pack_bytes" "pack_bytes" (defArgs sPackBytes) (defBody sPackBytes) (defScope sPackBytes) .none kVPk dcPk pmPk anPk cdPk ctPk), slPk⟩)
    (cPk : PySem.W.codeIn K cdPk "pack_bytes" = true)
    (kPk : PySem.W.keepIn K (.ref fPk) = true)
    (aUp : PySem.W.nsIn K mainGlobals "unpack_bytes" = some (some (.ref fUp)))
    (lUp : K.lookup fUp = some ⟨ocUp, odUp, .func (PySem.W.fnOf "unpack_bytes" "unpack_bytes" (defArgs sUnpackBytes) (defBody sUnpackBytes) (defScope sUnpackBytes) .none kVUp dcUp pmUp anUp cdUp ctUp), slUp⟩)
    (cUp : PySem.W.codeIn K cdUp "unpack_bytes" = true)
    (kUp : PySem.W.keepIn K (.ref fUp) = true)
    (aRd : PySem.W.nsIn K mainGlobals "_read" = some (some (.ref fRd)))
    (lRd : K.lookup fRd = some ⟨ocRd, odRd, .func (PySem.W.fnOf "_read" "_read" (defArgs sRead) (defBody sRead) (defScope sRead) .none kVRd dcRd pmRd anRd cdRd ctRd), slRd⟩)
    (cRd : PySem.W.codeIn K cdRd "_read" = true)
    (kRd : PySem.W.keepIn K (.ref fRd) = true)
    (aEn : PySem.W.nsIn K mainGlobals "encode_tray" = some (some (.ref fEn)))
    (lEn : K.lookup fEn = some ⟨ocEn, odEn, .func (PySem.W.fnOf "encode_tray" "encode_tray" (defArgs sEncodeTray) (defBody sEncodeTray) (defScope sEncodeTray) .none kVEn dcEn pmEn anEn cdEn ctEn), slEn⟩)
    (cEn : PySem.W.codeIn K cdEn "encode_tray" = true)
    (kEn : PySem.W.keepIn K (.ref fEn) = true)
    (aDe : PySem.W.nsIn K mainGlobals "decode_tray" = some (some (.ref fDe)))
    (lDe : K.lookup fDe = some ⟨ocDe, odDe, .func (PySem.W.fnOf "decode_tray" "decode_tray" (defArgs sDecodeTray) (defBody sDecodeTray) (defScope sDecodeTray) .none kVDe dcDe pmDe anDe cdDe ctDe), slDe⟩)
    (cDe : PySem.W.codeIn K cdDe "decode_tray" = true)
    (kDe : PySem.W.keepIn K (.ref fDe) = true)
    (cMY : PySem.W.nsIn K mainGlobals "MAX_BYTE" = some (some (.int iMY tMY)))
    (cFB : PySem.W.nsIn K mainGlobals "FIRST_BYTE" = some (some (.int iFB tFB)))
    (cHS : PySem.W.nsIn K mainGlobals "HEAD_SIZE" = some (some (.int iHS tHS)))
    (cFC : PySem.W.nsIn K mainGlobals "FIRST_CHECKSUM" = some (some (.int iFC tFC)))
    (cCM : PySem.W.nsIn K mainGlobals "CHECKSUM_MODULUS" = some (some (.int iCM tCM)))
    (aBd : PySem.W.nsIn K mainGlobals "_border" = some (some (.ref fBd)))
    (lBd : K.lookup fBd = some ⟨ocBd, odBd, .func (PySem.W.fnOf "_border" "_border" (defArgs sBorder) (defBody sBorder) (defScope sBorder) .none kVBd dcBd pmBd anBd cdBd ctBd), slBd⟩)
    (cBd : PySem.W.codeIn K cdBd "_border" = true)
    (kBd : PySem.W.keepIn K (.ref fBd) = true)
    (aDr : PySem.W.nsIn K mainGlobals "drawing" = some (some (.ref fDr)))
    (lDr : K.lookup fDr = some ⟨ocDr, odDr, .func (PySem.W.fnOf "drawing" "drawing" (defArgs sDrawing) (defBody sDrawing) (defScope sDrawing) .none kVDr dcDr pmDr anDr cdDr ctDr), slDr⟩)
    (cDr : PySem.W.codeIn K cdDr "drawing" = true)
    (kDr : PySem.W.keepIn K (.ref fDr) = true)
    (aKl : PySem.W.nsIn K mainGlobals "_check_line" = some (some (.ref fKl)))
    (lKl : K.lookup fKl = some ⟨ocKl, odKl, .func (PySem.W.fnOf "_check_line" "_check_line" (defArgs sCheckLine) (defBody sCheckLine) (defScope sCheckLine) .none kVKl dcKl pmKl anKl cdKl ctKl), slKl⟩)
    (cKl : PySem.W.codeIn K cdKl "_check_line" = true)
    (kKl : PySem.W.keepIn K (.ref fKl) = true)
    (aPd : PySem.W.nsIn K mainGlobals "parse_drawing" = some (some (.ref fPd)))
    (lPd : K.lookup fPd = some ⟨ocPd, odPd, .func (PySem.W.fnOf "parse_drawing" "parse_drawing" (defArgs sParseDrawing) (defBody sParseDrawing) (defScope sParseDrawing) .none kVPd dcPd pmPd anPd cdPd ctPd), slPd⟩)
    (cPd : PySem.W.codeIn K cdPd "parse_drawing" = true)
    (kPd : PySem.W.keepIn K (.ref fPd) = true)
    (aMz : PySem.W.nsIn K mainGlobals "marble_table" = some (some (.ref fMz)))
    (lMz : K.lookup fMz = some ⟨ocMz, odMz, .func (PySem.W.fnOf "marble_table" "marble_table" (defArgs sMarbleTable) (defBody sMarbleTable) (defScope sMarbleTable) .none kVMz dcMz pmMz anMz cdMz ctMz), slMz⟩)
    (cMz : PySem.W.codeIn K cdMz "marble_table" = true)
    (kMz : PySem.W.keepIn K (.ref fMz) = true)
    (aPo : PySem.W.nsIn K mainGlobals "_are_places_of" = some (some (.ref fPo)))
    (lPo : K.lookup fPo = some ⟨ocPo, odPo, .func (PySem.W.fnOf "_are_places_of" "_are_places_of" (defArgs sArePlacesOf) (defBody sArePlacesOf) (defScope sArePlacesOf) .none kVPo dcPo pmPo anPo cdPo ctPo), slPo⟩)
    (cPo : PySem.W.codeIn K cdPo "_are_places_of" = true)
    (kPo : PySem.W.keepIn K (.ref fPo) = true)
    (aFl : PySem.W.nsIn K mainGlobals "first_log_error" = some (some (.ref fFl)))
    (lFl : K.lookup fFl = some ⟨ocFl, odFl, .func (PySem.W.fnOf "first_log_error" "first_log_error" (defArgs sFirstLogError) (defBody sFirstLogError) (defScope sFirstLogError) .none kVFl dcFl pmFl anFl cdFl ctFl), slFl⟩)
    (cFl : PySem.W.codeIn K cdFl "first_log_error" = true)
    (kFl : PySem.W.keepIn K (.ref fFl) = true)
    (aTk : PySem.W.nsIn K mainGlobals "_law_taken" = some (some (.ref fTk)))
    (lTk : K.lookup fTk = some ⟨ocTk, odTk, .func (PySem.W.fnOf "_law_taken" "_law_taken" (defArgs sLawTaken) (defBody sLawTaken) (defScope sLawTaken) .none kVTk dcTk pmTk anTk cdTk ctTk), slTk⟩)
    (cTk : PySem.W.codeIn K cdTk "_law_taken" = true)
    (kTk : PySem.W.keepIn K (.ref fTk) = true)
    (aRw : PySem.W.nsIn K mainGlobals "_law_rows" = some (some (.ref fRw)))
    (lRw : K.lookup fRw = some ⟨ocRw, odRw, .func (PySem.W.fnOf "_law_rows" "_law_rows" (defArgs sLawRows) (defBody sLawRows) (defScope sLawRows) .none kVRw dcRw pmRw anRw cdRw ctRw), slRw⟩)
    (cRw : PySem.W.codeIn K cdRw "_law_rows" = true)
    (kRw : PySem.W.keepIn K (.ref fRw) = true)
    (aTx : PySem.W.nsIn K mainGlobals "_law_text" = some (some (.ref fTx)))
    (lTx : K.lookup fTx = some ⟨ocTx, odTx, .func (PySem.W.fnOf "_law_text" "_law_text" (defArgs sLawText) (defBody sLawText) (defScope sLawText) .none kVTx dcTx pmTx anTx cdTx ctTx), slTx⟩)
    (cTx : PySem.W.codeIn K cdTx "_law_text" = true)
    (kTx : PySem.W.keepIn K (.ref fTx) = true)
    (aTy : PySem.W.nsIn K mainGlobals "_law_tray" = some (some (.ref fTy)))
    (lTy : K.lookup fTy = some ⟨ocTy, odTy, .func (PySem.W.fnOf "_law_tray" "_law_tray" (defArgs sLawTray) (defBody sLawTray) (defScope sLawTray) .none kVTy dcTy pmTy anTy cdTy ctTy), slTy⟩)
    (cTy : PySem.W.codeIn K cdTy "_law_tray" = true)
    (kTy : PySem.W.keepIn K (.ref fTy) = true)
    (aIw : PySem.W.nsIn K mainGlobals "_law_is_written" = some (some (.ref fIw)))
    (lIw : K.lookup fIw = some ⟨ocIw, odIw, .func (PySem.W.fnOf "_law_is_written" "_law_is_written" (defArgs sLawIsWritten) (defBody sLawIsWritten) (defScope sLawIsWritten) .none kVIw dcIw pmIw anIw cdIw ctIw), slIw⟩)
    (cIw : PySem.W.codeIn K cdIw "_law_is_written" = true)
    (kIw : PySem.W.keepIn K (.ref fIw) = true)
    (aLg : PySem.W.nsIn K mainGlobals "_law_log" = some (some (.ref fLg)))
    (lLg : K.lookup fLg = some ⟨ocLg, odLg, .func (PySem.W.fnOf "_law_log" "_law_log" (defArgs sLawLog) (defBody sLawLog) (defScope sLawLog) .none kVLg dcLg pmLg anLg cdLg ctLg), slLg⟩)
    (cLg : PySem.W.codeIn K cdLg "_law_log" = true)
    (kLg : PySem.W.keepIn K (.ref fLg) = true)
    (aLw : PySem.W.nsIn K mainGlobals "law" = some (some (.ref fLw)))
    (lLw : K.lookup fLw = some ⟨ocLw, odLw, .func (PySem.W.fnOf "law" "law" (defArgs sLaw) (defBody sLaw) (defScope sLaw) .none kVLw dcLw pmLw anLw cdLw ctLw), slLw⟩)
    (cLw : PySem.W.codeIn K cdLw "law" = true)
    (kLw : PySem.W.keepIn K (.ref fLw) = true)
    (ge2 : PySem.W.nsIn K mainGlobals "UnknownMarble" = some (some (.ref e2)))
    (xL2 : K.lookup e2 = some (excClassObj nm2 q2 e2 N2 bs2 bm2 true sn2 sub2 ab2 col2 dd2 m02 m12 m22 m32 m52 "ValueError.__new__"))
    (xb2 : PySem.HandSPX.refsVE bm2 = true)
    (xsa2 : PySem.W.findIn K (.ref e2) "__setattr__" = some (some (.builtin "object.__setattr__")))
    (xex2 : PySem.W.subIn K (.ref e2) (.type "BaseException") = some true)
    (xty2 : PySem.W.typeIn K (.ref e2) = some (.type "type"))
    (xk2 : PySem.W.keepIn K (.ref e2) = true)
    (aIx2 : PySem.W.findIn K (.ref e2) "__init__" = some (some (.ref fIx2)))
    (tIx2 : PySem.W.typeIn K (.ref fIx2) = some (.type "function"))
    (lIx2 : K.lookup fIx2 = some ⟨ocIx2, odIx2, .func (PySem.W.fnX "__init__" "UnknownMarble.__init__" (defArgs sUnknownMarbleInit) (defBody sUnknownMarbleInit) (defScope sUnknownMarbleInit) [("__class__", cc2)] .none kVIx2 dcIx2 pmIx2 anIx2 (.ref cdIx2) ctIx2), slIx2⟩)
    (cIx2 : PySem.W.codeIn K (.ref cdIx2) "UnknownMarble.__init__" = true)
    (kx12 : K.lookup cdIx2 = some ⟨ccl2, cdd2, .fields vsx2, ccs2⟩)
    (kx22 : vsx2[2]? = some (.str fileX2 tfX2))
    (kx32 : ((P.main.file : Str) == fileX2) = true)
    (kx42 : K.lookup cc2 = some ⟨cl02, cld02, .cell (some (.ref e2)), csl02⟩)
    (kx52 : PySem.W.mroIn K e2 (.ref e2) = some true)
    (kx62 : PySem.W.ks_superIn K e2 e2 "__init__" = some (some (.builtin "ValueError.__init__")))
    (kx72 : PySem.W.subIn K (.ref e2) (.type "ValueError") = some true)
    (nI3 : PySem.W.findIn K (.ref e2) "marble" = some none)
    (kx8 : PySem.W.nsIn K cStatics "thirdparty.any" = some none)
    (kx9 : (P.main.scope.names.lookup ("super" : Str)).isSome = false)
    (ge3 : PySem.W.nsIn K mainGlobals "InvalidPlace" = some (some (.ref e3)))
    (q3 : PySem.W.excIn K e3 [.type "ValueError", .type "Exception", .type "BaseException", .type "object"] "ValueError.__new__" = true)
    (k3 : PySem.W.keepIn K (.ref e3) = true)
    (t3 : PySem.W.typeIn K (.ref e3) = some (.type "type"))
    (hs_3 : PySem.W.subIn K (.ref e3) (.type "BaseException") = some true)
    (eAR : zAR = S [108, 114])
    (eAC : zAC = S [117, 100])
    (eEM : zEM = S [46])
    (eLE : zLE = S letters)
    (eMS : iMS = 8)
    (eMX : iMX = 60)
    (eaStilt : iaStilt = 2)
    (eaSput : iaSput = 3)
    (eaStake : iaStake = 2)
    (eMY : iMY = ((255 : Nat) : Int))
    (eFB : iFB = 84)
    (eHS : iHS = 4)
    (eFC : iFC = 6)
    (eCM : iCM = 239)
    (hDC : D ≠ C)
    (h0 : t0 ≠ 0)
    : ∀ base : Heap, K.In base → base.Ns mainGlobals mg → FnRn (t0 + 1) P w K mg base CX0 10 fa (spLaw19 K) := by
  intro base _ _
  subst eAR eAC eEM eLE eMS eMX eaStilt eaSput eaStake eMY eFB eHS eFC eCM
  have g : ∀ {n : Str} {v : Value}, PySem.W.nsIn K mainGlobals n = some (some v) → mg n = some v := fun e => PySem.W.mg_of X G e
  have g0 : ∀ {n : Str}, PySem.W.nsIn K mainGlobals n = some none → mg n = none := fun e => PySem.W.mg_none_of X G e
  obtain rfl : fLw = fa := by
    have e := hfa.symm.trans (g aLw)
    cases e
    rfl
  have raw0 : ∀ {CX : CXT} {k : Nat} {f : Addr} {fd : FuncData} {ps : List Str} {sp : Sp}, FnOk P w K mg base CX k f fd ps sp → Binds K fd ps [] → FnR P w K mg base CX k f sp := fun F b => (F.raw b .nil).imp fun vs H Q E h => by rw [List.append_nil]; exact h
  have T : TxtW K mg := ⟨g0 b_len, g0 b_isinstance, g0 b_str, g0 b_enumerate, ⟨_, g cAR, _, rfl⟩, ⟨_, g cAC, _, rfl⟩⟩
  have U : TxtT K mg t0 := ⟨g cEM, ⟨_, g cLE, _, rfl⟩, ⟨_, g cMS, _, rfl⟩, g0 b_set, g0 b_zip, g0 b_tuple⟩
  have L : TxtL K mg := ⟨g0 b_int, g0 b_range, g0 b_min⟩
  have clC : Cls K C := ⟨pgC, hdC, poC, saC⟩
  have clD : Cls K D := ⟨pgD, hdD, poD, saD⟩
  have CW : ClsW K mg C := ⟨clC, nT, g aC, .type "type", _, ⟨rdC, gaC⟩, mx, _, rfl⟩
  have CT : ClsT K mg D := ⟨clD, nR, g aD⟩
  have IC : C8.InsC K C := ⟨clC, ih, in_, itk, im, if_pos (by simp)⟩
  have ID : C8.InsC K D := ⟨clD, ihD, in_, itk, imD, if_pos (by simp)⟩
  have FIt := fun_mk (st := sIsTilt) lIt cIt kIt
  have BIt := FIt.binds (ps := ["value"]) fun _ _ _ _ _ _ us hl => match us, hl with | [_], _ => rfl
  have FFw := fun_mk (st := sFirstWrongIndex) lFw cFw kFw
  have BFw := FFw.binds (ps := ["text"]) fun _ _ _ _ _ _ us hl => match us, hl with | [_], _ => rfl
  have FWi := fun_mk (st := sWordInit) lWi cWi kWi
  have BWi := FWi.binds (ps := ["self", "text"]) fun _ _ _ _ _ _ us hl => match us, hl with | [_, _], _ => rfl
  have FWt := fun_mk (st := sWordText) lWt cWt kWt
  have BWt := FWt.binds (ps := ["self"]) fun _ _ _ _ _ _ us hl => match us, hl with | [_], _ => rfl
  have FTo := fun_mk (st := sTrayOfText) lTo cTo kTo
  have BTo := FTo.binds (ps := ["cls", "text"]) fun _ _ _ _ _ _ us hl => match us, hl with | [_, _], _ => rfl
  have FRs := fun_mk (st := sTrayRshift) lRs cRs kRs
  have BRs := FRs.binds (ps := ["self", "other"]) fun _ _ _ _ _ _ us hl => match us, hl with | [_, _], _ => rfl
  have FFc := fun_mk (st := sFirstWrongCell) lFc cFc kFc
  have BFc := FFc.binds (ps := ["rows"]) fun _ _ _ _ _ _ us hl => match us, hl with | [_], _ => rfl
  have FIr := fun_mk (st := sIsRow) lIr cIr kIr
  have BIr := FIr.binds (ps := ["row"]) fun _ _ _ _ _ _ us hl => match us, hl with | [_], _ => rfl
  have FTd := fun_mk (st := sTilted) lTd cTd kTd
  have BTd := FTd.binds (ps := ["rows", "tilt"]) fun _ _ _ _ _ _ us hl => match us, hl with | [_, _], _ => rfl
  have FSl := fun_mk (st := sSlid) lSl cSl kSl
  have BSl := FSl.binds (ps := ["line", "to_beginning"]) fun _ _ _ _ _ _ us hl => match us, hl with | [_, _], _ => rfl
  have FTr := fun_mk (st := sTrayRows) lTr cTr kTr
  have BTr := FTr.binds (ps := ["self"]) fun _ _ _ _ _ _ us hl => match us, hl with | [_], _ => rfl
  have FTe := fun_mk (st := sTrayEq) lTe cTe kTe
  have BTe := FTe.binds (ps := ["self", "other"]) fun _ _ _ _ _ _ us hl => match us, hl with | [_, _], _ => rfl
  have FMb := fun_mk (st := sTrayMarbles) lMb cMb kMb
  have BMb := FMb.binds (ps := ["self"]) fun _ _ _ _ _ _ us hl => match us, hl with | [_], _ => rfl
  have FWd := fun_mk (st := sTrayWidth) lWd cWd kWd
  have BWd := FWd.binds (ps := ["self"]) fun _ _ _ _ _ _ us hl => match us, hl with | [_], _ => rfl
  have FHt := fun_mk (st := sTrayHeight) lHt cHt kHt
  have BHt := FHt.binds (ps := ["self"]) fun _ _ _ _ _ _ us hl => match us, hl with | [_], _ => rfl
  have FTc := fun_mk (st := sTrayContains) lTc cTc kTc
  have BTc := FTc.binds (ps := ["self", "x"]) fun _ _ _ _ _ _ us hl => match us, hl with | [_, _], _ => rfl
  have FCl := fun_mk (st := sTrayCall) lCl cCl kCl
  have BCl := FCl.binds (ps := ["self", "marble"]) fun _ _ _ _ _ _ us hl => match us, hl with | [_, _], _ => rfl
  have FNu := fun_mk (st := sIsNumber) lNu cNu kNu
  have BNu := FNu.binds (ps := ["value", "limit"]) fun _ _ _ _ _ _ us hl => match us, hl with | [_, _], _ => rfl
  have FPl := fun_mk (st := sIsPlace) lPl cPl kPl
  have BPl := FPl.binds (ps := ["value", "height", "width"]) fun _ _ _ _ _ _ us hl => match us, hl with | [_, _, _], _ => rfl
  have FCv := fun_mk (st := sCheckPlace) lCv cCv kCv
  have BCv := FCv.binds (ps := ["tray", "place"]) fun _ _ _ _ _ _ us hl => match us, hl with | [_, _], _ => rfl
  have FAt := fun_mk (st := sTrayAt) lAt cAt kAt
  have BAt := FAt.binds (ps := ["self", "place"]) fun _ _ _ _ _ _ us hl => match us, hl with | [_, _], _ => rfl
  have FIl := fun_mk (st := sIsLetter) lIl cIl kIl
  have BIl := FIl.binds (ps := ["value"]) fun _ _ _ _ _ _ us hl => match us, hl with | [_], _ => rfl
  have FWc := fun_mk (st := sWithCell) lWc cWc kWc
  have BWc := FWc.binds (ps := ["tray", "place", "cell"]) fun _ _ _ _ _ _ us hl => match us, hl with | [_, _, _], _ => rfl
  have FAk := fun_mk (st := sAfterTake) lAk cAk kAk
  have BAk := FAk.binds (ps := ["tray", "marble"]) fun _ _ _ _ _ _ us hl => match us, hl with | [_, _], _ => rfl
  have FAp := fun_mk (st := sAfterPut) lAp cAp kAp
  have BAp := FAp.binds (ps := ["tray", "marble", "place"]) fun _ _ _ _ _ _ us hl => match us, hl with | [_, _, _], _ => rfl
  have FAl := fun_mk (st := sAfterTilt) lAl cAl kAl
  have BAl := FAl.binds (ps := ["tray", "tilt"]) fun _ _ _ _ _ _ us hl => match us, hl with | [_, _], _ => rfl
  have FIo := fun_mk (st := sIsOperation) lIo cIo kIo
  have BIo := FIo.binds (ps := ["value"]) fun _ _ _ _ _ _ us hl => match us, hl with | [_], _ => rfl
  have FPr := fun_mk (st := sLiveTrayPresentTray) lPr cPr kPr
  have BPr := FPr.binds (ps := ["self"]) fun _ _ _ _ _ _ us hl => match us, hl with | [_], _ => rfl
  have FEs := fun_mk (st := sLiveTrayExtendState) lEs cEs kEs
  have BEs := FEs.binds (ps := ["self", "operations", "later_trays"]) fun _ _ _ _ _ _ us hl => match us, hl with | [_, _, _], _ => rfl
  have FMt := fun_mk (st := sLiveTrayTilt) lMt cMt kMt
  have BMt := FMt.binds (ps := ["self", "tilt"]) fun _ _ _ _ _ _ us hl => match us, hl with | [_, _], _ => rfl
  have FMp := fun_mk (st := sLiveTrayPut) lMp cMp kMp
  have BMp := FMp.binds (ps := ["self", "marble", "place"]) fun _ _ _ _ _ _ us hl => match us, hl with | [_, _, _], _ => rfl
  have FMk := fun_mk (st := sLiveTrayTake) lMk cMk kMk
  have BMk := FMk.binds (ps := ["self", "marble"]) fun _ _ _ _ _ _ us hl => match us, hl with | [_, _], _ => rfl
  have FUn := fun_mk (st := sLiveTrayUndo) lUn cUn kUn
  have BUn := FUn.binds (ps := ["self"]) fun _ _ _ _ _ _ us hl => match us, hl with | [_], _ => rfl
  have FHi := fun_mk (st := sLiveTrayHistory) lHi cHi kHi
  have BHi := FHi.binds (ps := ["self"]) fun _ _ _ _ _ _ us hl => match us, hl with | [_], _ => rfl
  have FLv := fun_mk (st := sLiveTrayInit) lLv cLv kLv
  have BLv := FLv.binds (ps := ["self", "tray"]) fun _ _ _ _ _ _ us hl => match us, hl with | [_, _], _ => rfl
  have FRp := fun_mk (st := sLiveTrayReplay) lRp cRp kRp
  have BRp := FRp.binds (ps := ["cls", "tray", "operations"]) fun _ _ _ _ _ _ us hl => match us, hl with | [_, _, _], _ => rfl
  have FLx := fun_mk (st := sLiveTrayContains) lLx cLx kLx
  have BLx := FLx.binds (ps := ["self", "x"]) fun _ _ _ _ _ _ us hl => match us, hl with | [_, _], _ => rfl
  have FCk := fun_mk (st := sChecksum) lCk cCk kCk
  have BCk := FCk.binds (ps := ["values"]) fun _ _ _ _ _ _ us hl => match us, hl with | [_], _ => rfl
  have FPk := fun_mk (st := sPackBytes) lPk cPk kPk
  have BPk := FPk.binds (ps := ["values"]) fun _ _ _ _ _ _ us hl => match us, hl with | [_], _ => rfl
  have FUp := fun_mk (st := sUnpackBytes) lUp cUp kUp
  have BUp := FUp.binds (ps := ["data"]) fun _ _ _ _ _ _ us hl => match us, hl with | [_], _ => rfl
  have FRd := fun_mk (st := sRead) lRd cRd kRd
  have BRd := FRd.binds (ps := ["data", "offset", "least", "most"]) fun _ _ _ _ _ _ us hl => match us, hl with | [_, _, _, _], _ => rfl
  have FEn := fun_mk (st := sEncodeTray) lEn cEn kEn
  have BEn := FEn.binds (ps := ["tray"]) fun _ _ _ _ _ _ us hl => match us, hl with | [_], _ => rfl
  have FDe := fun_mk (st := sDecodeTray) lDe cDe kDe
  have BDe := FDe.binds (ps := ["data"]) fun _ _ _ _ _ _ us hl => match us, hl with | [_], _ => rfl
  have FBd := fun_mk (st := sBorder) lBd cBd kBd
  have BBd := FBd.binds (ps := ["width"]) fun _ _ _ _ _ _ us hl => match us, hl with | [_], _ => rfl
  have FDr := fun_mk (st := sDrawing) lDr cDr kDr
  have BDr := FDr.binds (ps := ["tray"]) fun _ _ _ _ _ _ us hl => match us, hl with | [_], _ => rfl
  have FKl := fun_mk (st := sCheckLine) lKl cKl kKl
  have BKl := FKl.binds (ps := ["lines", "number", "allowed"]) fun _ _ _ _ _ _ us hl => match us, hl with | [_, _, _], _ => rfl
  have FPd := fun_mk (st := sParseDrawing) lPd cPd kPd
  have BPd := FPd.binds (ps := ["text"]) fun _ _ _ _ _ _ us hl => match us, hl with | [_], _ => rfl
  have FMz := fun_mk (st := sMarbleTable) lMz cMz kMz
  have BMz := FMz.binds (ps := ["tray"]) fun _ _ _ _ _ _ us hl => match us, hl with | [_], _ => rfl
  have FPo := fun_mk (st := sArePlacesOf) lPo cPo kPo
  have BPo := FPo.binds (ps := ["tray", "places"]) fun _ _ _ _ _ _ us hl => match us, hl with | [_, _], _ => rfl
  have FFl := fun_mk (st := sFirstLogError) lFl cFl kFl
  have BFl := FFl.binds (ps := ["tray", "log"]) fun _ _ _ _ _ _ us hl => match us, hl with | [_, _], _ => rfl
  have FTk := fun_mk (st := sLawTaken) lTk cTk kTk
  have BTk := FTk.binds (ps := ["_law_row", "_law_many"]) fun _ _ _ _ _ _ us hl => match us, hl with | [_, _], _ => rfl
  have FRw := fun_mk (st := sLawRows) lRw cRw kRw
  have BRw := FRw.binds (ps := ["_law_row", "_law_most"]) fun _ _ _ _ _ _ us hl => match us, hl with | [_, _], _ => rfl
  have FTx := fun_mk (st := sLawText) lTx cTx kTx
  have BTx := FTx.binds (ps := ["_law_row", "_law_most"]) fun _ _ _ _ _ _ us hl => match us, hl with | [_, _], _ => rfl
  have FTy := fun_mk (st := sLawTray) lTy cTy kTy
  have BTy := FTy.binds (ps := ["_law_rows_here"]) fun _ _ _ _ _ _ us hl => match us, hl with | [_], _ => rfl
  have FIw := fun_mk (st := sLawIsWritten) lIw cIw kIw
  have BIw := FIw.binds (ps := ["_law_tray_here"]) fun _ _ _ _ _ _ us hl => match us, hl with | [_], _ => rfl
  have FLg := fun_mk (st := sLawLog) lLg cLg kLg
  have BLg := FLg.binds (ps := ["_law_tray_here", "_law_text_here"]) fun _ _ _ _ _ _ us hl => match us, hl with | [_, _], _ => rfl
  have FLw := fun_mk (st := sLaw) lLw cLw kLw
  have BLw := FLw.binds (ps := ["_law_script"]) fun _ _ _ _ _ _ us hl => match us, hl with | [_], _ => rfl
  have FTi := fun_mk (st := sTrayInit) lTi cTi kTi
  have FAy := fun_mk (st := sLiveTrayApply) lAy cAy kAy
  have ox2 : OexC K e2 := ⟨⟨nm2, q2, N2, bs2, bm2, sn2, sub2, ab2, col2, dd2, m02, m12, m22, m32, m52, xL2, xb2⟩, xsa2, xex2, xty2, xk2⟩
  have XT2 : ExcT K mg "UnknownMarble" e2 fIx2 := ⟨ox2, g ge2, aIx2, tIx2⟩
  have GIx2 := ok_um (P := P) (w := w) (base := base) (mg := mg) (CX := CX0) lIx2 cIx2 ⟨⟨_, _, _, lIx2⟩, rfl, ⟨_, _, _, _, _, _, kx12, kx22, kx32⟩, ⟨_, _, _, kx42⟩, kx52, kx62, kx72, kx8, kx9⟩ rfl ox2 (g0 b_super) nI3
  have BIx2 : Binds K (PySem.W.fnX "__init__" "UnknownMarble.__init__" (defArgs sUnknownMarbleInit) (defBody sUnknownMarbleInit) (defScope sUnknownMarbleInit) [("__class__", cc2)] .none kVIx2 dcIx2 pmIx2 anIx2 (.ref cdIx2) ctIx2) ["self", "marble"] [] := Binds.all fun us hl => match us, hl with | [_, _], _ => rfl
  have GIt : FnOk P w K mg base CX0 1 fIt _ ["value"] spIt := ok_it FIt T
  have GFw : FnOk P w K mg base CX0 2 fFw _ ["text"] spFwi := ok_fwi FFw T CW FIt BIt (g aIt)
  have GWi : FnOk P w K mg base CX0 3 fWi _ ["self", "text"] (spWi C) := ok_wi FWi CW GFw kFw BFw (g aFw)
  have MC : Mk K C fWi := ⟨mkC, aWi, iWi, kcC⟩
  have scWt : FnScope ["self"] ["self"] (defScope sWordText) := ⟨rfl, rfl, rfl, by decide +kernel, rfl, by decide +kernel, by decide +kernel⟩
  have GWg : FnOk P w K mg base CX0 1 fWt _ ["self"] (getSp C "_text") := fn_getter (k := 0) lWt cWt scWt rfl rfl clC nT
  have PWt : PropOf K C "text" qWt fWt := ⟨pWt, pgtWt, ptkWt, _, aWt⟩
  have GFc : FnOk P w K mg base CX0 2 fFc _ ["rows"] (spFc K) := ok_fc FFc T U FIr BIr (g aIr)
  have GTi := ok_ti (P := P) (w := w) (base := base) FTi CT GFc kFc BFc (g aFc)
  have MD : Mk K D fTi := ⟨mkD, aTi, iTi, kcD⟩
  have GTo : FnOk P w K mg base CX0 5 fTo _ ["cls", "text"] (spOt K D) := ok_ot FTo T MD GTi
  have GSl : FnRn (t0 + 1) P w K mg base CX0 1 fSl spSl := ok_sl FSl T U BSl h0 (Nat.lt_succ_self _)
  have GTd : FnRn (t0 + 1) P w K mg base CX0 2 fTd (spTd K) := ok_td FTd T U BTd GSl kSl (g aSl)
  have eR1 : PySem.dunder Operator.RShift.info.2 = ("__rshift__" : Str) := by decide +kernel
  have eR2 : PySem.dunderR Operator.RShift.info.2 = ("__rrshift__" : Str) := by decide +kernel
  have NO : NoOp K C Operator.RShift.info.2 := ⟨⟨_, nc, nm⟩, by rw [eR1]; exact n1, by rw [eR2]; exact n2, by rw [eR1]; exact n3, by rw [eR2]; exact n4⟩
  have hs : PySem.W.findIn K (.ref D) (PySem.dunder Operator.RShift.info.2) = some (some (.ref fRs)) := by rw [eR1]; exact aRs
  have GRs : FnRn (t0 + 1) P w K mg base CX0 5 fRs (spRs K C D) := ok_rs FRs T CW CT IC BRs PWt GWg BWt GTd kTd (g aTd) MD GTi
  have scTr : FnScope ["self"] ["self"] (defScope sTrayRows) := ⟨rfl, rfl, rfl, by decide +kernel, rfl, by decide +kernel, by decide +kernel⟩
  have GTr : FnOk P w K mg base CX0 1 fTr _ ["self"] (getSp D "_rows") := fn_getter (k := 0) lTr cTr scTr rfl rfl clD nR
  have PTr : PropOf K D "rows" qTr fTr := ⟨pTr, pgtTr, ptkTr, _, aTr⟩
  have GTe : FnOk P w K mg base CX0 1 fTe _ ["self", "other"] (TW.spTe K D) := TW.ok_te FTe T CT ID
  have GTf := raw0 GTe BTe
  have TM_ : TxtM K mg := ⟨⟨_, g cEM, _, rfl⟩, g0 b_sorted, g0 b_len⟩
  have PMb : PropOf K D "marbles" qMb fMb := ⟨pMb, pgtMb, ptkMb, _, aMb⟩
  have PHt : PropOf K D "height" qHt fHt := ⟨pHt, pgtHt, ptkHt, _, aHt⟩
  have PWd : PropOf K D "width" qWd fWd := ⟨pWd, pgtWd, ptkWd, _, aWd⟩
  have GMb : FnOk P w K mg base CX0 1 fMb _ ["self"] (spMb K D) := ok_mb FMb TM_ CT
  have GHt : FnOk P w K mg base CX0 1 fHt _ ["self"] (spHt K D) := ok_ht FHt TM_ CT
  have GWd : FnOk P w K mg base CX0 1 fWd _ ["self"] (spWd K D) := ok_wd FWd TM_ CT
  have GTc : FnOk P w K mg base CX0 3 fTc _ ["self", "x"] (spTc K D) := ok_tc FTc T CT PMb GMb BMb
  have GCl : FnOk P w K mg base (L2.CX P w) 4 fCl _ ["self", "marble"] (spCl K D e2) := ok_cl FCl CT (g0 b_divmod) aTc iTc (raw0 GTc BTc) PWd GWd BWd XT2 GIx2 BIx2
  have CO : StX.CallO K D fCl := ⟨aCl, iCl, fnCl⟩
  have GC := raw0 GCl BCl
  have N : TA.TxtN K mg := ⟨g0 b_isinstance, g0 b_bool, g0 b_int⟩
  have TP_ : TxtP K mg := ⟨g0 b_isinstance, g0 b_tuple, g0 b_len⟩
  have XN3 : TA.ExN K mg "InvalidPlace" e3 := ⟨q3, g ge3, k3, hs_3, t3⟩
  have GNu : FnOk P w K mg base CX0 1 fNu _ ["value", "limit"] (TA.spNum K) := TA.ok_num FNu N
  have GPl : FnOk P w K mg base CX0 2 fPl _ ["value", "height", "width"] (spPl K) := ok_pl FPl TP_ GNu kNu BNu (g aNu)
  have GCv : FnOk P w K mg base (L2.CX P w) 3 fCv _ ["tray", "place"] (spCp K D e3) := ok_cp FCv CT GPl kPl BPl (g aPl) PHt GHt BHt PWd GWd BWd XN3
  have GAt : FnOk P w K mg base (L2.CX P w) 4 fAt _ ["self", "place"] (spAt K D e3) := ok_at FAt TM_ CT GCv kCv BCv (g aCv)
  have GTk : ∀ a ns, FnOk P w K mg base CX0 1 fTk _ ["_law_row", "_law_many"] (spTk K a ns) := fun a ns => ok_tk FTk T L
  have GTx : ∀ a ns, FnOk P w K mg base CX0 2 fTx _ ["_law_row", "_law_most"] (spTx K a ns) := fun a ns => ok_tx FTx L (GTk a ns) kTk BTk (g aTk)
  have GRw : ∀ a ns, FnOk P w K mg base CX0 2 fRw _ ["_law_row", "_law_most"] (spRw K a ns) := fun a ns => ok_rw FRw T L (GTk a ns) kTk BTk (g aTk)
  have GRwN : ∀ a ns, FnOk P w K mg base CX0 2 fRw _ ["_law_row", "_law_most"] (spRwN K a ns) := fun a ns => ok_rwN FRw T L (GTk a ns) kTk BTk (g aTk)
  have clV : Cls K V := ⟨pgV, hdV, poV, saV⟩
  have CL : ClsL K mg V := ⟨clV, nVs, nVb, g aV⟩
  have GIl : FnOk P w K mg base CX0 1 fIl _ ["value"] spIl := ok_il FIl T U
  have GWc : FnOk P w K mg base CX0 5 fWc _ ["tray", "place", "cell"] (spWc K D) := ok_wc FWc (g0 b_list) CT PTr GTr BTr MD GTi
  have GAk : FnOk P w K mg base CX0 6 fAk _ ["tray", "marble"] (spAk K D) := ok_ak FAk ⟨_, g cEM, _, rfl⟩ CO GC GWc kWc BWc (g aWc)
  have GAp : FnOk P w K mg base CX0 6 fAp _ ["tray", "marble", "place"] (spAp K D) := ok_ap FAp (g0 b_len) CT GIl kIl BIl (g aIl) aTc iTc (raw0 GTc BTc) ⟨aAt, iAt, kAt⟩ GAt BAt PMb GMb BMb GWc kWc BWc (g aWc)
  have GAl : FnRn (t0 + 1) P w K mg base CX0 6 fAl (spAl_ K D) := ok_al_ FAl BAl CW CT hDC sf NO hs iRs GRs GIt kIt BIt (g aIt) MC GWi BWi CO GC PMb GMb BMb
  have GIo : FnOk P w K mg base CX0 1 fIo _ ["value"] (spIo K w aS) := ok_io FIo T (g0 b_tuple) (g caS) nSys
  have PPr : PropOf K V "present_tray" qPr fPr := ⟨pPr, pgtPr, ptkPr, _, aPr⟩
  have PHi : PropOf K V "history" qHi fHi := ⟨pHi, pgtHi, ptkHi, _, aHi⟩
  have GPr : FnOk P w K mg base CX0 1 fPr _ ["self"] (spPr K V D) := ok_pr FPr CL
  have GEs : FnOk P w K mg base CX0 1 fEs _ ["self", "operations", "later_trays"] (spEs K V D) := ok_es FEs CL (g0 b_len)
  have acts := act_ok (K := K) (D := D) GAl kAl (fun A outer s H us vs Q E _ => (raw0 GAp BAp) A outer s H us vs Q E) kAp (fun A outer s H us vs Q E _ => (raw0 GAk BAk) A outer s H us vs Q E) kAk
  have AF : ApF P w K mg base (t0 + 1) V D aS := { cl := CL, enu := g0 b_enumerate, tup := g0 b_tuple, fIo := ⟨_, _, GIo, kIo, BIo, g aIo⟩, pPr := ⟨_, _, _, PPr, GPr, BPr⟩, mEs := ⟨_, _, ⟨aEs, iEs, kEs⟩, GEs, BEs⟩, act := ⟨aA, fAl, fAp, fAk, g caA, ⟨_, _, _, laA, haA, vaAtilt, rfl⟩, ⟨_, _, _, laA, haA, vaAput, rfl⟩, ⟨_, _, _, laA, haA, vaAtake, rfl⟩, acts⟩, siz := ⟨⟨_, _, _, laS, haS, vaStilt, _, rfl⟩, ⟨_, _, _, laS, haS, vaSput, _, rfl⟩, ⟨_, _, _, laS, haS, vaStake, _, rfl⟩⟩ }
  have GAy : FnRn (t0 + 1) P w K mg base CX0 7 fAy (spAy K V D) := ok_apC FAy AF (StX.bind_star1 (B := fun us => bindArgs (PySem.W.fnOf "apply" "LiveTray.apply" (defArgs sLiveTrayApply) (defBody sLiveTrayApply) (defScope sLiveTrayApply) .none kVAy dcAy pmAy anAy cdAy ctAy) ⟨us, []⟩) (p1 := "self") (pv := "operations") (fun _ => rfl) fun _ _ _ => rfl)
  have MAy : Meth K V "apply" fAy := ⟨aAy, iAy, kAy⟩
  have GMt := fun c => ok_mt (P := P) (w_ := w) (base := base) (K := K) (D := D) FMt BMt CL MAy GAy c
  have GMp := fun c i j => ok_mp (P := P) (w_ := w) (base := base) (K := K) (D := D) FMp BMp CL MAy GAy c i j
  have GMk := fun c => ok_mk (P := P) (w_ := w) (base := base) (K := K) (D := D) FMk BMk CL MAy GAy c
  have MLv : Mk K V fLv := ⟨mkV, aLv, iLv, kcV⟩
  have GLv : FnOk P w K mg base CX0 1 fLv _ ["self", "tray"] (spLi K V D) := ok_li FLv CL
  have GLx : FnOk P w K mg base CX0 4 fLx _ ["self", "x"] (spLx K V D) := ok_lx FLx CL PPr GPr BPr aTc iTc (raw0 GTc BTc)
  have GMt_ : FnRn (t0 + 1) P w K mg base CX0 8 fMt (spMt K V D) := fun A outer s H us vs Q E hn hr I r ⟨c, h⟩ => GMt c A outer s H us vs Q E hn hr I r h
  have T9 : CodF K mg := ⟨g0 b_int, g0 b_isinstance, g0 b_list, g0 b_bytes, g0 b_all, g0 b_len, g0 b_range, g0 b_min, ⟨_, g cMY, _, rfl⟩, ⟨_, g cFB, _, rfl⟩, ⟨_, g cHS, _, rfl⟩, ⟨_, g cFC, _, rfl⟩, ⟨_, g cCM, _, rfl⟩⟩
  have GCk : FnOk P w K mg base CX0 1 fCk _ ["values"] (spCk K) := ok_ck FCk T9
  have GPk : FnOk P w K mg base CX0 2 fPk _ ["values"] (spPk K) := ok_pk FPk T9 GNu kNu BNu (g aNu)
  have GUp : FnOk P w K mg base CX0 1 fUp _ ["data"] spUp := ok_up FUp T9
  have GRd : FnOk P w K mg base CX0 1 fRd _ NRd spRd := ok_rd FRd T9
  have GEn : FnOk P w K mg base CX0 5 fEn _ ["tray"] (spEn K D) := ok_en FEn T9 ⟨_, g cLE, _, rfl⟩ CT PMb GMb BMb PWd GWd BWd PHt GHt BHt CO GC GCk kCk BCk (g aCk) GPk kPk BPk (g aPk)
  have GDe : FnOk P w K mg base CX0 5 fDe _ ["data"] (spDe K D) := ok_de FDe T9 U CT GCk kCk BCk (g aCk) GRd kRd BRd (g aRd) MD GTi
  have GBd : FnOk P w K mg base CX0 1 fBd _ NBd spBd := ok_bd FBd
  have GDr : FnOk P w K mg base CX0 4 fDr _ ["tray"] (spDr K D) := ok_dr FDr CT PTr GTr BTr PWd GWd BWd GBd kBd BBd (g aBd)
  have GKl : FnOk P w K mg base CX0 1 fKl _ ["lines", "number", "allowed"] (spCL K) := ok_cL FKl T9 (g0 b_enumerate) ⟨_, g cLE, _, rfl⟩
  have GPd : FnOk P w K mg base CX0 5 fPd _ ["text"] (spPd K D) := ok_pd FPd T9 (g0 b_str) U CT GBd kBd BBd (g aBd) GKl kKl BKl (g aKl) MD GTi
  have GMz : FnOk P w K mg base CX0 5 fMz _ ["tray"] (spMT K D) := ok_mt_ FMz CT PMb GMb BMb CO GC
  have GPo : FnOk P w K mg base CX0 5 fPo _ ["tray", "places"] (spPo K D) := ok_po FPo T (g0 b_dict) CT GPl kPl BPl (g aPl) PMb GMb BMb PHt GHt BHt PWd GWd BWd CO GC
  have GFl : FnRn (t0 + 1) P w K mg base CX0 6 fFl (spFx K D) := ok_fx FFl BFl T (g0 b_list) (g0 b_tuple) CW hDC sf NO hs iRs GRs GIt kIt BIt (g aIt) MC GWi BWi GPo kPo BPo (g aPo)
  have GTy : FnOk P w K mg base CX0 6 fTy _ ["_law_rows_here"] (spTry K D) := ok_try FTy CT ⟨rdD, gaD⟩ ⟨pTo, ⟨_, aTo⟩, fiTo⟩ (raw0 GTo BTo)
  have GIw : FnOk P w K mg base CX0 6 fIw _ ["_law_tray_here"] (spIw K D) := ok_iw_ FIw { cod := T9, ct := CT, dm := g0 b_divmod, m := ⟨_, _, _, PMb, GMb, BMb⟩, w := ⟨_, _, _, PWd, GWd, BWd⟩, h := ⟨_, _, _, PHt, GHt, BHt⟩, r := ⟨_, _, _, PTr, GTr, BTr⟩, call := ⟨_, CO, GC⟩, eq := ⟨_, aTe, iTe, GTf⟩, ot := ⟨_, _, _, ⟨rdD, gaD⟩, ⟨pTo, ⟨_, aTo⟩, fiTo⟩, raw0 GTo BTo⟩, dr := ⟨_, _, GDr, kDr, BDr, g aDr⟩, pd := ⟨_, _, GPd, kPd, BPd, g aPd⟩, mt := ⟨_, _, GMz, kMz, BMz, g aMz⟩, up := ⟨_, _, GUp, kUp, BUp, g aUp⟩, pk := ⟨_, _, GPk, kPk, BPk, g aPk⟩, en := ⟨_, _, GEn, kEn, BEn, g aEn⟩, de := ⟨_, _, GDe, kDe, BDe, g aDe⟩ }
  have GLg : FnRn (t0 + 1) P w K mg base CX0 9 fLg (spLg K D) := ok_lg FLg BLg (g0 b_dict) CT CL MLv GLv BLv ⟨aMt, iMt, kMt⟩ GMt_ PPr GPr BPr PMb GMb BMb CO GC
  have J : L19 P w K mg base (t0 + 1) D C e2 := { rng := g0 b_range, dict := g0 b_dict, len := g0 b_len, ct := CT, cw := CW, dc := hDC, sf := sf, no := NO, rs := ⟨_, hs, iRs, GRs⟩, mw := ⟨_, _, MC, GWi, BWi⟩, fRw := ⟨_, _, GRw, kRw, BRw, g aRw⟩, fTx := ⟨_, _, GTx, kTx, BTx, g aTx⟩, fTy := ⟨_, _, GTy, kTy, BTy, g aTy⟩, fIw := ⟨_, _, GIw, kIw, BIw, g aIw⟩, fLg := ⟨_, GLg, kLg, g aLg⟩, fFl := ⟨_, GFl, kFl, g aFl⟩, m := ⟨_, _, _, PMb, GMb, BMb⟩, call := ⟨_, CO, GC⟩ }
  exact ok_law19 FLw BLw J
end TI
end
section
set_option Elab.async false
set_option maxRecDepth 100000
set_option linter.all false
namespace TK
open PySem L2 TM
open PySem.Spec PyProof.Rows TH
/-- the script as the law finds it: locked, unless it is an object of the top -/
def scr (K : PySem.W.Frag) (a : Addr) (vs : List Value) (ns : List Int) : Hp := fun b => if b = a ∧ K.lookup a = none then some (.frz { cls := .type "list", data := .seq vs.toArray } (.lst (ns.map V.int))) else none
theorem scr_at {K : PySem.W.Frag} {a b : Addr} {vs : List Value} {ns : List Int} {u : HO} (h : scr K a vs ns b = some u) : b = a ∧ K.lookup a = none ∧ u = .frz { cls := .type "list", data := .seq vs.toArray } (.lst (ns.map V.int)) := by
  unfold scr at h
  split at h
  · rename_i c
    exact ⟨c.1, c.2, (Option.some.inj h).symm⟩
  · cases h
theorem law_n {P : Program} {w : World} {K : PySem.W.Frag} {mg mb : Str → Option Value} {n k : Nat} {fa a : Addr} {sp : Sp} {s₁ : Shared} {vs : List Value} {ns : List Int}
    (KX : K.In s₁.heap) (hns : s₁.heap.Ns mainGlobals mg) (hb : s₁.heap.Ns builtinsNs mb) (hbb : ∀ x : Str, x ≠ "__name__" → mb x = bootBuiltins x) (hlim : s₁.heap.NoLimit) (hg : s₁.gens = #[]) (hn : n ≤ s₁.toks)
    (ha : s₁.heap.get? a = some { cls := .type "list", data := .seq vs.toArray }) (hi : Vals (ns.map V.int) vs) (hl : ns.length ≤ sizeLine) (hr : Room k callerA)
    (F : ∀ base : Heap, K.In base → base.Ns mainGlobals mg → FnRn n P w K mg base CX0 k fa sp)
    (hsp : ∀ H : Hp, SqL K H a (ns.map V.int) → sp [.ref a] H (fun v _ => v = .bl true) fun _ _ _ => False) :
    codeAny (model P w) callerA (.call (.ref fa) ⟨[.ref a], []⟩) (fun r s' => r = .ok (.ret (.bool true)) ∧ OldK s₁.heap s'.heap ∧ s'.os = s₁.os ∧ AllBare s'.gens) s₁ := by
  have hvl : vs.length = ns.length := by rw [← hi.length, List.length_map]
  have seen : SqL K (scr K a vs ns) a (ns.map V.int) := by
    cases hk : K.lookup a with
    | none => exact .inl (.inr ⟨_, if_pos ⟨rfl, hk⟩⟩)
    | some o =>
      have e := KX a o hk
      rw [ha] at e
      cases e
      exact .inr ⟨_, vs.toArray, _, hk, rfl, rfl, rfl, by rw [List.size_toArray, hvl]; exact hl, by simpa using hi⟩
  have fine : HOk P w (scr K a vs ns) s₁.heap := fun b u h => by
    obtain ⟨rfl, _, rfl⟩ := scr_at h
    exact ⟨ha, by rw [List.length_map]; exact hl, vs, _, hi, ha⟩
  generalize hH : scr K a vs ns = H at seen fine
  have only : ∀ {b : Addr} {u : HO}, H b = some u → b = a ∧ K.lookup a = none ∧ ∃ o xs, u = .frz o (.lst xs) := fun {b u} h => by
    rw [← hH] at h
    obtain ⟨z1, z2, z3⟩ := scr_at h
    exact ⟨z1, z2, _, _, z3⟩
  have dict : ∀ {b : Addr} {m : Str → Option Value}, s₁.heap.Ns b m → (hidT s₁.heap H).Ns b m := fun {b m} ⟨o, es, ep, e, d, q⟩ => by
    refine ⟨o, es, ep, hidT_get e ?_, d, q⟩
    cases hz : H b with
    | none => rfl
    | some u =>
      obtain ⟨rfl, _⟩ := only hz
      rw [ha] at e
      cases e
      cases d
  have inB : K.In (hidT s₁.heap H) := fun b o e => hidT_get (KX b o e) (by
    cases hz : H b with
    | none => rfl
    | some u =>
      obtain ⟨rfl, z, _⟩ := only hz
      rw [z] at e
      cases e)
  obtain ⟨mc, l1, l2⟩ := hlim
  have start : Env0 P w K mg (hidT s₁.heap H) callerA [] s₁ H := ⟨rfl, ⟨inB, dict hns, ⟨mb, dict hb, hbb⟩, mc, dict l1, l2⟩, fun b o e => of_hidT e, Nat.le_of_eq (hidT_size _ _), trivial, fun b z => absurd (show b ∈ ([] : List Addr) from z) (by simp), fine, .of_eq hg⟩
  refine codeAny_mono (F _ inB (dict hns) callerA [] s₁ H [.ref a] [.ref a] _ _ hn hr start (.cons rfl .nil) (hsp H seen)) fun r s' h => ?_
  cases r with
  | error e => exact False.elim h
  | ok fl =>
    cases fl with
    | next => exact False.elim h
    | brk => exact False.elim h
    | cont => exact False.elim h
    | ret u =>
      obtain ⟨v, H', os, bare, un, fine', rv, q⟩ := h
      obtain rfl : v = .bl true := q
      obtain rfl : u = Value.bool true := rv
      refine ⟨rfl, OldK.of_keep fun b o e => ?_, os, bare⟩
      cases hz : H b with
      | none => exact un.keep b o e hz (fun z => absurd (show b ∈ ([] : List Addr) from z) (by simp)) (by simp)
      | some u =>
        obtain ⟨_, _, ob, xs, rfl⟩ := only hz
        have e1 := (fine b _ hz).1
        have e2 := (fine' b _ (un.frzs b ob _ hz)).1
        rw [e] at e1
        cases e1
        exact e2
end TK
end
section
set_option Elab.async false
set_option maxRecDepth 100000
set_option linter.all false
namespace TK
open PySem PySem.W PySem.W.X PySem.Spec PyProof.Rows L2 TH
theorem ofPys_ints : ∀ ns : List Int, ofPys (ns.map PyData.int) = ns.map WData.int
  | [] => by simp [ofPys]
  | n :: ns => by
    rw [List.map_cons, List.map_cons, ofPys, ofPys_ints ns]
    rfl
theorem end_nk {l : OpenLaw} {w : World} {s₀ s₁ : Shared} {args : List WData} {vals : List Value} {as : List Addr} {fa : Addr} {K : PySem.W.Frag} {mg mb : Str → Option Value} {cl : Str → Option Addr} {mean : ExcName → Option Value} {tk n k : Nat} {sp : Sp}
    (hr : Room k callerA) (hsp : ∀ (a : Addr) (ns : List Int) (H : Hp), SqL K H a (ns.map V.int) → sp [.ref a] H (fun v _ => v = .bl true) fun _ _ _ => False)
    (hm : l.most = some 63) (KX : K.In s₁.heap) (hns : s₁.heap.Ns mainGlobals mg) (hb : s₁.heap.Ns builtinsNs mb) (hbb : ∀ x : Str, x ≠ "__name__" → mb x = bootBuiltins x) (hlim : s₁.heap.NoLimit) (hg : s₁.gens = #[])
    (L : Laid l.row.toRowW.records w s₀ s₁ args vals as) (ZT : s₀.toks = tk) (hn : n ≤ tk) (hpre : l.row.toRowW.claim.pre args = true) (hwl : WellAll w.params s₁.heap vals args)
    (F : ∀ base : Heap, K.In base → base.Ns mainGlobals mg → FnRn n l.row.toRowW.prog w K mg base CX0 k fa sp) :
    wpAny (model l.row.toRowW.prog w) callerA (PySem.call (.ref fa) vals) (fun v s' => GoodWG l.row.toRowW.claim cl mean args s₁ (.ok (.ret v)) s') (fun e s' => GoodWG l.row.toRowW.claim cl mean args s₁ (.error e) s') s₁ := by
  obtain ⟨a, vs, ns, rfl, rfl, hobj, hints, hlen⟩ := Att.script_of hm hpre hwl
  have L' : Laid l.row.toRowW.records w s₀ s₁ [ofPy (PyData.list (ns.map PyData.int))] [.ref a] as := by
    rw [show ofPy (PyData.list (ns.map PyData.int)) = WData.list (ns.map WData.int) by rw [ofPy, ofPys_ints]]
    exact L
  have htk := script_toks L' ZT
  refine enter_call (codeAny_mono (law_n (k := k) KX hns hb hbb hlim hg (Nat.le_trans hn htk) hobj (vals_ints hints) (Nat.le_trans hlen (by decide)) hr F fun H hS => hsp a ns H hS) fun r s' hq => ?_)
  obtain ⟨rfl, h2, h3, h4⟩ := hq
  exact ⟨.inl ⟨.bool true, .bool true, [], rfl, fun _ => rfl, .bool true, Att.post_true l _, fun _ => ⟨List.Pairwise.nil, fun _ hm => (nomatch hm)⟩⟩, h2, h3, h4⟩
end TK
end
set_option Elab.async false
open PySem PySem.W PySem.W.X PySem.W.ZRun PyProof.Rows
set_option maxRecDepth 100000 in
set_option maxHeartbeats 0 in
theorem PySem.Challenge.cw_tiltheap_k19_whole_texts_bytes_and_logs_holds : PySem.Challenge.rw_tiltheap_k19_whole_texts_bytes_and_logs.Holds := by
  w_on; o_law; z_head; (case hw => w_witness2)
  k_fill
  intro w s₀ s₁ mg mb G y fa o pm cd doc dV kV ho hd hcd hD hmg hg args vals as L hpre hlay hrd hwl hlo
  z_open y L KX ZH ZN ZT
  have hmg' : mg (PySem.Str.ofString "law") = some (Value.ref fa) := hmg
  clear y ZH ZN hlay hrd hlo hd hcd hD ho hmg
  refine' TK.end_nk (k := 10) (l := PySem.Challenge.rw_tiltheap_k19_whole_texts_bytes_and_logs) ⟨rfl, by decide, by decide⟩ (fun a ns H hS => ⟨a, ns, rfl, hS, fun _ => rfl⟩) rfl KX G.T.g G.T.b G.T.builtins G.T.nolimit hg L ZT ?hn hpre hwl (TI.all_mk KX G.T.g hmg' ?aC ?pgC ?hdC ?poC ?saC ?mkC ?kcC ?rdC ?gaC ?aD ?pgD ?hdD ?poD ?saD ?mkD ?kcD ?rdD ?gaD ?cAR ?cAC ?cEM ?cLE ?cMS ?nT ?nR ?ih ?in_ ?itk ?im ?ihD ?imD ?mx ?b_len ?b_isinstance ?b_str ?b_enumerate ?b_set ?b_zip ?b_tuple ?b_int ?b_range ?b_min ?b_list ?b_bool ?b_dict ?b_sorted ?b_divmod ?b_super ?b_bytes ?b_all ?aIt ?lIt ?cIt ?kIt ?aFw ?lFw ?cFw ?kFw ?aWi ?iWi ?lWi ?cWi ?kWi ?pWt ?pgtWt ?ptkWt ?aWt ?lWt ?cWt ?kWt ?aTi ?iTi ?lTi ?cTi ?kTi ?pTo ?aTo ?fiTo ?lTo ?cTo ?kTo ?aRs ?iRs ?lRs ?cRs ?kRs ?aFc ?lFc ?cFc ?kFc ?aIr ?lIr ?cIr ?kIr ?aTd ?lTd ?cTd ?kTd ?aSl ?lSl ?cSl ?kSl ?pTr ?pgtTr ?ptkTr ?aTr ?lTr ?cTr ?kTr ?aTe ?iTe ?lTe ?cTe ?kTe ?pMb ?pgtMb ?ptkMb ?aMb ?lMb ?cMb ?kMb ?pWd ?pgtWd ?ptkWd ?aWd ?lWd ?cWd ?kWd ?pHt ?pgtHt ?ptkHt ?aHt ?lHt ?cHt ?kHt ?aTc ?iTc ?lTc ?cTc ?kTc ?aCl ?iCl ?lCl ?cCl ?kCl ?fnCl ?aNu ?lNu ?cNu ?kNu ?aPl ?lPl ?cPl ?kPl ?aCv ?lCv ?cCv ?kCv ?aAt ?iAt ?lAt ?cAt ?kAt ?sf ?nc ?nm ?n1 ?n2 ?n3 ?n4 ?aV ?pgV ?hdV ?poV ?saV ?mkV ?kcV ?rdV ?gaV ?nVs ?nVb ?aIl ?lIl ?cIl ?kIl ?aWc ?lWc ?cWc ?kWc ?aAk ?lAk ?cAk ?kAk ?aAp ?lAp ?cAp ?kAp ?aAl ?lAl ?cAl ?kAl ?aIo ?lIo ?cIo ?kIo ?pPr ?pgtPr ?ptkPr ?aPr ?lPr ?cPr ?kPr ?aEs ?iEs ?lEs ?cEs ?kEs ?aMt ?iMt ?lMt ?cMt ?kMt ?aMp ?iMp ?lMp ?cMp ?kMp ?aMk ?iMk ?lMk ?cMk ?kMk ?aUn ?iUn ?lUn ?cUn ?kUn ?pHi ?pgtHi ?ptkHi ?aHi ?lHi ?cHi ?kHi ?aLv ?iLv ?lLv ?cLv ?kLv ?pRp ?aRp ?fiRp ?lRp ?cRp ?kRp ?aLx ?iLx ?lLx ?cLx ?kLx ?aAy ?iAy ?lAy ?cAy ?kAy ?bgAy ?btAy ?bfAy ?caA ?laA ?haA ?vaAtilt ?vaAput ?vaAtake ?caS ?laS ?haS ?vaStilt ?vaSput ?vaStake ?nSys ?aCk ?lCk ?cCk ?kCk ?aPk ?lPk ?cPk ?kPk ?aUp ?lUp ?cUp ?kUp ?aRd ?lRd ?cRd ?kRd ?aEn ?lEn ?cEn ?kEn ?aDe ?lDe ?cDe ?kDe ?cMY ?cFB ?cHS ?cFC ?cCM ?aBd ?lBd ?cBd ?kBd ?aDr ?lDr ?cDr ?kDr ?aKl ?lKl ?cKl ?kKl ?aPd ?lPd ?cPd ?kPd ?aMz ?lMz ?cMz ?kMz ?aPo ?lPo ?cPo ?kPo ?aFl ?lFl ?cFl ?kFl ?aTk ?lTk ?cTk ?kTk ?aRw ?lRw ?cRw ?kRw ?aTx ?lTx ?cTx ?kTx ?aTy ?lTy ?cTy ?kTy ?aIw ?lIw ?cIw ?kIw ?aLg ?lLg ?cLg ?kLg ?aLw ?lLw ?cLw ?kLw ?ge2 ?xL2 ?xb2 ?xsa2 ?xex2 ?xty2 ?xk2 ?aIx2 ?tIx2 ?lIx2 ?cIx2 ?kx12 ?kx22 ?kx32 ?kx42 ?kx52 ?kx62 ?kx72 ?nI3 ?kx8 ?kx9 ?ge3 ?q3 ?k3 ?t3 ?hs_3 ?eAR ?eAC ?eEM ?eLE ?eMS ?eMX ?eaStilt ?eaSput ?eaStake ?eMY ?eFB ?eHS ?eFC ?eCM ?hDC ?h0)
  (case aC => k_is)
  (case pgC => k_is)
  (case hdC => k_is)
  (case poC => k_is)
  (case saC => k_is)
  (case mkC => k_is)
  (case kcC => k_is)
  (case rdC => k_is)
  (case gaC => k_is)
  (case aD => k_is)
  (case pgD => k_is)
  (case hdD => k_is)
  (case poD => k_is)
  (case saD => k_is)
  (case mkD => k_is)
  (case kcD => k_is)
  (case rdD => k_is)
  (case gaD => k_is)
  (case cAR => k_is)
  (case cAC => k_is)
  (case cEM => k_is)
  (case cLE => k_is)
  (case cMS => k_is)
  (case nT => k_is)
  (case nR => k_is)
  (case ih => k_is)
  (case in_ => k_is)
  (case itk => k_is)
  (case im => k_is)
  (case ihD => k_is)
  (case imD => k_is)
  (case mx => k_is)
  (case b_len => k_is)
  (case b_isinstance => k_is)
  (case b_str => k_is)
  (case b_enumerate => k_is)
  (case b_set => k_is)
  (case b_zip => k_is)
  (case b_tuple => k_is)
  (case b_int => k_is)
  (case b_range => k_is)
  (case b_min => k_is)
  (case b_list => k_is)
  (case b_bool => k_is)
  (case b_dict => k_is)
  (case b_sorted => k_is)
  (case b_divmod => k_is)
  (case b_super => k_is)
  (case b_bytes => k_is)
  (case b_all => k_is)
  (case aIt => k_is)
  (case lIt => k_is)
  (case cIt => k_is)
  (case kIt => k_is)
  (case aFw => k_is)
  (case lFw => k_is)
  (case cFw => k_is)
  (case kFw => k_is)
  (case aWi => k_is)
  (case iWi => k_is)
  (case lWi => k_is)
  (case cWi => k_is)
  (case kWi => k_is)
  (case pWt => k_is)
  (case pgtWt => k_is)
  (case ptkWt => k_is)
  (case aWt => k_is)
  (case lWt => k_is)
  (case cWt => k_is)
  (case kWt => k_is)
  (case aTi => k_is)
  (case iTi => k_is)
  (case lTi => k_is)
  (case cTi => k_is)
  (case kTi => k_is)
  (case pTo => k_is)
  (case aTo => k_is)
  (case fiTo => k_is)
  (case lTo => k_is)
  (case cTo => k_is)
  (case kTo => k_is)
  (case aRs => k_is)
  (case iRs => k_is)
  (case lRs => k_is)
  (case cRs => k_is)
  (case kRs => k_is)
  (case aFc => k_is)
  (case lFc => k_is)
  (case cFc => k_is)
  (case kFc => k_is)
  (case aIr => k_is)
  (case lIr => k_is)
  (case cIr => k_is)
  (case kIr => k_is)
  (case aTd => k_is)
  (case lTd => k_is)
  (case cTd => k_is)
  (case kTd => k_is)
  (case aSl => k_is)
  (case lSl => k_is)
  (case cSl => k_is)
  (case kSl => k_is)
  (case pTr => k_is)
  (case pgtTr => k_is)
  (case ptkTr => k_is)
  (case aTr => k_is)
  (case lTr => k_is)
  (case cTr => k_is)
  (case kTr => k_is)
  (case aTe => k_is)
  (case iTe => k_is)
  (case lTe => k_is)
  (case cTe => k_is)
  (case kTe => k_is)
  (case pMb => k_is)
  (case pgtMb => k_is)
  (case ptkMb => k_is)
  (case aMb => k_is)
  (case lMb => k_is)
  (case cMb => k_is)
  (case kMb => k_is)
  (case pWd => k_is)
  (case pgtWd => k_is)
  (case ptkWd => k_is)
  (case aWd => k_is)
  (case lWd => k_is)
  (case cWd => k_is)
  (case kWd => k_is)
  (case pHt => k_is)
  (case pgtHt => k_is)
  (case ptkHt => k_is)
  (case aHt => k_is)
  (case lHt => k_is)
  (case cHt => k_is)
  (case kHt => k_is)
  (case aTc => k_is)
  (case iTc => k_is)
  (case lTc => k_is)
  (case cTc => k_is)
  (case kTc => k_is)
  (case aCl => k_is)
  (case iCl => k_is)
  (case lCl => k_is)
  (case cCl => k_is)
  (case kCl => k_is)
  (case fnCl => k_is)
  (case aNu => k_is)
  (case lNu => k_is)
  (case cNu => k_is)
  (case kNu => k_is)
  (case aPl => k_is)
  (case lPl => k_is)
  (case cPl => k_is)
  (case kPl => k_is)
  (case aCv => k_is)
  (case lCv => k_is)
  (case cCv => k_is)
  (case kCv => k_is)
  (case aAt => k_is)
  (case iAt => k_is)
  (case lAt => k_is)
  (case cAt => k_is)
  (case kAt => k_is)
  (case sf => k_is)
  (case nc => k_is)
  (case nm => rfl)
  (case n1 => k_is)
  (case n2 => k_is)
  (case n3 => k_is)
  (case n4 => k_is)
  (case aV => k_is)
  (case pgV => k_is)
  (case hdV => k_is)
  (case poV => k_is)
  (case saV => k_is)
  (case mkV => k_is)
  (case kcV => k_is)
  (case rdV => k_is)
  (case gaV => k_is)
  (case nVs => k_is)
  (case nVb => k_is)
  (case aIl => k_is)
  (case lIl => k_is)
  (case cIl => k_is)
  (case kIl => k_is)
  (case aWc => k_is)
  (case lWc => k_is)
  (case cWc => k_is)
  (case kWc => k_is)
  (case aAk => k_is)
  (case lAk => k_is)
  (case cAk => k_is)
  (case kAk => k_is)
  (case aAp => k_is)
  (case lAp => k_is)
  (case cAp => k_is)
  (case kAp => k_is)
  (case aAl => k_is)
  (case lAl => k_is)
  (case cAl => k_is)
  (case kAl => k_is)
  (case aIo => k_is)
  (case lIo => k_is)
  (case cIo => k_is)
  (case kIo => k_is)
  (case pPr => k_is)
  (case pgtPr => k_is)
  (case ptkPr => k_is)
  (case aPr => k_is)
  (case lPr => k_is)
  (case cPr => k_is)
  (case kPr => k_is)
  (case aEs => k_is)
  (case iEs => k_is)
  (case lEs => k_is)
  (case cEs => k_is)
  (case kEs => k_is)
  (case aMt => k_is)
  (case iMt => k_is)
  (case lMt => k_is)
  (case cMt => k_is)
  (case kMt => k_is)
  (case aMp => k_is)
  (case iMp => k_is)
  (case lMp => k_is)
  (case cMp => k_is)
  (case kMp => k_is)
  (case aMk => k_is)
  (case iMk => k_is)
  (case lMk => k_is)
  (case cMk => k_is)
  (case kMk => k_is)
  (case aUn => k_is)
  (case iUn => k_is)
  (case lUn => k_is)
  (case cUn => k_is)
  (case kUn => k_is)
  (case pHi => k_is)
  (case pgtHi => k_is)
  (case ptkHi => k_is)
  (case aHi => k_is)
  (case lHi => k_is)
  (case cHi => k_is)
  (case kHi => k_is)
  (case aLv => k_is)
  (case iLv => k_is)
  (case lLv => k_is)
  (case cLv => k_is)
  (case kLv => k_is)
  (case pRp => k_is)
  (case aRp => k_is)
  (case fiRp => k_is)
  (case lRp => k_is)
  (case cRp => k_is)
  (case kRp => k_is)
  (case aLx => k_is)
  (case iLx => k_is)
  (case lLx => k_is)
  (case cLx => k_is)
  (case kLx => k_is)
  (case aAy => k_is)
  (case iAy => k_is)
  (case lAy => k_is)
  (case cAy => k_is)
  (case kAy => k_is)
  (case bgAy => k_is)
  (case btAy => k_is)
  (case bfAy => k_is)
  (case caA => k_is)
  (case laA => k_is)
  (case haA => exact ⟨⟨_, _, rfl, rfl⟩, ⟨_, _, rfl, rfl⟩, ⟨_, _, rfl, rfl⟩, trivial⟩)
  (case vaAtilt => k_is)
  (case vaAput => k_is)
  (case vaAtake => k_is)
  (case caS => k_is)
  (case laS => k_is)
  (case haS => exact ⟨⟨_, _, rfl, rfl⟩, ⟨_, _, rfl, rfl⟩, ⟨_, _, rfl, rfl⟩, trivial⟩)
  (case vaStilt => k_is)
  (case vaSput => k_is)
  (case vaStake => k_is)
  (case nSys => first | rfl | decide)
  (case aCk => k_is)
  (case lCk => k_is)
  (case cCk => k_is)
  (case kCk => k_is)
  (case aPk => k_is)
  (case lPk => k_is)
  (case cPk => k_is)
  (case kPk => k_is)
  (case aUp => k_is)
  (case lUp => k_is)
  (case cUp => k_is)
  (case kUp => k_is)
  (case aRd => k_is)
  (case lRd => k_is)
  (case cRd => k_is)
  (case kRd => k_is)
  (case aEn => k_is)
  (case lEn => k_is)
  (case cEn => k_is)
  (case kEn => k_is)
  (case aDe => k_is)
  (case lDe => k_is)
  (case cDe => k_is)
  (case kDe => k_is)
  (case cMY => k_is)
  (case cFB => k_is)
  (case cHS => k_is)
  (case cFC => k_is)
  (case cCM => k_is)
  (case aBd => k_is)
  (case lBd => k_is)
  (case cBd => k_is)
  (case kBd => k_is)
  (case aDr => k_is)
  (case lDr => k_is)
  (case cDr => k_is)
  (case kDr => k_is)
  (case aKl => k_is)
  (case lKl => k_is)
  (case cKl => k_is)
  (case kKl => k_is)
  (case aPd => k_is)
  (case lPd => k_is)
  (case cPd => k_is)
  (case kPd => k_is)
  (case aMz => k_is)
  (case lMz => k_is)
  (case cMz => k_is)
  (case kMz => k_is)
  (case aPo => k_is)
  (case lPo => k_is)
  (case cPo => k_is)
  (case kPo => k_is)
  (case aFl => k_is)
  (case lFl => k_is)
  (case cFl => k_is)
  (case kFl => k_is)
  (case aTk => k_is)
  (case lTk => k_is)
  (case cTk => k_is)
  (case kTk => k_is)
  (case aRw => k_is)
  (case lRw => k_is)
  (case cRw => k_is)
  (case kRw => k_is)
  (case aTx => k_is)
  (case lTx => k_is)
  (case cTx => k_is)
  (case kTx => k_is)
  (case aTy => k_is)
  (case lTy => k_is)
  (case cTy => k_is)
  (case kTy => k_is)
  (case aIw => k_is)
  (case lIw => k_is)
  (case cIw => k_is)
  (case kIw => k_is)
  (case aLg => k_is)
  (case lLg => k_is)
  (case cLg => k_is)
  (case kLg => k_is)
  (case aLw => k_is)
  (case lLw => k_is)
  (case cLw => k_is)
  (case kLw => k_is)
  (case ge2 => k_is)
  (case xL2 => k_is)
  (case xb2 => first | rfl | decide +kernel)
  (case xsa2 => k_is)
  (case xex2 => k_is)
  (case xty2 => k_is)
  (case xk2 => k_is)
  (case aIx2 => k_is)
  (case tIx2 => k_is)
  (case lIx2 => k_is)
  (case cIx2 => k_is)
  (case kx12 => k_is)
  (case kx22 => rfl)
  (case kx32 => first | rfl | decide +kernel)
  (case kx42 => k_is)
  (case kx52 => k_is)
  (case kx62 => kernel_rfl)
  (case kx72 => k_is)
  (case nI3 => k_is)
  (case kx8 => k_is)
  (case kx9 => first | rfl | decide +kernel)
  (case ge3 => k_is)
  (case q3 => kernel_rfl)
  (case k3 => k_is)
  (case t3 => k_is)
  (case hs_3 => k_is)
  (case eAR => first | rfl | decide +kernel)
  (case eAC => first | rfl | decide +kernel)
  (case eEM => first | rfl | decide +kernel)
  (case eLE => first | rfl | decide +kernel)
  (case eMS => first | rfl | decide +kernel)
  (case eMX => first | rfl | decide +kernel)
  (case eaStilt => first | rfl | decide +kernel)
  (case eaSput => first | rfl | decide +kernel)
  (case eaStake => first | rfl | decide +kernel)
  (case eMY => first | rfl | decide +kernel)
  (case eFB => first | rfl | decide +kernel)
  (case eHS => first | rfl | decide +kernel)
  (case eFC => first | rfl | decide +kernel)
  (case eCM => first | rfl | decide +kernel)
  (case hDC => first | decide | omega)
  (case h0 => first | decide | omega)
  (case hn => first | decide | omega)
